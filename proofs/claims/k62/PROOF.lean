import PyProof.Rows.All
import Wide.All
import OpenK.AllK
import Wide.FinOn
import Lean
import PyProof.EqAt
import PyProof.EqKinds
import PyProof.TupleCall
import PyProof.NeKinds
import PyProof.WalksEnum
import PyProof.EnumMake
import KE.KTryMore
import PyProof.NsDelKeeps
import PyProof.SumWalkG
import PyProof.SeqI3
import KE.KDictSum
import PyProof.AttrMiss
import PyProof.IsiH_list
import KE.KDictOf
import PyProof.ZipIter
import PyProof.TupleIter
import PyProof.EnumIter
import PyProof.StrCalls
import PySem.Challenge.RW_fewcounters_k62_whole_any_words
import PyProof.StrCalls2
import PyProof.StrCalls3
import PyProof.StrLawsTight
import PyProof.StrLawsChain
import PyProof.StrLawsJoin
import PyProof.Rows.StrItems
import PyProof.StrWalks
import PyProof.FString5
import PyProof.Rows.Range3
import KE.KRevIter
import PyProof.MeetsDict
set_option Elab.async false
set_option linter.all false
set_option maxRecDepth 100000
set_option maxHeartbeats 4000000
abbrev Hq:=PySem.Str->Option PySem.Value
abbrev Hr:=List (PySem.Addr×PySem.Obj)
abbrev Hs:=List Int
abbrev Ht:=List PySem.Str
abbrev Hu:=Option PySem.Value
abbrev Hv:=List PySem.Addr
abbrev Hw:=List PySem.Value
abbrev Hx:=List PySem.Expr
abbrev Hy:=List (Int×Int)
theorem Ny{a b:Prop}(h:a)(g:¬a):b:=absurd h g
theorem Nz{c:Prop}[Decidable c](n:¬c){α:Type _}{t e:α}:(ite c t e)=e:=if_neg n
theorem ND{c:Prop}[Decidable c](n:c){α:Type _}{t e:α}:(ite c t e)=t:=if_pos n
theorem NF{p:Prop}[Decidable p](h:decide p=true):p:=of_decide_eq_true h
theorem NG{p:Prop}[Decidable p](h:decide p=false):¬p:=of_decide_eq_false h
theorem NH{p:Prop}[Decidable p](h:¬p):decide p=false:=decide_eq_false h
open Array renaming length_toList→Hz,getD_eq_getD_getElem?→HB
open Bool renaming false_ne_true→HE,and_eq_true→HF,eq_iff_iff→HG,or_eq_true_iff→HH,or_eq_false_iff→HJ,and_eq_true_iff→HK,false_eq_true→HL,and_false→HM,or_true→HN
open False renaming elim→HP
open ForInStep renaming yield→HQ
open Int renaming emod_lt_of_pos→HR,emod_nonneg→HS
open List renaming length_map→HU,length_append→HV,getElem?_eq_some_iff→HW,mem_singleton→HX,getD_eq_getElem?_getD→HY,replicate→HZ,mem_cons_of_mem→Ia,getElem?_eq_getElem→Ib,mem_cons_self→Ic,mem_append_right→Ie,size_toArray→Ig,mem_cons→Ih,getElem?_map→Ii,mem_append→Ij,mem_append_left→Ik,not_mem_nil→Il,length_take→Im,mem_map→Io,append_nil→Ip,dropLast_concat_getLast→Iq,Nodup→Ir,map_cons→Iu,filterMap_cons→Iv,mem_of_getElem?→Iw,length_cons→Iy,length_replicate→Iz,length_filter_le→IA,length_singleton→IB,map_append→IC,replicate_succ→ID,getElem?_append_right→IE,getElem?_append_left→IF,getElem?_set_self→IG,lookup_cons→IH,filter_eq_self→II,getElem?_set_ne→IJ,take_succ→IK,range→IL,mem_filter→IM,lookup→IP,append_assoc→IQ,map_map→IS,length_reverse→IT,mem_iff_getElem?→IU,getElem?_replicate→IW,find?_cons→IX,length_drop→IY,all_eq_true→IZ,flatten_cons→I0,length_range→Ja,mem_range→Jb,length_set→Jc,dropLast_sublist→Jd,take_length→Je,isEmpty_iff→Jf,length_dropLast→Jg,dropLast_concat→Jh,mem_of_mem_drop→Ji,foldl_append→Jj,length_eq_zero_iff→Jk,getElem?_range→Jl,getElem_mem→Jm,nodup_cons→Jn,any_cons→Jo,map_congr_left→Jp,flatMap_append→Jq,mem_filterMap→Jr,filter_append→Js,map_singleton→Jt,drop_of_length_le→Ju,append_eq_nil_iff→Jv,foldl_cons→Jw,getElem?_eq_none→Jx,mem_of_mem_take→Jy,any_eq_true→Jz,mem_flatMap→JA,map_nil→JB,map_eq_nil_iff→JC,of_mem_zip→JD,all_cons→JE,forIn_cons→JF,filter_map→JG,mem_replicate→JH
open Nat renaming le_refl→JI,le_trans→JJ,lt_of_lt_of_le→JK,ne_of_lt→JL,zero_le→JM,lt_of_le_of_lt→JN,lt_or_ge→JO,lt_irrefl→JP,lt_succ_self→JQ,le_succ→JR,le_add_right→JS,le_of_lt→JT,ne_of_gt→JU,not_lt→JV,min_le_right→JW
open Ne renaming symm→JX
open Option renaming some_ne_none→JY,map_eq_some_iff→JZ,map_some→J0,isSome_map→J1
open Or renaming inr→J2,inl→J3
open PyProof.Rows renaming envOfC→J4,slot_tuple_getitem→J5,callWith_type1→J6,AllBare→J7,boot_isinstance→J8,IntsAre→J9,subscriptTail→Ka
open PySem renaming wpAny_bind→Kb,Shared→Kc,sizeLine→Ke,starEach→Kf,wpAny_pure→Kg,Program→Kh,mainGlobals→Ki,Around→Kj,attributeBase→Kk,wpAny_mono→Kl,swapsWith→Km,FuncData→Kn,backTo→Ko,compareOp→Kp,wpAny_truthy_bool→Kq,mem_of_lookup→Kr,wpAny_field→Ks,wpAny_execs_cons→Kt,wpAny_holding→Ku,sysModules→Kv,wpAny_callSpecial?_slot→Kw,Keyword→Kx,bootBuiltins→Kz,IsPair→KA,foldedSetIterable→KC,wpAny_newObj_type→KD,valueAt→KG,wpAny_seqItems→KH,wpAny_Call_Name_kw→KI,wpAny_setField_rec→KJ,wpAny_passesOwn→KL,behindInMarks→KN,binaryOp→KO,call_meets→KP,keywordEach→KQ,wpAny_call_entry→KR,wpAny_execs_nil→KS,wpAny_loadPart_at→KU,boot_len→KW,assignEach→KY,NameKind→KZ,codeAny_call_builtin→K0,holding→K2,sliceBounds→K3,isTrue→K4,assign→K5,codeAny_mono→K6,backToKw→K7,tupleKind_room_in1→K8,wpAny_call→K9,getItem→La,wpAny_pyIter_list→Lb,sizeLine_eq→Lc,wpAny_standAt→Le,wpAny_attempt→Lf,checkBuiltinCall→Lg,letOwnedTupleGo→Lh,IsPart→Li,wpAny_rule→Lj,wpAny_updateSeq_pair→Lk,codeAny→Ll,boundAndCalled→Lm,Builtin→Ln,intBits_le_64→Lo,wpAny_onRaise→Lp,typeIs_str→Lq,isInstance→Lr,standAt→Ls,callerA→Lu,GenState→Lv,rawInt→Lw,wpAny_typeOf→Lx,tupleKind→Ly,PassesOwn→Lz,strValues→LA,IsRangeIter→LC,subscripted→LD,excClassObj→LG,pyNext→LH,wpAny_loadPart→LJ,BindsTo→LL,dictSetDefault→LM,IntMulOk→LO,bindArgs→LP,ZipApart→LQ,swapsWithSole→LS,swappedStores→LU,frameOf→LV,Str→LX,Within→LY
open PySem.Around renaming under→LZ
open PySem.Builtin.List renaming listTooLong→L3
open PySem.Builtin.Range renaming rangeSize→L4
open PySem.Builtin.Slice renaming slicePlaces→L5,sliceAdjust→L6
open PySem.Builtin.SmallTypes renaming nextOf→L7,ownedTupleIsFree→L8
open PySem.Builtin.Str renaming occurrences→L9
open PySem.Builtin.Tuple renaming tupleExact→Ma
open PySem.Calls renaming callWith_builtin→Mb,spliced_cons→Mc
open PySem.Code renaming quiet_builtin→Md,isFrame→Me
open PySem.F renaming plainAttrs_list→Mf,slot_tuple_iterator_next→Mg,attr_ValueError→Mh,slot_zip_next→Mi,args_str_split_2→Mj,entry_str_split→Ml,slot_str_split→Mm
open PySem.Heap renaming get?_push_of_some→Mn,lt_size→Mo,get?_push_size→Mp,size_push→Mq,get?_update_self→Mr,SameBut→Ms,get?_none_of_le→Mt,FlyingW→Mu,get?_update_ne→Mv,dictOf_iff→Mw,MadeExcOf→Mx
open PySem.Heap.SameBut renaming update→My
open PySem.NameKind renaming cell→Mz
open PySem.Obj renaming mapSeq→MA
open PySem.PyData renaming keyHash→MB
open PySem.Sem renaming wp→MC
open PySem.Str renaming ofString→ME
open PySem.Value renaming ref→MF,builtin→MG,none→MH,int→MI,str→MJ,bool→ML,float→MM,type→MN
open PySem.W renaming Frag→MO,nsIn→MP,findIn→MQ,mg_none_of→MR,keepIn→MT,mg_of→MU,hideAll→MV,fnOf→MW,kia_one→MY,hideAll_none→MZ,emptyDict→M0,kitOne→M4,codeIn→M5,instObj→M7,hideAll_get→M8,hasDictIn→M9,plainGet→Na,of_hideAll→Nb,callWith_K→Nc,looks_findIn→Nd,plainOver→Nf,makesIn→Ng,isFn→Nh,tailIn→Ni,exmOne→Nj,methodObj→Nk,takerIn→Nl,OpenLaw→Nm,lookIn→Nn,findIn→Np,nsOkIn→Nq,clsIn→Nr,excIn→Nt
open PySem.W.Looks renaming here→Nu
open Sum renaming inl→Nv,inr→Nw
open True renaming intro→Nx
open List(length_nil forIn_nil any_map mem_reverse length_zip cons_ne_nil drop_left)
abbrev N3(x:LX):Prop:=(x==("__debug__":LX))=false
abbrev Ov(x:LX):Prop:=(x==("__classdict__":LX))=false
def OA:Lean.Syntax:=Lean.Unhygienic.run `(Lean.Parser.Tactic.tacticSeq|first | exact J3 rfl | exact J2 (J3 rfl) | exact J2 (J2 rfl))
def Pw:Lean.Syntax:=Lean.Unhygienic.run `(Lean.Parser.Tactic.tacticSeq|first | exact J3 rfl | exact J2 rfl)
def Pu:Lean.Syntax:=Lean.Unhygienic.run `(Lean.Parser.Tactic.tacticSeq|first | exact .inl rfl | exact .inr rfl)
namespace L2
open PySem PySem.Spec PyProof.Rows
variable {a b:Addr}
abbrev Key:=Sum Int Str
def jU:Key->Value->Bool
 | .inl k,v=>Value.isInt k v
 | .inr x,v=>Value.isStrOf x v
def GO (w:World):Key->Int
 | .inl k=>hashInt k
 | .inr x=>hashStr w x
theorem cN:∀{k:Key}{v:Value},jU k v=true->(∃i t,k=Nv i/\v=MI i t)∨(∃x t,k=Nw x/\v=MJ x t)
 | .inl i,v,h=>by
   obtain⟨t,e⟩:=Value.isInt_shape (k:=i) (v:=v) h;exact .inl ⟨i,t,rfl,e⟩
 | .inr x,v,h=>by
   obtain⟨t,e⟩:=Value.isStrOf_shape (x:=x) (v:=v) h;exact .inr ⟨x,t,rfl,e⟩
theorem vq (i:Int)(t:Tok):jU (.inl i) (.int i t)=true:=by simp[jU,Value.isInt]
theorem uF (x:Str)(t:Tok):jU (.inr x) (.str x t)=true:=by simp[jU,Value.isStrOf]
theorem BD (a b:Int):decide ((Nv a:Key)=Nv b)=(a==b):=by
 by_cases e:a=b
 ·subst e;simp
 ·have h:¬(Nv a:Key)=Nv b:=λq=>e (Nv.inj q);rw[NH h];exact(beq_eq_false_iff_ne.mpr e).symm
theorem A0 (a b:Str):decide ((Nw a:Key)=Nw b)=decide (a=b):=by
 by_cases e:a=b
 ·subst e;simp
 ·have h:¬(Nw a:Key)=Nw b:=λq=>e (Nw.inj q);rw[NH h,NH e]
theorem Bn (a:Int)(b:Str):decide ((Nv a:Key)=Nw b)=false:=NH (λq=>nomatch q)
theorem BI (a:Str)(b:Int):decide ((Nw a:Key)=Nv b)=false:=NH (λq=>nomatch q)
def bH (prog:Kh)(w:World):PySem.KeyKind prog w Key where
 is:=jU
 hash:=GO w
 inj:=λv a b ha hb=>by
  rcases cN ha with⟨i,t,rfl,rfl⟩ | ⟨x,t,rfl,rfl⟩
  ·rcases cN hb with⟨j,u,rfl,e⟩ | ⟨y,u,rfl,e⟩
   ·injection e with e1 _;rw[e1]
   ·exact nomatch e
  ·rcases cN hb with⟨j,u,rfl,e⟩ | ⟨y,u,rfl,e⟩
   ·exact nomatch e
   ·injection e with e1 _;rw[e1]
 byValue:=λk v h=>by
  rcases cN h with⟨i,t,rfl,rfl⟩ | ⟨x,t,rfl,rfl⟩<;>rfl
 pyHash:=λhv h=>by
  rcases cN hv with⟨i,t,rfl,rfl⟩ | ⟨x,t,rfl,rfl⟩
  ·exact wpAny_pyHash_int h
  ·exact wpAny_pyHash_str h
 eqBool:=λhu hv h=>by
  rcases cN hu with⟨i,t,rfl,rfl⟩ | ⟨x,t,rfl,rfl⟩
  ·rcases cN hv with⟨j,u,rfl,rfl⟩ | ⟨y,u,rfl,rfl⟩
   ·rw[BD] at h;exact wpAny_eqBool_int h
   ·rw[Bn] at h;exact SeqAt.EqAt.int_str i t y u _ _ _ _ h
  ·rcases cN hv with⟨j,u,rfl,rfl⟩ | ⟨y,u,rfl,rfl⟩
   ·rw[BI] at h;exact SeqAt.EqAt.str_int x t j u _ _ _ _ h
   ·rw[A0] at h;exact wpAny_eqBool_str h
 «strs»:=λk x t v h=>by
  rcases cN h with⟨i,u,rfl,e⟩ | ⟨y,u,rfl,e⟩
  ·exact nomatch e
  ·injection e with e1 _;subst e1;cases v<;>rfl
theorem qY (prog:Kh)(w:World)(i:Int)(t:Tok):(bH prog w).is (.inl i) (.int i t)=true:=vq i t
theorem cM (prog:Kh)(w:World)(x:Str)(t:Tok):(bH prog w).is (.inr x) (.str x t)=true:=uF x t
inductive V where
 | NS | bl (b:Bool) | int (i:Int) | str (x:Str) | Pr (b:Array UInt8) | Q5 (b:UInt64) | ref (a:Addr) | ty (n:String)
 deriving DecidableEq
def RelV:V->Value->Prop
 | .NS,u=>u=MH
 | .bl b,u=>u=ML b
 | .int i,u=>∃t,u=MI i t
 | .str x,u=>∃t,u=MJ x t
 | .Pr b,u=>∃t,u=Value.bytes b t
 | .Q5 b,u=>∃t,u=MM b t
 | .ref a,u=>u=MF a
 | .ty n,u=>u=MN n
abbrev Vals:List V->Hw->Prop:=Paired RelV
theorem Vals.length {xs:List V}{us:Hw}(r:Vals xs us):xs.length=us.length:=Paired.length r
theorem Vals.get:∀{xs:List V}{us:Hw}{i:Nat}{x:V},Vals xs us->xs[i]?=some x->∃u,us[i]?=some u/\RelV x u
 | _,_,_,_,.nil,e=>by simp at e
 | _,_,0,_,.cons r _,e=>by simp at e;subst e;exact⟨_,rfl,r⟩
 | _,_,i+1,x,.cons _ t,e=>by
   obtain⟨u,h1,h2⟩:=Vals.get (i:=i) (x:=x) t (by simpa using e);exact⟨u,by simpa using h1,h2⟩
theorem Vals.set {x:V}{u:Value}(r:RelV x u):∀{xs:List V}{us:Hw}(i:Nat),Vals xs us->Vals (xs.set i x) (us.set i u)
 | _,_,_,.nil=>.nil
 | _,_,0,.cons _ t=>.cons r t
 | _,_,i+1,.cons q t=>.cons q (Vals.set r i t)
theorem Vals.append:∀{xs ys:List V}{us ws:Hw},Vals xs us->Vals ys ws->Vals (xs++ys) (us++ws)
 | _,_,_,_,.nil,s=>s
 | _,_,_,_,.cons r t,s=>.cons r (Vals.append t s)
theorem Vals.take:∀{xs:List V}{us:Hw}(n:Nat),Vals xs us->Vals (xs.take n) (us.take n)
 | _,_,0,_=>.nil
 | _,_,_+1,.nil=>.nil
 | _,_,n+1,.cons r t=>.cons r (Vals.take n t)
theorem Vals.drop:∀{xs:List V}{us:Hw}(n:Nat),Vals xs us->Vals (xs.drop n) (us.drop n)
 | _,_,0,r=>r
 | _,_,_+1,.nil=>.nil
 | _,_,n+1,.cons _ t=>Vals.drop n t
def eP:Option V->Hu->Prop
 | some v,some u=>RelV v u
 | none,none=>True
 | _,_=>False
def KV {κ:Type}:List (κ×V)->List (κ×Value)->Prop:=Paired λ(p:κ×V)(q:κ×Value)=>p.1=q.1/\RelV p.2 q.2
def kV:Key->V
 | .inl i=>.int i
 | .inr x=>.str x
inductive HO where
 | lst (xs:List V)
 | tup (xs:List V)
 | dK (kvs:List (Key×V)) | dT (kvs:List (List Key×V))
 | set (S:Int->Bool) (n:Nat)
 | ins (C dx:Addr) (fs:List (Str×V))
 | own (x:Addr)
 | xd (fs:List (Str×V))
 | met (f x:Addr)
 | Qw (lo hi:Int)
 | OG (o:Obj) (u:HO)
 | Qu (ps:Array Value)
 | ext (φ:Heap->Prop)
abbrev Hp:=Addr->Option HO
def upd (H:Hp)(a:Addr)(o:HO):Hp:=λb=>if b=a then some o else H b
theorem aD {H:Hp}{o:HO}:upd H a o a=some o:=by unfold upd;rw[ND rfl]
theorem aB {H:Hp}{o:HO}(h:b≠a):upd H a o b=H b:=by unfold upd;rw[Nz h]
theorem DR {H:Hp}{o u:HO}(h:H a=some o)(h':H b=some u)(d:o≠u):a≠b:=by
 intro e;subst e;rw[h] at h';exact d (Option.some.inj h')
theorem cu {H:Hp}{o:HO}(h:H a=some o)(h':H b=none):a≠b:=by
 intro e;subst e;rw[h] at h';cases h'
section
variable (P:Kh)(w:World)
def bK (H:Hp)(h:Heap)(a:Addr):HO->Prop
 | .lst xs=>xs.length<=Ke/\∃(NJ:Hw)(n:Nat),Vals xs NJ/\h.get? a=some {cls:=.type "list",data:=.seq NJ.toArray n}
 | .tup xs=>xs.length<=Ke/\∃NJ:Hw,Vals xs NJ/\IsTup h a NJ.toArray
 | .dK kvs=>kvs.length<=Ke/\(a==Kv)=false/\∃vs,KV kvs vs/\h.DictOf (bH P w) a vs
 | .dT kvs=>kvs.length<=Ke/\(a==Kv)=false/\∃xs:List (List Key×Addr×Value),
  Paired (λ(p:List Key×V)(q:List Key×Addr×Value)=>p.1=q.1/\H q.2.1=some (.tup (p.1.map kV))/\RelV p.2 q.2.2) kvs xs/\
  ∃o es ep,h.get? a=some o/\o.ExactDict/\o.data= .dict es ep/\es.toList=xs.map (entryOfKey (Ly (bH P w)))/\(xs.map (·.1)).Nodup
 | .set S n=>h.SetOf (intKind P w) a S n
 | .ins C dx fs=>H dx=some (.own a)/\fs.length<=1000/\dx≠a/\h.get? a=some (M7 C dx)/\
  ∃mA,h.Ns1 dx mA/\(∀f,eP (fs.lookup f) (mA f))/\LY mA (fs.map (·.1))
 | .own _=>∃o,h.get? a=some o
 | .xd fs=>∃mA,h.Ns1 a mA/\∀f,eP (fs.lookup f) (mA f)
 | .Qw lo hi=>∃t u v,h.get? a=some {cls:=.type "range",data:=.fields #[.int lo t,.int hi u,.int 1 v]}
 | .OG o u=>h.get? a=some o/\bK H h a u
 | .Qu ps=>h.get? a=some {cls:=.none,data:=.fields ps}
 | .met f x=>h.get? a=some (Nk (.ref f) (.ref x))
 | .ext φ=>φ h/\(∃o,h.get? a=some o)/\∀h1 h2:Heap,φ h1->(∀o,h1.get? a=some o->h2.get? a=some o)->φ h2
def bT (H:Hp)(h:Heap):Prop:=∀a o,H a=some o->bK P w H h a o
end
variable {H:Hp}{P:Kh}{w:World}{H':Hp}{h h':Heap}
section
variable {o:HO}
theorem bK.lt (x:bK P w H h a o):a<h.objs.size:=by
 cases o with
 | lst xs=>obtain⟨_,_,_,_,e⟩:=x;exact Mo e
 | tup xs=>obtain⟨_,_,_,p⟩:=x;exact p.lt
 | dK kvs=>obtain⟨_,_,_,_,o,_,_,e,_⟩:=x;exact Mo e
 | dT kvs=>obtain⟨_,_,_,_,o,_,_,e,_⟩:=x;exact Mo e
 | set S n=>obtain⟨o,_,_,_,e,_⟩:=x;exact Mo e
 | ins C dx fs=>obtain⟨_,_,_,e,_⟩:=x;exact Mo e
 | own y=>obtain⟨_,e⟩:=x;exact Mo e
 | xd fs=>obtain⟨_,⟨_,_,_,e,_⟩,_⟩:=x;exact Mo e
 | Qw lo hi=>obtain⟨_,_,_,e⟩:=x;exact Mo e
 | OG ob u=>obtain⟨e,_⟩:=x;exact Mo e
 | Qu ps=>exact Mo (show h.get? a=some _ from x)
 | met f y=>exact Mo (show h.get? a=some _ from x)
 | ext φ=>obtain⟨_,⟨_,e⟩,_⟩:=x;exact Mo e
theorem Paired.wN {α β:Type}{F G:α->β->Prop}:∀{l₁:List α}{l₂:List β},Paired F l₁ l₂->(∀a b,F a b->G a b)->Paired G l₁ l₂
 | _,_,.nil,_=>.nil
 | _,_,.cons r t,f=>.cons (f _ _ r) (Paired.wN t f)
theorem bK.fC (x:bK P w H h a o)(k:∀b u,(b=a∨H b=some (.own a))->h.get? b=some u->h'.get? b=some u)(ho:∀b,H b=some (.own a)->H' b=some (.own a))(ht:∀b xs,H b=some (.tup xs)->H' b=some (.tup xs)):bK P w H' h' a o:=by
 induction o with
 | lst xs=>obtain⟨z,NJ,n,r,e⟩:=x;exact⟨z,NJ,n,r,k _ _ (.inl rfl) e⟩
 | tup xs=>obtain⟨z,NJ,r,ob,e,c⟩:=x;exact⟨z,NJ,r,ob,k _ _ (.inl rfl) e,c⟩
 | dK kvs=>obtain⟨z,y,vs,r,ob,es,ep,e,c⟩:=x;exact⟨z,y,vs,r,ob,es,ep,k _ _ (.inl rfl) e,c⟩
 | dT kvs=>
   obtain⟨z,y,xs,r,ob,es,ep,e,c⟩:=x;exact⟨z,y,xs,Paired.wN r λp q z=>⟨z.1,ht _ _ z.2.1,z.2.2⟩,ob,es,ep,k _ _ (.inl rfl) e,c⟩
 | set S n=>obtain⟨ob,es,ep,t,e,c⟩:=x;exact⟨ob,es,ep,t,k _ _ (.inl rfl) e,c⟩
 | ins C dx fs=>
   obtain⟨d,z,ne,e,mA,⟨od,es,ep,e2,c⟩,r⟩:=x;exact⟨ho _ d,z,ne,k _ _ (.inl rfl) e,mA,⟨od,es,ep,k _ _ (.inr d) e2,c⟩,r⟩
 | own y=>obtain⟨ob,e⟩:=x;exact⟨ob,k _ _ (.inl rfl) e⟩
 | xd fs=>obtain⟨mA,⟨od,es,ep,e,c⟩,r⟩:=x;exact⟨mA,⟨od,es,ep,k _ _ (.inl rfl) e,c⟩,r⟩
 | Qw lo hi=>obtain⟨t,u,v,e⟩:=x;exact⟨t,u,v,k _ _ (.inl rfl) e⟩
 | OG ob u ih=>obtain⟨e,q⟩:=x;exact⟨k _ _ (.inl rfl) e,ih q⟩
 | Qu ps=>
   have e:h.get? a=some {cls:=.none,data:=.fields ps}:=x;show h'.get? a=some {cls:=.none,data:=.fields ps};exact k a _ (.inl rfl) e
 | met f y=>
   have e:h.get? a=some (Nk (.ref f) (.ref y)):=x;show h'.get? a=some (Nk (.ref f) (.ref y));exact k a _ (.inl rfl) e
 | ext φ=>obtain⟨p,⟨o,e⟩,st⟩:=x;exact⟨st _ _ p λo q=>k _ _ (.inl rfl) q,⟨o,k _ _ (.inl rfl) e⟩,st⟩
theorem bT.lt (x:bT P w H h)(e:H a=some o):a<h.objs.size:=(x a o e).lt
theorem bT.fresh (x:bT P w H h)(e:h.objs.size<=a):H a=none:=by
 cases q:H a with
 | none=>rfl
 | some u=>exact Ny (JK (x.lt q) e) (JP _)
theorem bT.kept (x:bT P w H h)(k:∀b u,h.get? b=some u->h'.get? b=some u):bT P w H h':=λa o e=>
 (x a o e).fC (λb u _ q=>k b u q) (λ_ q=>q) λ_ _ q=>q
theorem bT.laid (x:bT P w H h)(k:∀b u,h.get? b=some u->h'.get? b=some u)(hp:h.objs.size<=a)(new:bK P w (upd H a o) h' a o):bT P w (upd H a o) h':=λb u e=>by
 have hn:=x.fresh hp;by_cases hb:b=a
 ·subst hb;rw[aD] at e;cases e;exact new
 ·rw[aB hb] at e;exact(x b u e).fC (λc v _ q=>k c v q) (λc q=>by rw[aB (cu q hn)];exact q) λc xs q=>by rw[aB (cu q hn)];exact q
end
def Rd (H:Hp)(a:Addr)(u:HO):Prop:=H a=some u∨∃o,H a=some (.OG o u)
theorem Rd.ok {u:HO}(r:Rd H a u)(x:bT P w H h):bK P w H h a u:=by
 rcases r with r | ⟨o,r⟩
 ·exact x a u r
 ·obtain⟨_,q⟩:=x a _ r;exact q
def vm:Option HO->Prop
 | some (.lst _)=>True
 | some (.dK _)=>True
 | some (.dT _)=>True
 | some (.set _ _)=>True
 | some (.ins _ _ _)=>True
 | some (.ext _)=>True
 | _=>False
section
variable {x e:Addr}{o':HO}
theorem bT.write (ok:bT P w H h)(mu:vm (H x))(he:e=x∨H e=some (.own x))(k:∀b u,b≠e->h.get? b=some u->h'.get? b=some u)(Rj:∃u,h'.get? e=some u)(new:bK P w (upd H x o') h' x o'):bT P w (upd H x o') h':=λb u q=>by
 have Rz:∀c y,H c=some (.own y)->c≠x:=λc y r z=>by subst z;rw[r] at mu;exact mu
 have ntup:∀c xs,H c=some (.tup xs)->c≠x:=λc xs r z=>by subst z;rw[r] at mu;exact mu
 by_cases hb:b=x
 ·subst hb;rw[aD] at q;cases q;exact new
 ·rw[aB hb] at q;by_cases Qb:b=e
  ·have q':H b=some (.own x):=by
    rcases he with z | z
    ·exact Ny (Qb.trans z) hb
    ·rw[Qb];exact z
   rw[q] at q';cases q'
   obtain⟨v,hv⟩:=Rj;exact⟨v,by rw[Qb];exact hv⟩
  ·refine(ok b u q).fC (λc v hc r=>k c v ?_ r) (λc r=>by rw[aB (Rz c b r)];exact r) λc xs r=>by rw[aB (ntup c xs r)];exact r
   rcases hc with rfl | hc
   ·exact Qb
   ·rintro rfl;rcases he with z | z
    ·exact Rz c b hc z
    ·rw[hc] at z;cases z;exact hb rfl
end
structure Un (fs ex:Hv)(H H':Hp)(h h':Heap):Prop where
 keep:∀b o,h.get? b=some o->H b=none->b∉fs->b∉ex->h'.get? b=some o
 slot:∀b o,h.get? b=some o->H b=none->b∈fs->b∉ex->∃sl,h'.get? b=some {o with slots:=sl}
 free:∀b o,h.get? b=some o->H b=none->b∉ex->H' b=none
 there:∀b o,h.get? b=some o->b∉ex->∃o',h'.get? b=some o'
 N9:∀b xs,H b=some (.tup xs)->H' b=some (.tup xs)
 N7:∀b o u,H b=some (.OG o u)->H' b=some (.OG o u)
 Oa:∀b ps,H b=some (.Qu ps)->∃more,H' b=some (.Qu (ps++more))
section
variable {fs fs' ex ex':Hv}{H1 H2:Hp}{h1 h2:Heap}{x e:Addr}{o:HO}
theorem Un.any (u:Un fs ex H H1 h h1){ob:Obj}(q:h.get? b=some ob)(n:H b=none)(hx:b∉ex):∃sl,h1.get? b=some {ob with slots:=sl}:=by
 by_cases hb:b∈fs
 ·exact u.slot b ob q n hb hx
 ·exact⟨ob.slots,u.keep b ob q n hb hx⟩
theorem Un.trans (a:Un fs ex H H1 h h1)(b:Un fs ex H1 H2 h1 h2):Un fs ex H H2 h h2 where
 keep:=λc ob q n hc hx=>b.keep c ob (a.keep c ob q n hc hx) (a.free c ob q n hx) hc hx
 slot:=λc ob q n hc hx=>by
  obtain⟨sl,e1⟩:=a.slot c ob q n hc hx;obtain⟨P6,e2⟩:=b.slot c _ e1 (a.free c ob q n hx) hc hx;exact⟨P6,e2⟩
 free:=λc ob q n hx=>by
  obtain⟨o',e1⟩:=a.there c ob q hx;exact b.free c o' e1 (a.free c ob q n hx) hx
 there:=λc ob q hx=>by
  obtain⟨o',e1⟩:=a.there c ob q hx;exact b.there c o' e1 hx
 N9:=λc xs q=>b.N9 c xs (a.N9 c xs q)
 N7:=λc ob xs q=>b.N7 c ob xs (a.N7 c ob xs q)
 Oa:=λc ps q=>by
  obtain⟨m1,e1⟩:=a.Oa c ps q;obtain⟨m2,e2⟩:=b.Oa c _ e1;exact⟨m1++m2,by rw[e2,Array.append_assoc]⟩
theorem Un.kept (k:∀b u,h.get? b=some u->h'.get? b=some u):Un fs ex H H h h':=
 ⟨λb ob q _ _ _=>k b ob q,λb ob q _ _ _=>⟨ob.slots,k b ob q⟩,λ_ _ _ n _=>n,λb ob q _=>⟨ob,k b ob q⟩,λ_ _ q=>q,λ_ _ _ q=>q,λ_ ps q=>⟨#[],by rw[q];simp⟩⟩
theorem Un.refl:Un fs ex H H h h:=Un.kept λ_ _ q=>q
theorem Un.laid (k:∀b u,h.get? b=some u->h'.get? b=some u)(hp:h.objs.size<=a)(hn:H a=none):Un fs ex H (upd H a o) h h' where
 keep:=λb u q _ _ _=>k b u q
 slot:=λb u q _ _ _=>⟨u.slots,k b u q⟩
 free:=λb u q n _=>by rw[aB (JL (JK (Mo q) hp))];exact n
 there:=λb u q _=>⟨u,k b u q⟩
 N9:=λb xs q=>by rw[aB (cu q hn)];exact q
 N7:=λb u xs q=>by rw[aB (cu q hn)];exact q
 Oa:=λb ps q=>⟨#[],by rw[aB (cu q hn),q];simp⟩
theorem Un.write (mu:vm (H x))(he:e=x∨H e=some (.own x))(k:∀b u,b≠e->h.get? b=some u->h'.get? b=some u)(Rj:∃u,h'.get? e=some u):Un fs ex H (upd H x o) h h':=by
 have hx:∀b,H b=none->b≠x:=λb n z=>by subst z;rw[n] at mu;exact mu
 have hb:∀b,H b=none->b≠e:=λb n z=>by
  subst z;rcases he with r | r
  ·exact hx b n r
  ·rw[n] at r;cases r
 have hm:∀b u,H b=some u->¬vm (some u)->b≠x:=λb u q nm z=>by subst z;rw[q] at mu;exact nm mu
 refine⟨λb u q n _ _=>k b u (hb b n) q,λb u q n _ _=>⟨u.slots,k b u (hb b n) q⟩,λb u q n _=>by rw[aB (hx b n)];exact n,λb u q _=>?_,
  λb xs q=>by rw[aB (hm b _ q λz=>z)];exact q,λb u xs q=>by rw[aB (hm b _ q λz=>z)];exact q,λb ps q=>⟨#[],by rw[aB (hm b _ q λz=>z),q];simp⟩⟩
 by_cases Qb:b=e
 ·subst Qb;exact Rj
 ·exact⟨u,k b u Qb q⟩
theorem Un.mono (u:Un fs ex H H1 h h1)(hs:∀b∈fs,b∈fs')(hx:∀b∈ex,b∈ex'):Un fs' ex' H H1 h h1:=
 ⟨λb ob q n hb he=>u.keep b ob q n (λz=>hb (hs b z)) λz=>he (hx b z),λ_ _ q n _ he=>u.any q n λz=>he (hx _ z),λb ob q n he=>u.free b ob q n λz=>he (hx b z),λb ob q he=>u.there b ob q λz=>he (hx b z),u.N9,u.N7,u.Oa⟩
end
def yA (h:Heap)(H:Hp):Hv:=(IL h.objs.size).filter λa=>(H a).isSome
def jc (h:Heap)(H:Hp):Heap:=MV h (yA h H)
theorem vB (h:Heap)(H:Hp):(jc h H).objs.size=h.objs.size:=PySem.W.hideAll_size _ _
variable {o:Obj}
theorem wz (e:h.get? b=some o)(n:H b=none):(jc h H).get? b=some o:=
 M8 _ e λhm=>by
  have q:(H b).isSome=true:=(IM.mp hm).2;rw[n] at q;simp at q
theorem zm (e:(jc h H).get? b=some o):h.get? b=some o/\H b=none:=by
 have e':h.get? b=some o:=Nb (yA h H) e;refine⟨e',?_⟩;cases q:H b with
 | none=>rfl
 | some x=>
   have hm:b∈yA h H:=IM.mpr ⟨Jb.mpr (Mo e'),by simp[q]⟩;have z:(jc h H).get? b=none:=MZ (yA h H) hm;rw[z] at e;cases e
structure Mod (K:MO)(mg:Hq)(base:Heap):Prop where
 Q9:K.In base
 glob:base.Ns Ki mg
 blt:∃mb,base.Ns builtinsNs mb/\∀x:Str,x≠"__name__"->mb x=Kz x
 nolimit:base.NoLimit
structure Cx where
 prog:Kh
 w:World
 K:MO
 mg:Hq
 base:Heap
 A:Kj
 N:Ht
 s₀:Kc
 H₀:Hp
 env:Env
 outer:List Env
 stack:List Env
 ex:Hv
 fn:Str->Bool
 calm:Bool
 pn:Hr
 xe:Value->Kc->Prop
def bA (l:List Env):Hv:=l.filterMap (·.frame)
abbrev Cx.fs (X:Cx):Hv:=bA X.outer
def dc (sc:Scope)(x:Str):Prop:=sc.names.lookup x=some .local∨sc.names.lookup x=some .cell∨sc.names.lookup x=some .free
def Loc (sc:Scope)(x:Str):Prop:=sc.names.lookup x=some .local∨sc.names.lookup x=some .cell
def Look (env:Env)(h:Heap)(m:Hq)(x:Str)(u:Value):Prop:=
 (env.kindOf x=some .local/\m x=some u)∨((env.kindOf x=some .cell∨env.kindOf x=some .free)/\∃c,env.cells.lookup x=some c/\h.IsCell c (some u))
structure Cx.Ok (X:Cx):Prop where
 mod:Mod X.K X.mg X.base
 kind:X.env.scope.kind= .function
 glob:X.env.globals=Ki
 blt:X.env.builtins=builtinsNs
 above:X.s₀.heap.objs.size<=X.env.locals
 inj:∀x y c,X.env.cells.lookup x=some c->X.env.cells.lookup y=some c->x=y
 has:∀x,(X.env.kindOf x=some .cell∨X.env.kindOf x=some .free)->∃c,X.env.cells.lookup x=some c
 Qs:∀x c,X.fn x=true->X.env.cells.lookup x=some c->X.s₀.heap.objs.size<=c
 hd:X.calm=true->X.A.handled=none
 frames:X.A.frames=some X.stack
 Qv:X.stack=X.outer∨(X.stack=X.env::X.outer/\X.env.frame=some X.env.locals)
 QF:∀b∈X.ex,b≠X.env.locals/\∀x c,X.env.cells.lookup x=some c->c≠b
 bs:∀b o,X.base.get? b=some o->X.s₀.heap.get? b=some o/\X.H₀ b=none
 PD:X.base.objs.size<=X.s₀.heap.objs.size
 ON:∀b o,X.base.get? b=some o->b∉X.ex
 OH:∀b∈X.ex,b∉X.fs
 Oc:X.s₀.heap.FunFrames X.base X.outer
 P2:∀b∈X.fs,X.H₀ b=none
structure Inv (X:Cx)(NI:Hr)(σ:List (Option V))(H:Hp)(s:Kc):Prop where
 ok:X.Ok
 os:s.os=X.s₀.os
 bare:J7 s.gens
 base:Un X.fs X.ex X.H₀ H X.s₀.heap s.heap
 loc:∃m,s.heap.Ns X.env.locals m/\∀(i:Nat)(x:Str)(v:V),X.N[i]?=some x->σ[i]?=some (some v)->dc X.env.scope x->∃u,RelV v u/\Look X.env s.heap m x u
 cell:∀x c,X.env.cells.lookup x=some c->∃v,s.heap.IsCell c v
 free:H X.env.locals=none
 NZ:∀x c,X.env.cells.lookup x=some c->H c=none
 pin:∀p∈X.pn++NI,s.heap.get? p.1=some p.2/\H p.1=none/\p.1≠X.env.locals/\p.1∉X.fs/\∀v,p.2.data≠ .cell v
 NN:bT X.prog X.w H s.heap
 len:σ.length=X.N.length
variable {X:Cx}{NI:Hr}{s:Kc}{x:Str}{i:Nat}{g':Array Lv}{d':Drawn}{it:Addr}{N:Ht}{M:Model}{A:Kj}{E:Value->Kc->Prop}{v:V}{u:Value}{s':Kc}
section
variable {σ:List (Option V)}
variable {t':Nat}{ch:Hv}
theorem Cx.Ok.Gr (ok:X.Ok)(e:X.base.get? b=some o):b∉X.fs:=λhb=>by
 have:=(ok.Oc.mem hb).1;rw[e] at this;cases this
theorem Inv.bs (I:Inv X NI σ H s):∀b o,X.base.get? b=some o->s.heap.get? b=some o/\H b=none:=λb o e=>
 ⟨I.base.keep b o (I.ok.bs b o e).1 (I.ok.bs b o e).2 (I.ok.Gr e) (I.ok.ON b o e),I.base.free b o (I.ok.bs b o e).1 (I.ok.bs b o e).2 (I.ok.ON b o e)⟩
theorem Inv.bk (I:Inv X NI σ H s):∀b o,X.base.get? b=some o->s.heap.get? b=some o:=λb o e=>(I.bs b o e).1
theorem Inv.mod (I:Inv X NI σ H s):Mod X.K X.mg X.base:=I.ok.mod
theorem Inv.cO (I:Inv X NI σ H s):X.K.In s.heap:=I.ok.mod.Q9.keeps I.bk
theorem Inv.lt (I:Inv X NI σ H s):X.env.locals<s.heap.objs.size:=let ⟨_,hn,_⟩:=I.loc;hn.lt
theorem Inv.sz (I:Inv X NI σ H s):X.s₀.heap.objs.size<=s.heap.objs.size:=JJ I.ok.above (JT I.lt)
theorem Inv.Hk (I:Inv X NI σ H s)(h:s.heap.objs.size<=a):a∉X.fs:=λhb=>by
 obtain⟨_,o,ho,_⟩:=I.ok.Oc.mem hb;exact Ny (JK (Mo ho) (JJ I.sz h)) (JP _)
theorem Inv.P4 (I:Inv X NI σ H s):∀x c,X.env.cells.lookup x=some c->c≠X.env.locals:=λx c e z=>by
 obtain⟨v,o,ho,hd⟩:=I.cell x c e;obtain⟨m,⟨o',es,ep,OO,Q2,_⟩,_⟩:=I.loc;rw[z,OO] at ho;cases ho;rw[Q2] at hd;cases hd
theorem Inv.Oc (I:Inv X NI σ H s):s.heap.FunFrames X.base X.outer:=by
 have all:∀(l:List Env),(∀b∈bA l,b∈X.fs)->X.s₀.heap.FunFrames X.base l->s.heap.FunFrames X.base l:=by
  intro l
  induction l with
  | nil=>intro _ _;trivial
  | cons env r ih=>
    intro hs hl;obtain⟨hk,⟨L,o,hf,hn,ho,hd⟩,hr⟩:=hl;have hL:L∈X.fs:=hs L (by unfold bA;rw[Iv,hf];exact Ic);obtain⟨sl,e⟩:=I.base.slot L o ho (I.ok.P2 L hL) hL λz=>I.ok.OH L z hL;exact⟨hk,⟨L,_,hf,hn,e,hd⟩,ih (λb hb=>hs b (by unfold bA;rw[Iv,hf];exact Ia _ hb)) hr⟩
 exact all X.outer (λ_ hb=>hb) I.ok.Oc
theorem Inv.stack (I:Inv X NI σ H s):s.heap.FunFrames X.base X.stack:=by
 rcases I.ok.Qv with e | ⟨e,hf⟩
 ·rw[e];exact I.Oc
 ·rw[e];obtain⟨m,hn,_⟩:=I.loc;refine .cons (by rw[I.ok.kind];decide) hf hn ?_ I.Oc;exact Mt (JJ I.ok.PD I.ok.above)
theorem Inv.qE (I:Inv X NI σ H s):∀b∈bA X.stack,b∈X.env.locals::X.fs:=λb hb=>by
 rcases I.ok.Qv with e | ⟨e,hf⟩
 ·rw[e] at hb;exact Ia _ hb
 ·rw[e] at hb;unfold bA at hb;rw[Iv,hf] at hb;exact hb
theorem Inv.gJ (I:Inv X NI σ H s):∀b∈bA X.stack,H b=none:=λb hb=>by
 rcases Ih.mp (I.qE b hb) with e | hb
 ·rw[e];exact I.free
 ·obtain⟨_,o,ho,_⟩:=I.ok.Oc.mem hb;exact I.base.free b o ho (I.ok.P2 b hb) λz=>I.ok.OH b z hb
theorem Inv.step (I:Inv X NI σ H s)(O7:∀b∈ch,(b∈X.ex∨X.s₀.heap.objs.size<=b)/\b≠X.env.locals/\(∀x c,X.env.cells.lookup x=some c->c≠b)/\∀p∈X.pn++NI,p.1≠b)(keep:∀b o,b≠X.env.locals->b∉X.fs->b∉ch->s.heap.get? b=some o->H b=none->h'.get? b=some o)(slot:∀b o,b≠X.env.locals->b∈X.fs->b∉ch->s.heap.get? b=some o->H b=none->∃sl,h'.get? b=some {o with slots:=sl})(free:∀b o,b∉ch->s.heap.get? b=some o->H b=none->H' b=none)(there:∀b o,b∉ch->s.heap.get? b=some o->∃o',h'.get? b=some o')(N9:∀b xs,H b=some (.tup xs)->H' b=some (.tup xs))(N7:∀b o u,H b=some (.OG o u)->H' b=some (.OG o u))(Oa:∀b ps,H b=some (.Qu ps)->∃more,H' b=some (.Qu (ps++more)))(ns:∀m,s.heap.Ns X.env.locals m->h'.Ns X.env.locals m)(NN:bT X.prog X.w H' h')(hg:J7 g'):
 Inv X NI σ H' {s with heap:=h',gens:=g',drawn:=d',toks:=t'}:=by
 have neL:∀b o,X.s₀.heap.get? b=some o->b≠X.env.locals:=λb o e=>JL (JK (Mo e) I.ok.above);have PQ:∀b o,X.s₀.heap.get? b=some o->b∉X.ex->b∉ch:=λb o e hx hb=>by
  rcases(O7 b hb).1 with z | z
  ·exact hx z
  ·exact Ny (JK (Mo e) z) (JP _)
 have cellK:∀x c,X.env.cells.lookup x=some c->∀v,s.heap.IsCell c v->h'.IsCell c v:=λx c e v ⟨o,ho,hd⟩=>by
  have RF:c∉ch:=λz=>(O7 c z).2.2.1 x c e rfl;by_cases hc:c∈X.fs
  ·obtain⟨sl,q⟩:=slot c o (I.P4 x c e) hc RF ho (I.NZ x c e);exact⟨_,q,hd⟩
  ·exact⟨o,keep c o (I.P4 x c e) hc RF ho (I.NZ x c e),hd⟩
 refine⟨I.ok,I.os,hg,⟨λb o e n hb hx=>?_,λb o e n hb hx=>?_,λb o e n hx=>?_,λb o e hx=>?_,λb xs e=>N9 b xs (I.base.N9 b xs e),λb o xs e=>N7 b o xs (I.base.N7 b o xs e),λb ps e=>?_⟩,?_,λx c e=>?_,?_,λx c e=>?_,λp hp=>?_,NN,I.len⟩
 ·exact keep b o (neL b o e) hb (PQ b o e hx) (I.base.keep b o e n hb hx) (I.base.free b o e n hx)
 ·obtain⟨sl,e1⟩:=I.base.slot b o e n hb hx;obtain⟨P6,e2⟩:=slot b _ (neL b o e) hb (PQ b o e hx) e1 (I.base.free b o e n hx);exact⟨P6,e2⟩
 ·obtain⟨o',e1⟩:=I.base.there b o e hx;exact free b o' (PQ b o e hx) e1 (I.base.free b o e n hx)
 ·obtain⟨o',e1⟩:=I.base.there b o e hx;exact there b o' (PQ b o e hx) e1
 ·obtain⟨m1,e1⟩:=I.base.Oa b ps e;obtain⟨m2,e2⟩:=Oa b _ e1;exact⟨m1++m2,by rw[e2,Array.append_assoc]⟩
 ·obtain⟨m,hn,hl⟩:=I.loc;refine⟨m,ns m hn,λi x v e1 e2 e3=>?_⟩;obtain⟨u,r,l⟩:=hl i x v e1 e2 e3;refine⟨u,r,?_⟩;rcases l with l | ⟨k,c,e,z⟩
  ·exact .inl l
  ·exact .inr ⟨k,c,e,cellK x c e _ z⟩
 ·obtain⟨v,z⟩:=I.cell x c e;exact⟨v,cellK x c e v z⟩
 ·obtain⟨m,⟨o,_,_,ho,_⟩,_⟩:=I.loc;exact free _ o (λz=>(O7 _ z).2.1 rfl) ho I.free
 ·obtain⟨v,o,ho,hd⟩:=I.cell x c e;exact free c o (λz=>(O7 c z).2.2.1 x c e rfl) ho (I.NZ x c e)
 ·obtain⟨e,n,ne,nf,d⟩:=I.pin p hp;have RF:p.1∉ch:=λz=>(O7 p.1 z).2.2.2 p hp rfl;exact⟨keep p.1 p.2 ne nf RF e n,free p.1 p.2 RF e n,ne,nf,d⟩
theorem Inv.un (I:Inv X NI σ H s)(u:Un X.fs [] H H' s.heap h')(NN:bT X.prog X.w H' h'):Inv X NI σ H' {s with heap:=h',toks:=t'}:=by
 obtain⟨m,⟨o,es,ep,ho,r⟩,_⟩:=id I.loc;obtain⟨sl,hL⟩:=u.any ho I.free (by simp);exact I.step (g':=s.gens) (d':=s.drawn) (ch:=[]) (λ_ z=>nomatch z) (λb o _ hb _ e n=>u.keep b o e n hb (by simp)) (λb o _ hb _ e n=>u.slot b o e n hb (by simp)) (λb o _ e n=>u.free b o e n (by simp)) (λb o _ e=>u.there b o e (by simp)) u.N9 u.N7 u.Oa (λm' hm=>by
  obtain⟨o',es',ep',OO,r'⟩:=hm;rw[ho] at OO;cases OO
  exact⟨_,es',ep',hL,r'⟩) NN I.bare
theorem Inv.call (I:Inv X NI σ H s)(u:Un (bA X.stack) ch H H' s.heap h')(NN:bT X.prog X.w H' h')(hg:J7 g')(O7:∀b∈ch,(b∈X.ex∨X.s₀.heap.objs.size<=b)/\b≠X.env.locals/\(∀x c,X.env.cells.lookup x=some c->c≠b)/\∀p∈X.pn++NI,p.1≠b):
 Inv X NI σ H' {s with heap:=h',gens:=g',drawn:=d',toks:=t'}:=by
 obtain⟨m,⟨o,es,ep,ho,r⟩,_⟩:=id I.loc;obtain⟨sl,hL⟩:=u.any ho I.free λz=>(O7 _ z).2.1 rfl;exact I.step (ch:=ch) O7 (λb o hL hb hc e n=>u.keep b o e n (λz=>(Ih.mp (I.qE b z)).elim hL hb) hc) (λb o _ _ hc e n=>u.any e n hc) (λb o hc e n=>u.free b o e n hc) (λb o hc e=>u.there b o e hc) u.N9 u.N7 u.Oa (λm' hm=>by
  obtain⟨o',es',ep',OO,r'⟩:=hm;rw[ho] at OO;cases OO
  exact⟨_,es',ep',hL,r'⟩) NN hg
theorem Inv.turned (I:Inv X NI σ H s)(k:∀b o,b≠it->s.heap.get? b=some o->h'.get? b=some o)(hn:H it=none)(hL:it≠X.env.locals)(h1:it∈X.ex∨X.s₀.heap.objs.size<=it)(h2:∀x c,X.env.cells.lookup x=some c->c≠it)(h3:∀p∈X.pn++NI,p.1≠it):Inv X NI σ H {s with heap:=h',toks:=t'}:=by
 have RE:∀b u,H b=some u->b≠it:=λb u e z=>by rw[z,hn] at e;cases e
 refine I.step (g':=s.gens) (d':=s.drawn) (ch:=[it]) (λb hb=>?_) (λb o _ _ hc e _=>k b o (λz=>hc (by simp[z])) e) (λb o _ _ hc e _=>⟨o.slots,k b o (λz=>hc (by simp[z])) e⟩) (λ_ _ _ _ n=>n)
  (λb o hc e=>⟨o,k b o (λz=>hc (by simp[z])) e⟩) (λ_ _ e=>e) (λ_ _ _ e=>e) (λb ps e=>⟨#[],by rw[e];simp⟩) (λm hm=>?_) (λb u e=>?_) I.bare
 ·have e:b=it:=by simpa using hb
  subst e;exact⟨h1,hL,h2,h3⟩
 ·obtain⟨o,es,ep,ho,r⟩:=hm;exact⟨o,es,ep,k _ o (JX hL) ho,r⟩
 ·refine(I.NN b u e).fC (λc v hc q=>k c v ?_ q) (λ_ q=>q) λ_ _ q=>q;rcases hc with z | z
  ·rw[z];exact RE b u e
  ·exact RE c _ z
theorem Inv.tok (I:Inv X NI σ H s)(t:Nat):Inv X NI σ H {s with toks:=t}:=I.un (h':=s.heap) (t':=t) Un.refl I.NN
theorem Inv.kept (I:Inv X NI σ H s)(k:∀b u,s.heap.get? b=some u->h'.get? b=some u):Inv X NI σ H {s with heap:=h',toks:=t'}:=I.un (Un.kept k) (I.NN.kept k)
theorem Inv.laid {a:Addr}{o:HO}(I:Inv X NI σ H s)(k:∀b u,s.heap.get? b=some u->h'.get? b=some u)(hp:s.heap.objs.size<=a)(new:bK X.prog X.w (upd H a o) h' a o):
 Inv X NI σ (upd H a o) {s with heap:=h',toks:=t'}:=I.un (Un.laid k hp (I.NN.fresh hp)) (I.NN.laid k hp new)
theorem Inv.write {x e:Addr}{o:HO}(I:Inv X NI σ H s)(mu:vm (H x))(he:e=x∨H e=some (.own x))(k:∀b u,b≠e->s.heap.get? b=some u->h'.get? b=some u)(Rj:∃u,h'.get? e=some u)(new:bK X.prog X.w (upd H x o) h' x o):Inv X NI σ (upd H x o) {s with heap:=h',toks:=t'}:=I.un (Un.write mu he k Rj) (I.NN.write mu he k Rj new)
theorem Inv.gI {Qx:Hr}(I:Inv X NI σ H s)(h:∀p∈Qx,s.heap.get? p.1=some p.2/\H p.1=none/\p.1≠X.env.locals/\p.1∉X.fs/\∀v,p.2.data≠ .cell v):Inv X Qx σ H s:=
 ⟨I.ok,I.os,I.bare,I.base,I.loc,I.cell,I.free,I.NZ,λp hp=>(Ij.mp hp).elim (λz=>I.pin p (Ik _ z)) (h p),I.NN,I.len⟩
theorem kJ (hN:N.Nodup){j:Nat}(a:N[i]?=some x)(b:N[j]?=some x):i=j:=by
 obtain⟨h1,e1⟩:=HW.mp a;obtain⟨h2,e2⟩:=HW.mp b;exact(List.getElem_inj hN).mp (e1.trans e2.symm)
theorem n9 {Q:Unit->Kc->Prop}(I:Inv X NI σ H s)(hN:X.N.Nodup)(hi:X.N[i]?=some x)(hx:Loc X.env.scope x)(r:RelV v u)(h:∀s',Inv X NI (σ.set i (some v)) H s'->(∃a,Ms a s.heap s'.heap/\(a=X.env.locals∨X.env.cells.lookup x=some a))->Q () s')(hf:X.fn x=true∨X.env.scope.names.lookup x=some .local:=by first | exact .inl rfl | exact .inr rfl | assumption):wpAny M A (storeName X.env x u) Q E s:=by
 obtain⟨m,hn,hl⟩:=id I.loc;have Q3:(X.env.scope.kind== .class ||(X.env.scope.kind== .module&&X.env.locals != X.env.globals))=false:=by rw[I.ok.kind];rfl
 have hiσ:i<σ.length:=by rw[I.len];exact(HW.mp hi).1
 have P4:=I.P4;have tracked:∀{a:Addr}{h':Heap},(∃o,s.heap.get? a=some o/\H a=none)->Ms a s.heap h'->bT X.prog X.w H h':=λ{a h'} ha hs b ob e=>by
  obtain⟨_,_,OZ⟩:=ha;refine(I.NN b ob e).fC (λc w' hc q=>(hs.2 c ?_).trans q) (λ_ q=>q) λ_ _ q=>q;rintro rfl;rcases hc with rfl | hc
  ·rw[OZ] at e;cases e
  ·rw[OZ] at hc;cases hc
 rcases hx with hk | hk
 ·refine wpAny_storeName_local hk hn (λh' Rb hs=>?_) Q3;obtain⟨oL,_,_,hoL,_⟩:=id hn;refine h _ ⟨I.ok,I.os,I.bare,⟨λb o e n hb hx=>?_,λb o e n hb hx=>?_,I.base.free,λb o e hx=>?_,I.base.N9,I.base.N7,I.base.Oa⟩,⟨_,Rb,λj y v' e1 e2 e3=>?_⟩,λy c e=>?_,I.free,I.NZ,λp hp=>?_,tracked ⟨oL,hoL,I.free⟩ hs,by simpa using I.len⟩ ⟨_,hs,.inl rfl⟩
  ·exact(hs.2 b (JL (JK (Mo e) I.ok.above))).trans (I.base.keep b o e n hb hx)
  ·obtain⟨sl,e1⟩:=I.base.slot b o e n hb hx;exact⟨sl,(hs.2 b (JL (JK (Mo e) I.ok.above))).trans e1⟩
  ·obtain⟨o',e1⟩:=I.base.there b o e hx;exact⟨o',(hs.2 b (JL (JK (Mo e) I.ok.above))).trans e1⟩
  ·by_cases hj:j=i
   ·subst hj;rw[hi] at e1;cases e1
    rw[IG hiσ] at e2;cases e2
    exact⟨u,r,.inl ⟨hk,by simp⟩⟩
   ·rw[IJ (JX hj)] at e2;obtain⟨u',r',q⟩:=hl j y v' e1 e2 e3;refine⟨u',r',?_⟩;rcases q with⟨k,e⟩ | ⟨k,c,e,z⟩
    ·refine .inl ⟨k,?_⟩;have:y≠x:=λe=>hj (kJ hN e1 (e▸hi));simp[this,e]
    ·exact .inr ⟨k,c,e,z.sameBut hs (P4 y c e)⟩
  ·obtain⟨w',z⟩:=I.cell y c e;exact⟨w',z.sameBut hs (P4 y c e)⟩
  ·obtain⟨e,n,ne,nf,d⟩:=I.pin p hp;exact⟨(hs.2 p.1 ne).trans e,n,ne,nf,d⟩
 ·have hfn:X.fn x=true:=by
   rcases hf with z | z
   ·exact z
   ·rw[z] at hk;cases hk
  obtain⟨c,hc⟩:=I.ok.has x (.inl hk);obtain⟨w',z⟩:=I.cell x c hc;refine wpAny_storeName_cell I.ok.kind hk hc z (λh' Pz hs=>?_);obtain⟨oc,hoc,hocd⟩:=id z;refine h {s with heap:=h'} ⟨I.ok,I.os,I.bare,⟨λb o e n hb hx=>?_,λb o e n hb hx=>?_,I.base.free,λb o e hx=>?_,I.base.N9,I.base.N7,I.base.Oa⟩,⟨m,hn.sameBut hs (JX (P4 x c hc)),λj y v' e1 e2 e3=>?_⟩,λy c' e=>?_,I.free,I.NZ,λp hp=>?_,tracked ⟨oc,hoc,I.NZ x c hc⟩ hs,by simpa using I.len⟩ ⟨c,hs,.inr hc⟩
  ·exact(hs.2 b (JL (JK (Mo e) (I.ok.Qs x c hfn hc)))).trans (I.base.keep b o e n hb hx)
  ·obtain⟨sl,e1⟩:=I.base.slot b o e n hb hx;exact⟨sl,(hs.2 b (JL (JK (Mo e) (I.ok.Qs x c hfn hc)))).trans e1⟩
  ·obtain⟨o',e1⟩:=I.base.there b o e hx;exact⟨o',(hs.2 b (JL (JK (Mo e) (I.ok.Qs x c hfn hc)))).trans e1⟩
  ·by_cases hj:j=i
   ·subst hj;rw[hi] at e1;cases e1
    rw[IG hiσ] at e2;cases e2
    exact⟨u,r,.inr ⟨.inl hk,c,hc,Pz⟩⟩
   ·rw[IJ (JX hj)] at e2;obtain⟨u',r',q⟩:=hl j y v' e1 e2 e3;refine⟨u',r',?_⟩;rcases q with q | ⟨k,c',e,z'⟩
    ·exact .inl q
    ·refine .inr ⟨k,c',e,z'.sameBut hs ?_⟩;rintro rfl;exact hj (kJ hN e1 (I.ok.inj _ _ _ e hc▸hi))
  ·by_cases QE:c'=c
   ·subst QE;exact⟨_,Pz⟩
   ·obtain⟨w2,z2⟩:=I.cell y c' e;exact⟨w2,z2.sameBut hs QE⟩
  ·obtain⟨e,n,ne,nf,d⟩:=I.pin p hp;refine⟨(hs.2 p.1 ?_).trans e,n,ne,nf,d⟩;intro q;rw[q,hoc] at e;have q':oc=p.2:=Option.some.inj e;exact d w' (by rw[← q'];exact hocd)
theorem i8 {Q:Unit->Kc->Prop}(I:Inv X NI σ H s)(hN:X.N.Nodup)(hi:X.N[i]?=some x)(hx:Loc X.env.scope x)(r:RelV v u)(h:∀s',Inv X NI (σ.set i (some v)) H s'->Q () s')(hf:X.fn x=true∨X.env.scope.names.lookup x=some .local:=by first | exact .inl rfl | exact .inr rfl | assumption):wpAny M A (storeName X.env x u) Q E s:=
 n9 I hN hi hx r (λs' I' _=>h s' I') hf
theorem Inv.ud (I:Inv X NI σ H s)(ho:s'.os=s.os)(u:Un (bA X.stack) ch H H' s.heap s'.heap)(NN:bT X.prog X.w H' s'.heap)(hg:J7 s'.gens)(O7:∀b∈ch,(b∈X.ex∨X.s₀.heap.objs.size<=b)/\b≠X.env.locals/\(∀x c,X.env.cells.lookup x=some c->c≠b)/\∀p∈X.pn++NI,p.1≠b):Inv X NI σ H' s':=by
 obtain⟨h',g',d',t',o'⟩:=s';have e:o'=s.os:=ho;subst e;exact I.call (g':=g') (t':=t') (d':=d') u NN hg O7
end
abbrev XK:=Value->Option Addr->Hp->Prop
abbrev St:=List (Option V)
abbrev VK:=V->Hp->Prop
abbrev TE:=St->Hp->VK->Prop
abbrev TT:=St->Hp->(Bool->Hp->Prop)->Prop
abbrev TA:=St->Hp->(List V->Hp->Prop)->Prop
structure Ends where
 nx:St->Hp->Prop
 rt:VK
 bk:St->Hp->Prop:=λ_ _=>False
 ct:St->Hp->Prop:=λ_ _=>False
abbrev TS:=Ends->St->Hp->Prop
def EP (X:Cx)(NI:Hr)(σ:St)(Q:VK)(u:Value)(s':Kc):Prop:=∃v H',Inv X NI σ H' s'/\RelV v u/\Q v H'
def TP (X:Cx)(NI:Hr)(σ:St)(Q:Bool->Hp->Prop)(b:Bool)(s':Kc):Prop:=∃H',Inv X NI σ H' s'/\Q b H'
def AP (X:Cx)(NI:Hr)(σ:St)(Q:List V->Hp->Prop)(us:Hw)(s':Kc):Prop:=∃vs H',Inv X NI σ H' s'/\Vals vs us/\Q vs H'
def SP (X:Cx)(NI:Hr)(D:Ends)(f:Flow)(s':Kc):Prop:=
 match f with
 | .next=>∃σ' H',Inv X NI σ' H' s'/\D.nx σ' H'
 | .brk=>∃σ' H',Inv X NI σ' H' s'/\D.bk σ' H'
 | .cont=>∃σ' H',Inv X NI σ' H' s'/\D.ct σ' H'
 | .ret u=>∃v σ' H',Inv X NI σ' H' s'/\RelV v u/\D.rt v H'
def PE (X:Cx)(e:Expr)(t:TE):Prop:=
 ∀(NI:Hr)(s:Kc)(σ:St)(H:Hp)(Q:VK),Inv X NI σ H s->t σ H Q->wpAny (model X.prog X.w) X.A (eval e X.env) (EP X NI σ Q) X.xe s
def PT (X:Cx)(e:Expr)(t:TT):Prop:=
 ∀(NI:Hr)(s:Kc)(σ:St)(H:Hp)(Q:Bool->Hp->Prop),Inv X NI σ H s->t σ H Q->wpAny (model X.prog X.w) X.A (K4 e X.env (eval e X.env)) (TP X NI σ Q) X.xe s
def PW (X:Cx)(e:Expr)(t:TT):Prop:=
 ∀(whole:Sem Value)(NI:Hr)(s:Kc)(σ:St)(H:Hp)(Q:Bool->Hp->Prop),Inv X NI σ H s->t σ H Q->wpAny (model X.prog X.w) X.A (K4 e X.env whole) (TP X NI σ Q) X.xe s
variable {e:Expr}
theorem PW.pt {t:TT}(h:PW X e t):PT X e t:=h _
def PA (X:Cx)(es:Hx)(t:TA):Prop:=
 ∀(pos:Pos)(NI:Hr)(s:Kc)(σ:St)(H:Hp)(Q:List V->Hp->Prop),Inv X NI σ H s->t σ H Q->wpAny (model X.prog X.w) X.A (spliced (Ko pos (Kf es X.env))) (AP X NI σ Q) X.xe s
def PS (X:Cx)(st:Stmt)(t:TS):Prop:=
 ∀(NI:Hr)(s:Kc)(σ:St)(H:Hp)(D:Ends),Inv X NI σ H s->t D σ H->wpAny (model X.prog X.w) X.A (exec st X.env) (SP X NI D) X.xe s
def hJ (X:Cx)(st:List Stmt)(t:TS):Prop:=
 ∀(NI:Hr)(s:Kc)(σ:St)(H:Hp)(D:Ends),Inv X NI σ H s->t D σ H->wpAny (model X.prog X.w) X.A (execs st X.env) (SP X NI D) X.xe s
theorem aJ {α:Type}{t:Sem α}{Q Q':α->Kc->Prop}(h:wpAny M A t Q E s)(hQ:∀a s,Q a s->Q' a s):wpAny M A t Q' E s:=Kl h hQ λ_ _ x=>x
variable {Q:Value->Kc->Prop}{pos:Pos}{σ:St}{ta:TE}{c:Expr}
section
def G6 (i:Nat):TE:=λσ H Q=>∃v,σ[i]?=some (some v)/\Q v H
def tC (v:V):TE:=λ_ H Q=>Q v H
theorem bD (hN:X.N[i]?=some x)(hv:dc X.env.scope x)(hd:N3 x:=by decide)(NV:Ov x:=by decide):PE X (.Name x pos) (G6 i):=by
 intro NI s σ H Q I h;obtain⟨v,e,h⟩:=h;obtain⟨m,hn,hl⟩:=I.loc;obtain⟨u,r,l⟩:=hl i x v hN e hv;have fin:EP X NI σ Q u s:=⟨v,H,I,r,h⟩;rcases l with⟨hk,hm⟩ | ⟨hk,c,hc,OL⟩
 ·exact wpAny_Name (wpAny_loadName_local I.ok.kind hk hn hm fin) hd
 ·rcases hk with hk | hk
  ·exact wpAny_Name (wpAny_loadName_cell I.ok.kind hk hc OL fin) hd
  ·exact wpAny_Name (wpAny_loadName_free I.ok.kind hk hc OL fin NV) hd
theorem A4 {i j pos}:PE X (.Constant (.int i) j pos) (tC (.int i)):=λ_ _ _ H _ I h=>wpAny_Constant_int ⟨.int i,H,I.tok _,⟨_,rfl⟩,h⟩
theorem sJ {b j pos}:PE X (.Constant (.bool b) j pos) (tC (.bl b)):=λ_ _ _ H _ I h=>Constant_bool ⟨.bl b,H,I,rfl,h⟩
theorem Dl {j pos}:PE X (.Constant .none j pos) (tC .NS):=λ_ _ _ H _ I h=>Constant_none ⟨.NS,H,I,rfl,h⟩
theorem BF {x j pos}:PE X (.Constant (.str x) j pos) (tC (.str x)):=λ_ _ _ H _ I h=>Calls.Constant_str ⟨.str x,H,I.tok _,⟨_,rfl⟩,h⟩
def Gl (X:Cx)(x:Str):Prop:=X.env.kindOf x=some .globalImplicit
theorem gF (I:Inv X NI σ H s)(hg:Gl X x)(hm:X.mg x=some u)(h:Q u s)(hd:N3 x:=by decide):wpAny (model X.prog X.w) X.A (eval (.Name x pos) X.env) Q E s:=
 Calls.Name_function_global I.ok.kind hg (Calls.loadGlobal_global (by rw[I.ok.glob];exact I.mod.glob.keeps I.bk) hm h) hd
theorem gc (I:Inv X NI σ H s)(hg:Gl X x)(hm:X.mg x=none)(hv:Kz x=some u)(h:Q u s)(hn:x≠"__name__":=by decide)(hd:N3 x:=by decide):wpAny (model X.prog X.w) X.A (eval (.Name x pos) X.env) Q E s:=by
 obtain⟨mb,h1,h2⟩:=I.mod.blt;exact Calls.Name_function_global I.ok.kind hg (Calls.loadGlobal_builtin (by rw[I.ok.glob];exact I.mod.glob.keeps I.bk) hm (by rw[I.ok.blt];exact h1.keeps I.bk) ((h2 x hn).trans hv) h) hd
theorem fQ (hg:Gl X x)(hm:X.mg x=some u)(r:RelV v u)(hd:N3 x:=by decide):PE X (.Name x pos) (tC v):=
 λ_ _ _ H _ I h=>gF I hg hm ⟨v,H,I,r,h⟩ hd
theorem se (hg:Gl X x)(hm:X.mg x=none)(hv:Kz x=some u)(r:RelV v u)(hn:x≠"__name__":=by decide)(hd:N3 x:=by decide):PE X (.Name x pos) (tC v):=
 λ_ _ _ H _ I h=>gc I hg hm hv ⟨v,H,I,r,h⟩ hn hd
variable {a b:Expr}{tb:TE}
def PC (X:Cx)(op:CmpOp)(a b:Expr)(t:TE):Prop:=
 ∀(NI:Hr)(s:Kc)(σ:St)(H:Hp)(Q:VK),Inv X NI σ H s->t σ H Q->
  wpAny (model X.prog X.w) X.A (eval a X.env) (λv s₁=>wpAny (model X.prog X.w) X.A (eval b X.env) (λu s₂=>wpAny (model X.prog X.w) X.A (Kp op v u) (EP X NI σ Q) X.xe s₂) X.xe s₁) X.xe s
def tB (t:TE):TT:=λσ H Q=>t σ H λx H1=>∃c,x= .bl c/\Q c H1
theorem jF {op:CmpOp}{t:TE}(h:PC X op a b t)(h1:KN op b=false:=by first | exact RA _ (by decide) (by decide) | rfl):PT X (.Compare a [op] [b] pos) (tB t):=by
 intro NI s σ H Q I hw;refine wpAny_isTrue_Compare1 (aJ (h NI s σ H _ I hw) λv s1 h1=>aJ h1 λu s2 h2=>aJ h2 λc s3 ⟨x,H1,I1,r1,q1⟩=>?_) h1;obtain⟨d,rfl,q⟩:=q1;cases r1
 exact Kq ⟨H1,I1,q⟩
theorem C6 {t:TE}(h:PE X e t)(he:∀whole,K4 e X.env whole=(do let v ← whole;Ls e.pos;K2 [v] (truthy v)):=by intro _;rfl):PT X e (tB t):=by
 intro NI s σ H Q I hw;refine isTrue_plain (aJ (h NI s σ H _ I hw) λv s1 ⟨x,H1,I1,r1,q1⟩=>?_) (he _);obtain⟨d,rfl,q⟩:=q1;cases r1
 exact Kq ⟨H1,I1,q⟩
variable {tA tB':TT}{rest:Hx}
def Gx (t u:TT):TT:=λσ H Q=>t σ H λc H1=>if c=true then u σ H1 Q else Q false H1
def tOr (t u:TT):TT:=λσ H Q=>t σ H λc H1=>if c=true then Q true H1 else u σ H1 Q
def Ho (t:TT):TT:=λσ H Q=>t σ H λc H1=>Q (!c) H1
theorem zW (ha:PT X a tA):PW X (.BoolOp .And [a] pos) tA:=by
 intro wh NI s σ H Q I h;refine isTrue_and (aJ (ha NI s σ H Q I h) λc s1 e=>?_);cases c with
 | true=>exact isTrue_and_nil e
 | false=>exact e
theorem Dv (ha:PT X a tA):PW X (.BoolOp .Or [a] pos) tA:=by
 intro wh NI s σ H Q I h;refine isTrue_or (aJ (ha NI s σ H Q I h) λc s1 e=>?_);cases c with
 | false=>exact isTrue_or_nil e
 | true=>exact e
theorem BJ (ha:PT X a tA)(hb:PW X (.BoolOp .And (b::rest) pos) tB'):PW X (.BoolOp .And (a::b::rest) pos) (Gx tA tB'):=by
 intro wh NI s σ H Q I h;refine isTrue_and (aJ (ha NI s σ H _ I h) λc s1 ⟨H1,I1,q1⟩=>?_);cases c with
 | true=>exact hb wh NI s1 σ H1 Q I1 q1
 | false=>exact⟨H1,I1,q1⟩
theorem Ff (ha:PT X a tA)(hb:PW X (.BoolOp .Or (b::rest) pos) tB'):PW X (.BoolOp .Or (a::b::rest) pos) (tOr tA tB'):=by
 intro wh NI s σ H Q I h;refine isTrue_or (aJ (ha NI s σ H _ I h) λc s1 ⟨H1,I1,q1⟩=>?_);cases c with
 | true=>exact⟨H1,I1,q1⟩
 | false=>exact hb wh NI s1 σ H1 Q I1 q1
theorem AZ (ha:PT X a tA):PT X (.UnaryOp .Not a pos) (Ho tA):=by
 intro NI s σ H Q I h;exact isTrue_not (ha NI s σ H (λc H1=>Q (!c) H1) I h)
def DO (ta tb:TE):TE:=λσ H Q=>ta σ H λx H1=>∃c,x= .bl c/\if c=true then tb σ H1 Q else Q (.bl false) H1
def DK (ta:TE):TE:=λσ H Q=>ta σ H λx H1=>∃c,x= .bl c/\Q (.bl (!c)) H1
theorem AV {op}{t:TE}(h:PE X a t):PE X (.BoolOp op [a] pos) t:=λNI s σ H Q I hw=>BoolOp_one (h NI s σ H Q I hw)
theorem AD (ha:PE X a ta)(hb:PE X (.BoolOp .And (b::rest) pos) tb):PE X (.BoolOp .And (a::b::rest) pos) (DO ta tb):=by
 intro NI s σ H Q I h;refine BoolOp_and (aJ (ha NI s σ H _ I h) λv s1 ⟨x,H1,I1,r1,q1⟩=>?_);obtain⟨c,rfl,q1⟩:=q1;cases r1
 refine Kq ?_;cases c with
 | true=>exact hb NI s1 σ H1 Q I1 q1
 | false=>exact⟨.bl false,H1,I1,rfl,q1⟩
theorem C2 (ha:PE X a ta):PE X (.UnaryOp .Not a pos) (DK ta):=by
 intro NI s σ H Q I h;refine UnaryOp_ (aJ (ha NI s σ H _ I h) λv s1 ⟨x,H1,I1,r1,q1⟩=>?_);obtain⟨c,rfl,q1⟩:=q1;cases r1
 exact not_of (Kq ⟨.bl (!c),H1,I1,rfl,q1⟩)
def tIf (t:TT)(ta tb:TE):TE:=λσ H Q=>t σ H λc H1=>if c=true then ta σ H1 Q else tb σ H1 Q
theorem qM (hc:PT X c tA)(ha:PE X a ta)(hb:PE X b tb):PE X (.IfExp c a b pos) (tIf tA ta tb):=by
 intro NI s σ H Q I h;refine wpAny_IfExp (aJ (hc NI s σ H _ I h) λd s1 ⟨H1,I1,q1⟩=>?_);cases d with
 | true=>exact ha NI s1 σ H1 Q I1 q1
 | false=>exact hb NI s1 σ H1 Q I1 q1
end
def bp (K:MO)(H:Hp)(a:Addr)(xs:List V):Prop:=
 Rd H a (.lst xs)∨
  ∃(o:Obj)(NJ:Array Value)(n:Nat),K.lookup a=some o/\o.cls= .type "list"/\o.dict=none/\o.data= .seq NJ n/\NJ.size<=Ke/\Vals xs NJ.toList
def du (K:MO)(H:Hp)(a:Addr)(xs:List V):Prop:=
 Rd H a (.tup xs)∨
  ∃(o:Obj)(NJ:Array Value)(n:Nat),K.lookup a=some o/\o.cls= .type "tuple"/\o.data= .seq NJ n/\NJ.size<=Ke/\Vals xs NJ.toList
def Hf:Value->Option V
 | .none=>some .NS
 | .bool b=>some (.bl b)
 | .int i _=>some (.int i)
 | .str x _=>some (.str x)
 | .bytes b _=>some (.Pr b)
 | .float b _=>some (.Q5 b)
 | .ref a=>some (.ref a)
 | .type n=>some (.ty n)
 | _=>none
theorem RelV.abs {x:V}(r:RelV x u):Hf u=some x:=by
 cases x with
 | NS=>cases r;rfl
 | bl _=>cases r;rfl
 | int _=>obtain⟨t,rfl⟩:=r;rfl
 | str _=>obtain⟨t,rfl⟩:=r;rfl
 | Pr _=>obtain⟨t,rfl⟩:=r;rfl
 | Q5 _=>obtain⟨t,rfl⟩:=r;rfl
 | ref _=>cases r;rfl
 | ty _=>cases r;rfl
theorem RelV.inj {x y:V}{u:Value}(r:RelV x u)(q:RelV y u):x=y:=Option.some.inj (r.abs.symm.trans q.abs)
theorem Vals.inj:∀{xs ys:List V}{us:Hw},Vals xs us->Vals ys us->xs=ys
 | _,_,_,.nil,.nil=>rfl
 | _,_,_,.cons r t,.cons r' t'=>by rw[r.inj r',Vals.inj t t']
variable {xs:List V}{K:MO}
section
variable {ys:List V}
theorem bp.of (h:H a=some (.lst xs)):bp K H a xs:=.inl (.inl h)
theorem du.of (h:H a=some (.tup xs)):du K H a xs:=.inl (.inl h)
theorem Inv.list (I:Inv X NI σ H s)(h:bp X.K H a xs):∃NJ:Hw,Vals xs NJ/\PlainL s.heap a NJ.toArray/\xs.length<=Ke:=by
 rcases h with h | ⟨o,NJ,n,hk,hc,hd,hs,hz,r⟩
 ·obtain⟨z,NJ,n,r,e⟩:=h.ok I.NN;exact⟨NJ,r,⟨_,n,e,rfl,rfl,rfl⟩,z⟩
 ·refine⟨NJ.toList,r,⟨o,n,I.cO a o hk,hc,hd,by simpa using hs⟩,?_⟩;have e:=r.length;simp only[Hz] at e;omega
theorem Inv.tuple (I:Inv X NI σ H s)(h:du X.K H a xs):∃NJ:Hw,Vals xs NJ/\IsTup s.heap a NJ.toArray/\xs.length<=Ke:=by
 rcases h with h | ⟨o,NJ,n,hk,hc,hs,hz,r⟩
 ·obtain⟨z,NJ,r,p⟩:=h.ok I.NN;exact⟨NJ,r,p,z⟩
 ·refine⟨NJ.toList,r,⟨o,I.cO a o hk,hc,n,by simpa using hs⟩,?_⟩;have e:=r.length;simp only[Hz] at e;omega
theorem Inv.iZ (I:Inv X NI σ H s)(h:bp X.K H a xs)(h':bp X.K H a ys):xs=ys:=by
 obtain⟨NJ,r,⟨o,n,e,_,_,d⟩,_⟩:=I.list h;obtain⟨its',r',⟨o',n',e',_,_,d'⟩,_⟩:=I.list h';rw[e] at e';cases e'
 rw[d] at d';injection d' with d1 _;have:NJ=its':=by simpa using congrArg Array.toList d1
 subst this;exact r.inj r'
theorem Inv.om (I:Inv X NI σ H s)(h:du X.K H a xs)(h':du X.K H a ys):xs=ys:=by
 obtain⟨NJ,r,⟨o,e,_,n,d⟩,_⟩:=I.tuple h;obtain⟨its',r',⟨o',e',_,n',d'⟩,_⟩:=I.tuple h';rw[e] at e';cases e'
 rw[d] at d';injection d' with d1 _;have:NJ=its':=by simpa using congrArg Array.toList d1
 subst this;exact r.inj r'
end
abbrev Cx.eD (X:Cx)(E:Value->Kc->Prop):Cx:={X with xe:=E}
abbrev Cx.bV (X:Cx):Cx:=X.eD λ_ _=>False
theorem Cx.Ok.eD {X:Cx}(ok:X.Ok)(E:Value->Kc->Prop):(X.eD E).Ok:=
 ⟨ok.mod,ok.kind,ok.glob,ok.blt,ok.above,ok.inj,ok.has,ok.Qs,ok.hd,ok.frames,ok.Qv,ok.QF,ok.bs,ok.PD,ok.ON,ok.OH,ok.Oc,ok.P2⟩
theorem Cx.Ok.dw (ok:(X.eD E).Ok):X.Ok:=
 ⟨ok.mod,ok.kind,ok.glob,ok.blt,ok.above,ok.inj,ok.has,ok.Qs,ok.hd,ok.frames,ok.Qv,ok.QF,ok.bs,ok.PD,ok.ON,ok.OH,ok.Oc,ok.P2⟩
theorem Inv.eD (I:Inv X NI σ H s)(E:Value->Kc->Prop):Inv (X.eD E) NI σ H s:=⟨I.ok.eD E,I.os,I.bare,I.base,I.loc,I.cell,I.free,I.NZ,I.pin,I.NN,I.len⟩
theorem Inv.dw (I:Inv (X.eD E) NI σ H s):Inv X NI σ H s:=⟨I.ok.dw,I.os,I.bare,I.base,I.loc,I.cell,I.free,I.NZ,I.pin,I.NN,I.len⟩
theorem SP.dw {D:Ends}{f:Flow}{s':Kc}(h:SP (X.eD E) NI D f s'):SP X NI D f s':=by
 cases f with
 | next=>obtain⟨σ',H',I,q⟩:=h;exact⟨σ',H',I.dw,q⟩
 | brk=>obtain⟨σ',H',I,q⟩:=h;exact⟨σ',H',I.dw,q⟩
 | cont=>obtain⟨σ',H',I,q⟩:=h;exact⟨σ',H',I.dw,q⟩
 | ret u=>obtain⟨v,σ',H',I,r,q⟩:=h;exact⟨v,σ',H',I.dw,r,q⟩
theorem hJ.bV {st:List Stmt}{t:TS}(h:hJ X.bV st t):hJ X st t:=λNI s σ H D I hw=>
 Kl (h NI s σ H D (I.eD _) hw) (λ_ _ q=>q.dw) λ_ _ z=>HP z
variable {te:TE}{tc:TT}
section
variable {st:Stmt}{rest:List Stmt}{t u:TS}
def DV:TS:=λD σ H=>D.nx σ H
def GV (t u:TS):TS:=λD σ H=>t {D with nx:=u D} σ H
theorem zc:hJ X [] DV:=λ_ _ σ H _ I h=>KS ⟨σ,H,I,h⟩
theorem gX (h1:PS X st t)(h2:hJ X rest u):hJ X (st::rest) (GV t u):=by
 intro NI s σ H D I h;refine Kt (aJ (h1 NI s σ H {D with nx:=u D} I h) λf s1 q=>?_);cases f with
 | next=>
   obtain⟨σ',H',I',q⟩:=q;exact h2 NI s1 σ' H' D I' q
 | ret v=>exact q
 | brk=>exact q
 | cont=>exact q
theorem mW (h1:PS X st t):hJ X [st] t:=by
 intro NI s σ H D I h;refine Kt (aJ (h1 NI s σ H D I h) λf s1 q=>?_);cases f with
 | next=>exact KS q
 | ret v=>exact q
 | brk=>exact q
 | cont=>exact q
theorem Inv.quiet (I:Inv X NI σ H s):interactive X.env=false:=by simp[interactive,I.ok.kind]
def DS (te:TE):TS:=λD σ H=>te σ H λ_ H1=>D.nx σ H1
theorem iQ (he:PE X e te)(hs:Km e none pos.line X.env=pure false:=by rfl):PS X (.Expr e pos) (DS te):=by
 intro NI s σ H D I h;exact wpAny_Expr_any (aJ (he NI s σ H _ I h) λv s1 ⟨x,H1,I1,r1,q1⟩=>⟨σ,H1,I1,q1⟩) I.quiet hs
def GF (te:TE):TS:=λD σ H=>te σ H D.rt
theorem lx (he:PE X e te):PS X (.Return (some e) pos) (GF te):=by
 intro NI s σ H D I h;exact wpAny_Return_some (aJ (he NI s σ H _ I h) λv s1 ⟨x,H1,I1,r1,q1⟩=>⟨x,σ,H1,I1,r1,q1⟩)
def G7 (c:TT)(t u:TS):TS:=λD σ H=>c σ H λb H1=>if b=true then t D σ H1 else u D σ H1
theorem Ea {a b:List Stmt}(hc:PT X c tc)(ha:hJ X a t)(hb:hJ X b u):PS X (.If c a b pos) (G7 tc t u):=by
 intro NI s σ H D I h;refine wpAny_If (aJ (hc NI s σ H _ I h) λd s1 ⟨H1,I1,q1⟩=>?_);cases d with
 | true=>exact ha NI s1 σ H1 D I1 q1
 | false=>exact hb NI s1 σ H1 D I1 q1
end
abbrev TG:=V->St->Hp->(St->Hp->Prop)->Prop
abbrev pJ:=List V->St->Hp->(St->Hp->Prop)->Prop
def PG (X:Cx)(target:Expr)(t:TG):Prop:=
 ∀(NI:Hr)(s:Kc)(σ:St)(H:Hp)(v:V)(u:Value)(Q:St->Hp->Prop),Inv X NI σ H s->RelV v u->t v σ H Q->
  wpAny (model X.prog X.w) X.A (K5 target X.env u) (λ_ s'=>∃σ' H',Inv X NI σ' H' s'/\Q σ' H') X.xe s
def yx (X:Cx)(ts:Hx)(t:pJ):Prop:=
 ∀(NI:Hr)(s:Kc)(σ:St)(H:Hp)(vs:List V)(us:Hw)(Q:St->Hp->Prop),Inv X NI σ H s->Vals vs us->t vs σ H Q->
  wpAny (model X.prog X.w) X.A (assignInOrder ((KY ts X.env).map (·.2)) us) (λ_ s'=>∃σ' H',Inv X NI σ' H' s'/\Q σ' H') X.xe s
abbrev xo:=V->V->V->Hp->(Hp->Prop)->Prop
def B2 (X:Cx)(t:xo):Prop:=
 ∀(NI:Hr)(s:Kc)(σ:St)(H:Hp)(o i v:V)(ov iv u:Value)(Q:Hp->Prop),Inv X NI σ H s->RelV o ov->RelV i iv->RelV v u->t o i v H Q->
  wpAny (model X.prog X.w) X.A (setItem ov iv u) (λ_ s'=>∃H',Inv X NI σ H' s'/\Q H') X.xe s
abbrev yG:=V->V->Hp->VK->Prop
def Fu (X:Cx)(op:Operator)(t:yG):Prop:=
 ∀(NI:Hr)(s:Kc)(σ:St)(H:Hp)(x y:V)(v u:Value)(Q:VK),Inv X NI σ H s->RelV x v->RelV y u->t x y H Q->
  wpAny (model X.prog X.w) X.A (inplaceOp op v u) (EP X NI σ Q) X.xe s
variable {op:Operator}{es:Hx}{n:Nat}{tg:Expr}{pos':Pos}
def uo (i:Nat):TG:=λv σ H Q=>Q (σ.set i (some v)) H
theorem iX (hN:X.N.Nodup)(hi:X.N[i]?=some x)(hx:Loc X.env.scope x)(hf:X.fn x=true∨X.env.scope.names.lookup x=some .local:=by first | exact .inl rfl | exact .inr rfl | assumption):PG X (.Name x pos) (uo i):=by
 intro NI s σ H v u Q I r h;exact wpAny_assign_Name (i8 I hN hi hx r (λs' I'=>⟨_,H,I',h⟩) hf)
def Gs:pJ:=λvs σ H Q=>vs=[]/\Q σ H
def D5 (t:TG)(u:pJ):pJ:=λvs σ H Q=>∃v r,vs=v::r/\t v σ H λσ' H'=>u r σ' H' Q
theorem rH:yx X [] Gs:=by
 intro NI s σ H vs us Q I r h;obtain⟨e,h⟩:=h;subst e;cases r
 exact assignInOrder_nil ⟨σ,H,I,h⟩
theorem iY {t:TG}{u:pJ}(h1:PG X e t)(h2:yx X es u)(hs:(KY (e::es) X.env).map (·.2)=K5 e X.env::(KY es X.env).map (·.2):=by rfl):yx X (e::es) (D5 t u):=by
 intro NI s σ H vs us Q I r h;obtain⟨v,vr,e1,h⟩:=h;subst e1;cases r with
 | cons r rr=>
   rw[hs];refine assignInOrder_cons (aJ (h1 NI s σ H _ _ _ I r h) λ_ s1 ⟨σ1,H1,I1,q1⟩=>?_);exact h2 NI s1 σ1 H1 _ _ Q I1 rr q1
def Gz (K:MO)(n:Nat)(t:pJ):TG:=λv σ H Q=>∃a xs,v= .ref a/\du K H a xs/\xs.length=n/\t xs σ H Q
theorem uz {k:Nat}{t:pJ}(hc:X.calm=true)(h:yx X es t)(hn:(KY es X.env).length=n:=by rfl)(O6:(KY es X.env).findIdx? (·.1)=none:=by rfl):PG X (.Tuple es k pos) (Gz X.K n t):=by
 intro NI s σ H v u Q I r hw;obtain⟨a,xs,e1,hq,hl,hw⟩:=hw;subst e1;cases r
 obtain⟨NJ,rv,ht,hz⟩:=I.tuple hq;refine assign_Tuple_tuple (I.ok.hd hc) ht (by simp[hn,← hl,rv.length]) O6 λh' hx=>?_;have I1:Inv X NI σ H {s with heap:=h'}:=I.kept (t':=s.toks) λb o e=>hx b o (JL (Mo e)) e;exact h NI _ σ H xs _ Q I1 (by simpa using rv) hw
def Ha (to ti:TE)(t:xo):TG:=λv σ H Q=>to σ H λo H1=>ti σ H1 λi H2=>t o i v H2 λH3=>Q σ H3
theorem Cc {o i:Expr}{to ti:TE}{t:xo}(ho:PE X o to)(hi:PE X i ti)(hs:B2 X t)(ha:∀v,K5 (.Subscript o i pos) X.env v=(do
  let ov ← K2 [v] (eval o X.env)
  let iv ← K2 [v,ov] (eval i X.env)
  Ls pos
  K2 [v,ov,iv] (setItem ov iv v)
  release [v,ov,iv] []):=by intro _;rfl):PG X (.Subscript o i pos) (Ha to ti t):=by
 intro NI s σ H v u Q I r h;rw[ha];refine Kb (Ku (aJ (ho NI s σ H _ I h) λov s1 ⟨x,H1,I1,r1,q1⟩=>?_));refine Kb (Ku (aJ (hi NI s1 σ H1 _ I1 q1) λiv s2 ⟨y,H2,I2,r2,q2⟩=>?_));refine Kb (Le (Kb (Ku (aJ (hs NI s2 σ H2 x y v ov iv u _ I2 r1 r2 r q2) λ_ s3 ⟨H3,I3,q3⟩=>?_))));exact wpAny_release ⟨σ,H3,I3,q3⟩
def xO (te:TE)(g:TG):TS:=λD σ H=>te σ H λx H1=>g x σ H1 D.nx
theorem vF {g:TG}(he:PE X e te)(hg:PG X tg g)(hs:LS [tg] e pos.line X.env=pure false:=by rfl)(hw:LU [tg] e X.env=pure none:=by rfl)(h1:(KY [tg] X.env).map (·.2)=[K5 tg X.env]:=by rfl):PS X (.Assign [tg] e pos) (xO te g):=by
 intro NI s σ H D I h;refine wpAny_Assign_stores (aJ (he NI s σ H _ I h) λv s1 ⟨x,H1,I1,r1,q1⟩=>?_) hs hw;rw[h1];exact aJ (hg NI s1 σ H1 x v _ I1 r1 q1) λ_ s2 q=>q
theorem gQ (hN:X.N.Nodup)(hi:X.N[i]?=some x)(hx:Loc X.env.scope x)(he:PE X e te)(hs:Km e (some (.Name x pos')) pos.line X.env=pure false:=by rfl)(hf:X.fn x=true∨X.env.scope.names.lookup x=some .local:=by first | exact .inl rfl | exact .inr rfl | assumption):
 PS X (.Assign [.Name x pos'] e pos) (xO te (uo i)):=by
 intro NI s σ H D I h;refine wpAny_Assign_Name (aJ (he NI s σ H _ I h) λv s1 ⟨y,H1,I1,r1,q1⟩=>?_) hs;exact i8 I1 hN hi hx r1 (λs2 I2=>⟨_,H1,I2,q1⟩) hf
def GX (i:Nat)(te:TE)(ti:yG):TS:=λD σ H=>∃x,σ[i]?=some (some x)/\te σ H λy H1=>ti x y H1 λz H2=>D.nx (σ.set i (some z)) H2
theorem BY {ti:yG}(hN:X.N.Nodup)(hi:X.N[i]?=some x)(hx:Loc X.env.scope x)(he:PE X e te)(ho:Fu X op ti)(hf:X.fn x=true∨X.env.scope.names.lookup x=some .local:=by first | exact .inl rfl | exact .inr rfl | assumption):
 PS X (.AugAssign (.Name x pos') op e pos) (GX i te ti):=by
 intro NI s σ H D I h;obtain⟨v,e1,h⟩:=h;obtain⟨m,hn,hl⟩:=I.loc;have vis:dc X.env.scope x:=by rcases hx with k | k;exact .inl k;exact .inr (.inl k)
 obtain⟨u,r,l⟩:=hl i x v hi e1 vis;refine wpAny_AugAssign_Name ?_;have go:wpAny (model X.prog X.w) X.A (eval e X.env) (λw s₂=>wpAny (model X.prog X.w) X.A (inplaceOp op u w) (λr s₃=>wpAny (model X.prog X.w) X.A (storeName X.env x r) (λ_=>SP X NI D .next) X.xe s₃) X.xe s₂) X.xe s:=by
  refine aJ (he NI s σ H _ I h) λw s1 ⟨y,H1,I1,r1,q1⟩=>?_;refine aJ (ho NI s1 σ H1 v y u w _ I1 r r1 q1) λz s2 ⟨zv,H2,I2,r2,q2⟩=>?_;exact i8 I2 hN hi hx r2 (λs3 I3=>⟨_,H2,I3,q2⟩) hf
 rcases l with⟨hk,hm⟩ | ⟨hk,c,hc,OL⟩
 ·exact wpAny_loadName_local I.ok.kind hk hn hm go
 ·rcases hk with hk | hk
  ·exact wpAny_loadName_cell I.ok.kind hk hc OL go
  ·rcases hx with k | k
   ·have:X.env.scope.names.lookup x=some .free:=hk;rw[k] at this;cases this
   ·have:X.env.scope.names.lookup x=some .free:=hk;rw[k] at this;cases this
def ipI (f:Int->Int->Int):yG:=λx y H Q=>∃i j,x= .int i/\y= .int j/\Q (.int (f i j)) H
theorem Cp:Fu X .Add (ipI λi j=>i+j):=by
 intro NI s σ H x y v u Q I r1 r2 h;obtain⟨i,j,e1,e2,q⟩:=h;subst e1;subst e2;obtain⟨t,rfl⟩:=r1;obtain⟨t',rfl⟩:=r2;exact iadd_int ⟨.int _,H,I.tok _,⟨_,rfl⟩,q⟩
variable {body:List Stmt}{tb:TS}
def C5 (c:TT)(tb:TS):TS:=λD σ H=>∃W:Nat->St->Hp->Prop,(∃m,W m σ H)/\∀m σ H,W m σ H->
 c σ H λb H1=>if b=true then∃N:St->Hp->Prop,(∀σ' H',N σ' H'->∃m',m'<m/\W m' σ' H')/\tb {D with nx:=N,ct:=N,bk:=D.nx} σ H1 else D.nx σ H1
theorem pB (hp:Lz (model X.prog X.w) X.A X.env X.xe)(hc:PT X c tc)(hb:hJ X body tb):PS X (.While c body [] pos) (C5 tc tb):=by
 intro NI s σ H D I h;obtain⟨W,⟨m0,w0⟩,turn⟩:=h;refine wpAny_While (codeAny_whileLoop (λn s'=>∃σ' H',Inv X NI σ' H' s'/\W n σ' H') ?_ m0 ⟨σ,H,I,w0⟩);rintro n s1 ⟨σ1,H1,I1,w1⟩;refine KL hp (aJ (hc NI s1 σ1 H1 _ I1 (turn n σ1 H1 w1)) λb s2 ⟨H2,I2,q2⟩=>?_);cases b with
 | true=>
   obtain⟨N,hN,q2⟩:=q2;rw[ND rfl];refine KL hp (aJ (hb NI s2 σ1 H2 _ I2 q2) λf s3 q3=>?_);cases f with
   | next=>
     obtain⟨σ3,H3,I3,n3⟩:=q3;obtain⟨m',hm,w3⟩:=hN σ3 H3 n3;exact⟨m',hm,σ3,H3,I3,w3⟩
   | cont=>
     obtain⟨σ3,H3,I3,n3⟩:=q3;obtain⟨m',hm,w3⟩:=hN σ3 H3 n3;exact⟨m',hm,σ3,H3,I3,w3⟩
   | brk=>exact q3
   | ret v=>exact q3
 | false=>
   rw[Nz HE];exact KS ⟨σ1,H2,I2,q2⟩
structure It where
 go:Nat->Hp->Prop
 Rr:Nat->Hp->V->Hp->Prop
 stop:Nat->Hp->Prop
def ib (X:Cx)(NI:Hr)(H:Hp)(b:Addr):Prop:=
 H b=none/\b≠X.env.locals/\b∉X.fs/\(b∈X.ex∨X.s₀.heap.objs.size<=b)/\(∀x c,X.env.cells.lookup x=some c->c≠b)/\∀p∈X.pn++NI,p.1≠b
theorem Inv.gi (I:Inv X NI σ H s)(hb:s.heap.objs.size<=b)(hn:H' b=none):ib X NI H' b:=by
 refine⟨hn,JU (JK I.lt hb),I.Hk hb,.inr (JJ I.sz hb),λx c e z=>?_,λp hp z=>?_⟩
 ·obtain⟨v,q⟩:=I.cell x c e;exact Ny (JK q.lt (by rw[z];exact hb)) (JP _)
 ·exact Ny (JK (Mo (I.pin p hp).1) (by rw[z];exact hb)) (JP _)
structure Turn (P:Kh)(w:World)(K:MO)(tg:Expr)(J:It)(fp:Hv)(it:Addr)(tn:Nat->Heap->Prop):Prop where
 mem:it∈fp
 obj:∀i h,tn i h->∀b∈fp,∃o,h.get? b=some o/\∀v,o.data≠ .cell v
 keep:∀i h h',tn i h->(∀b∈fp,∀o,h.get? b=some o->h'.get? b=some o)->tn i h'
 item:∀(X:Cx),X.prog=P->X.w=w->X.K=K->X.calm=true->∀(i:Nat)(NI:Hr)(s:Kc)(σ:St)(H:Hp)(E:Value->Kc->Prop),Inv X NI σ H s->(∀b∈fp,ib X NI H b)->tn i s.heap->J.go i H->
  wpAny (model P w) X.A (LH (.ref it)) (λr s1=>∃u,r=some u/\
   wpAny (model P w) X.A (Lh tg (.ref it) u) (λ_ s2=>∃x H',Inv X NI σ H' s2/\RelV x u/\J.Rr i H x H'/\tn (i+1) s2.heap/\∀b∈fp,H' b=none) E s1) E s
 done:∀(X:Cx),X.prog=P->X.w=w->X.K=K->X.calm=true->∀(i:Nat)(NI:Hr)(s:Kc)(σ:St)(H:Hp)(E:Value->Kc->Prop),Inv X NI σ H s->(∀b∈fp,ib X NI H b)->tn i s.heap->J.stop i H->
  wpAny (model P w) X.A (LH (.ref it)) (λr s1=>r=none/\Inv X NI σ H s1) E s
 self:∀(A:Kj)(i:Nat)(s:Kc)(Q:Value->Kc->Prop)(E:Value->Kc->Prop),tn i s.heap->Q (.ref it) s->wpAny (model P w) A (pyIter (.ref it)) Q E s
abbrev TI:=St->Hp->(It->Hp->Prop)->Prop
def B1 (X:Cx)(NI:Hr)(σ:St)(tg:Expr)(R:It->Hp->Prop)(itv:Value)(s2:Kc):Prop:=
 ∃(it:Addr)(fp:Hv)(tn:Nat->Heap->Prop)(J:It)(H':Hp),itv= .ref it/\Inv X NI σ H' s2/\Turn X.prog X.w X.K tg J fp it tn/\tn 0 s2.heap/\(∀b∈fp,ib X NI H' b)/\R J H'
def PI (X:Cx)(tg iter:Expr)(wi:TI):Prop:=
 ∀(NI:Hr)(s:Kc)(σ:St)(H:Hp)(R:It->Hp->Prop),Inv X NI σ H s->wi σ H R->
  wpAny (model X.prog X.w) X.A (eval iter X.env) (λv s1=>wpAny (model X.prog X.w) X.A (pyIter v) (B1 X NI σ tg R) X.xe s1) X.xe s
theorem j2 {n:String}{vs:Array Value}{Q:Unit->Kc->Prop}(ho:s.heap.get? it=some o)(hc:o.cls= .type n)(hd:o.data= .fields vs)(hn:["enumerate","zip","dict_itemiterator","dict_reverseitemiterator","odict_iterator","itertools.zip_longest","itertools.pairwise"].contains n=false)(hQ:Q () s):wpAny M A (Lh tg (.ref it) u) Q E s:=by
 unfold Lh;cases tg<;>first
  | exact Kg hQ
  | (cases u<;>first
   | exact Kg hQ
   | (refine Kb (wpAny_load ho ?_)
      rw[hc,hd];show wpAny M A (if(["enumerate","zip","dict_itemiterator","dict_reverseitemiterator","odict_iterator","itertools.zip_longest","itertools.pairwise"].contains n&&vs[0]?==some (Lw _))=true then _ else _) Q E s;rw[Nz (by intro h;rw[hn,Bool.false_and] at h;cases h)]
      exact Kg hQ))
def Fh (K:MO)(a:Addr):It:=
 ⟨λi H=>∃xs x,bp K H a xs/\xs[i]?=some x,λi H x H'=>H'=H/\∀xs,bp K H a xs->xs[i]?=some x,λi H=>∃xs,bp K H a xs/\xs.length<=i⟩
def F9 (K:MO)(a:Addr):It:=
 ⟨λi H=>∃xs x,du K H a xs/\xs[i]?=some x,λi H x H'=>H'=H/\∀xs,du K H a xs->xs[i]?=some x,λi H=>∃xs,du K H a xs/\xs.length<=i⟩
def yq (lo:Int)(n:Nat):It:=⟨λi _=>i<n,λi H x H'=>H'=H/\x= .int (lo+i),λi _=>n<=i⟩
theorem we (a it:Addr):Turn P w K tg (Fh K a) [it] it (λi h=>h.IsListIter it a i) where
 mem:=by simp
 obj:=λi h st b hb=>by
  have e:b=it:=by simpa using hb
  subst e;obtain⟨o,e,c,d⟩:=st;exact⟨o,e,λv z=>by rw[d] at z;cases z⟩
 keep:=λi h h' st k=>st.at λo e=>k it (by simp) o e
 item:=by
  intro X hP hw hK hc i NI s σ H E I hf st hg;subst hP hw hK;obtain⟨xs,x,hq,hx⟩:=hg;obtain⟨NJ,rv,p,hz⟩:=I.list hq;obtain⟨u,hu,ru⟩:=rv.get hx;obtain⟨f0,f1,f2,f3,f4,f5⟩:=hf it (by simp);refine wpAny_pyNext_list_item st p.isList (x:=u) (by simpa using hu) λh' O3 sb=>?_;have I1:Inv X NI σ H {s with heap:=h'}:=I.turned (t':=s.toks) (λb o hb e=>(sb.2 b hb).trans e) f0 f1 f3 f4 f5;obtain⟨o,e,c,d⟩:=id O3;exact⟨u,rfl,j2 (s:={s with heap:=h'}) e c d (by decide) ⟨x,H,I1,ru,⟨rfl,λys hy=>by rw[I.iZ hy hq];exact hx⟩,O3,λb hb=>(hf b hb).1⟩⟩
 done:=by
  intro X hP hw hK hc i NI s σ H E I hf st hg;subst hP hw hK;obtain⟨xs,hq,hx⟩:=hg;obtain⟨NJ,rv,p,hz⟩:=I.list hq;obtain⟨f0,f1,f2,f3,f4,f5⟩:=hf it (by simp);have hl:=rv.length;exact wpAny_pyNext_list_end (I.ok.hd hc) st p.isList (by simp;omega) λh' eb=>⟨rfl,I.turned (t':=s.toks) (λb o hb e=>eb b o hb e) f0 f1 f3 f4 f5⟩
 self:=λ_ _ _ _ _ st h=>wpAny_pyIter_listiter st h
theorem t6 (a it:Addr):Turn P w K tg (F9 K a) [it] it (λi h=>h.IsTupleIter it a i) where
 mem:=by simp
 obj:=λi h st b hb=>by
  have e:b=it:=by simpa using hb
  subst e;obtain⟨o,e,c,d⟩:=st;exact⟨o,e,λv z=>by rw[d] at z;cases z⟩
 keep:=λi h h' st k=>st.at λo e=>k it (by simp) o e
 item:=by
  intro X hP hw hK hc i NI s σ H E I hf st hg;subst hP hw hK;obtain⟨xs,x,hq,hx⟩:=hg;obtain⟨NJ,rv,p,hz⟩:=I.tuple hq;obtain⟨u,hu,ru⟩:=rv.get hx;obtain⟨f0,f1,f2,f3,f4,f5⟩:=hf it (by simp);refine wpAny_pyNext_tuple_item st (show s.heap.IsTuple a NJ.toArray from p) (x:=u) (by simpa using hu) λh' O3 sb=>?_;have I1:Inv X NI σ H {s with heap:=h'}:=I.turned (t':=s.toks) (λb o hb e=>(sb.2 b hb).trans e) f0 f1 f3 f4 f5;obtain⟨o,e,c,d⟩:=id O3;exact⟨u,rfl,j2 (s:={s with heap:=h'}) e c d (by decide) ⟨x,H,I1,ru,⟨rfl,λys hy=>by rw[I.om hy hq];exact hx⟩,O3,λb hb=>(hf b hb).1⟩⟩
 done:=by
  intro X hP hw hK hc i NI s σ H E I hf st hg;subst hP hw hK;obtain⟨xs,hq,hx⟩:=hg;obtain⟨NJ,rv,p,hz⟩:=I.tuple hq;obtain⟨f0,f1,f2,f3,f4,f5⟩:=hf it (by simp);have hl:=rv.length;exact wpAny_pyNext_tuple_end (I.ok.hd hc) st (show s.heap.IsTuple a NJ.toArray from p) (by simp;omega) λh' eb=>⟨rfl,I.turned (t':=s.toks) (λb o hb e=>eb b o hb e) f0 f1 f3 f4 f5⟩
 self:=λ_ _ _ _ _ st h=>wpAny_pyIter_tupleiter st h
theorem ub (it:Addr)(lo:Int)(n:Nat):Turn P w K tg (yq lo n) [it] it (λi h=>LC h it (lo+(i:Nat)*1) ((n:Int)-(i:Nat)) 1) where
 mem:=by simp
 obj:=λi h st b hb=>by
  have e:b=it:=by simpa using hb
  subst e;exact⟨_,st,λv z=>by
   have z':Data.fields _=Data.cell v:=z;cases z'⟩
 keep:=λi h h' st k=>k it (by simp) _ st
 item:=by
  intro X hP hw hK hc i NI s σ H E I hf st hg;subst hP hw hK;obtain⟨f0,f1,f2,f3,f4,f5⟩:=hf it (by simp);have W:=Walks.range (prog:=X.prog) (w:=X.w) (I.ok.hd hc) it lo 1 n;refine W.item i s _ _ hg st λv h' tk hv O3 kk=>?_;obtain⟨t,rfl⟩:=hv;have I1:Inv X NI σ H {s with heap:=h',toks:=tk}:=I.turned (λb o hb e=>kk b o (by simpa using hb) e) f0 f1 f3 f4 f5;refine⟨_,rfl,j2 (s:={s with heap:=h',toks:=tk}) (n:="range_iterator") O3 rfl rfl (by decide) ⟨.int (lo+i),H,I1,⟨t,?_⟩,⟨rfl,rfl⟩,O3,λb hb=>(hf b hb).1⟩⟩;rw[Int.mul_one]
 done:=by
  intro X hP hw hK hc i NI s σ H E I hf st hg;subst hP hw hK;obtain⟨f0,f1,f2,f3,f4,f5⟩:=hf it (by simp);exact wpAny_pyNext_range_end (I.ok.hd hc) st (by have:n<=i:=hg;omega) λh' eb=>⟨rfl,I.turned (t':=s.toks) (λb o hb e=>eb b o hb e) f0 f1 f3 f4 f5⟩
 self:=λ_ _ _ _ _ st h=>wpAny_pyIter_rangeiter st h
variable {l:Expr}{tl:TE}
def ER (K:MO)(tl:TE):TI:=λσ H R=>tl σ H λx H1=>∃a,x= .ref a/\(∃xs,bp K H1 a xs)/\R (Fh K a) H1
def GG (K:MO)(tl:TE):TI:=λσ H R=>tl σ H λx H1=>∃a,x= .ref a/\(∃xs,du K H1 a xs)/\R (F9 K a) H1
theorem Ad (hl:PE X l tl):PI X tg l (ER X.K tl):=by
 intro NI s σ H R I h;refine aJ (hl NI s σ H _ I h) λv s1 ⟨x,H1,I1,r1,q1⟩=>?_;obtain⟨a,e,⟨xs,hq⟩,q⟩:=q1;subst e;cases r1
 obtain⟨NJ,rv,p,hz⟩:=I1.list hq;refine Lb p.isList ?_;refine⟨s1.heap.objs.size,[s1.heap.objs.size],_,_,H1,rfl,I1.kept (t':=s1.toks) λb o e=>Mn _ e,we a _,⟨_,Mp _ rfl,rfl,rfl⟩,λb hb=>?_,q⟩;have e:b=s1.heap.objs.size:=by simpa using hb
 subst e;exact I1.gi (JI _) (I1.NN.fresh (JI _))
theorem Br (hl:PE X l tl):PI X tg l (GG X.K tl):=by
 intro NI s σ H R I h;refine aJ (hl NI s σ H _ I h) λv s1 ⟨x,H1,I1,r1,q1⟩=>?_;obtain⟨a,e,⟨xs,hq⟩,q⟩:=q1;subst e;cases r1
 obtain⟨NJ,rv,p,hz⟩:=I1.tuple hq;refine wpAny_pyIter_tuple (show s1.heap.IsTuple a NJ.toArray from p) ?_;refine⟨s1.heap.objs.size,[s1.heap.objs.size],_,_,H1,rfl,I1.kept (t':=s1.toks) λb o e=>Mn _ e,t6 a _,⟨_,Mp _ rfl,rfl,rfl⟩,λb hb=>?_,q⟩;have e:b=s1.heap.objs.size:=by simpa using hb
 subst e;exact I1.gi (JI _) (I1.NN.fresh (JI _))
theorem xk {R:It->Hp->Prop}{lo hi:Int}{t u v:Tok}{tk:Nat}(I:Inv X NI σ H s)(h1: -(2 ^ 62)<=lo)(h2:lo<2 ^ 62)(h3: -(2 ^ 62)<=hi)(h4:hi<2 ^ 62)(q:R (yq lo (hi-lo).toNat) H):wpAny (model X.prog X.w) X.A (pyIter (.ref s.heap.objs.size)) (B1 X NI σ tg R) E {s with heap:=s.heap.push {cls:=.type "range",data:=.fields #[.int lo t,.int hi u,.int 1 v]},toks:=tk}:=by
 refine wpAny_pyIter_range (IsRange.new ..) (small_one h1 h2 h3 h4) ?_;have I1:Inv X NI σ H {s with heap:=s.heap.push {cls:=.type "range",data:=.fields #[.int lo t,.int hi u,.int 1 v]},toks:=tk}:=I.kept λb o e=>Mn _ e;refine⟨(s.heap.push {cls:=.type "range",data:=.fields #[.int lo t,.int hi u,.int 1 v]}).objs.size,[(s.heap.push {cls:=.type "range",data:=.fields #[.int lo t,.int hi u,.int 1 v]}).objs.size],_,_,H,rfl,
  I1.kept (t':=tk) λb o e=>Mn _ e,ub _ lo (hi-lo).toNat,?_,λb hb=>?_,q⟩
 ·have e1:lo+((0:Nat):Int)*1=lo:=by simp
  have e2:(((hi-lo).toNat:Nat):Int)-((0:Nat):Int)=Ln.Range.rangeSize lo hi 1:=by rw[rangeSize_one];split<;>omega
  show LC _ _ (lo+((0:Nat):Int)*1) ((((hi-lo).toNat:Nat):Int)-((0:Nat):Int)) 1;rw[e1,e2];exact Mp _ rfl
 ·have e:b=(s.heap.push {cls:=.type "range",data:=.fields #[.int lo t,.int hi u,.int 1 v]}).objs.size:=by simpa using hb
  subst e;exact I1.gi (JI _) (I1.NN.fresh (JI _))
def DU (ta:TA):TI:=λσ H R=>ta σ H λvs H1=>∃j:Int,vs=[.int j]/\ -(2 ^ 62)<=j/\j<2 ^ 62/\R (yq 0 j.toNat) H1
theorem wk {a:Expr}{ta:TA}{p:Pos}(hg:Gl X "range")(hm:X.mg "range"=none)(ha:PA X [a] ta)(hs:Kf [a] X.env=[(false,eval a X.env)]:=by rfl):PI X tg (.Call (.Name "range" p) [a] [] pos) (DU ta):=by
 intro NI s σ H R I h;refine Call_ (gc I hg hm boot_range (J6 (aJ (ha pos NI s σ H _ I h) λus s1 ⟨vs,H1,I1,r1,q1⟩=>?_) hs rfl));obtain⟨j,e,q1,q2,q⟩:=q1;subst e;cases r1 with
 | cons r rr=>
   cases rr
   obtain⟨t,rfl⟩:=r;exact call_range_1 (xk I1 (by omega) (by omega) q1 q2 (by simpa using q))
def GJ (wi:TI)(g:TG)(tb:TS):TS:=λD σ H=>wi σ H λJ H1=>∃W:Nat->Nat->St->Hp->Prop,(∃m,W 0 m σ H1)/\∀i m σ H,W i m σ H->
 (J.stop i H/\D.nx σ H)∨(J.go i H/\∃N:St->Hp->Prop,(∀σ' H',N σ' H'->∃m',m'<m/\W (i+1) m' σ' H')/\∀x H',J.Rr i H x H'->g x σ H' λσ2 H2=>tb {D with nx:=N,ct:=N,bk:=D.nx} σ2 H2)
def iu (fp:Hv)(h:Heap):Hr:=fp.filterMap λb=>(h.get? b).map λo=>(b,o)
theorem gv {fp:Hv}(hb:b∈fp)(e:h.get? b=some o):(b,o)∈iu fp h:=Jr.mpr ⟨b,hb,by rw[e];rfl⟩
theorem wu {fp:Hv}{p:Addr×Obj}(hp:p∈iu fp h):p.1∈fp/\h.get? p.1=some p.2:=by
 obtain⟨b,hb,e⟩:=Jr.mp hp;cases q:h.get? b with
 | none=>rw[q] at e;cases e
 | some o=>
   rw[q] at e;have e':(b,o)=p:=Option.some.inj e;subst e';exact⟨hb,q⟩
theorem Inv.pinned {fp:Hv}(I:Inv X NI σ H s)(hf:∀b∈fp,ib X NI H b)(ho:∀b∈fp,∃o,s.heap.get? b=some o/\∀v,o.data≠ .cell v):Inv X (NI++iu fp s.heap) σ H s:=
 I.gI λp hp=>(Ij.mp hp).elim (λz=>I.pin p (Ie _ z)) λz=>by
   obtain⟨hb,e⟩:=wu z;obtain⟨f0,f1,f2,_⟩:=hf p.1 hb;obtain⟨o,e',d⟩:=ho p.1 hb;rw[e] at e';cases e'
   exact⟨e,f0,f1,f2,d⟩
theorem Inv.gY {pl:Hr}(I:Inv X (NI++pl) σ H s):Inv X NI σ H s:=I.gI λp hp=>I.pin p (Ie _ (Ik _ hp))
theorem Bo {iter:Expr}{wi:TI}{g:TG}(hp:Lz (model X.prog X.w) X.A X.env X.xe)(hc:X.calm=true)(hi:PI X tg iter wi)(hg:PG X tg g)(hb:hJ X body tb)(hs:∀x,KC iter X.env x=pure x:=by intro _;rfl):PS X (.For tg iter body [] pos) (GJ wi g tb):=by
 intro NI s σ H D I h;refine wpAny_For (aJ (hi NI s σ H _ I h) λv s1 h1=>aJ h1 λitv s2 h2=>?_) hs;obtain⟨it,fp,tn,J,H2,e,I2,T,Qh,f2,W,⟨m0,w0⟩,turn⟩:=h2;subst e
 -- what stays true of Rv QO objects through Rv loop
 have QH:∀{H':Hp},(∀b∈fp,H' b=none)->∀b∈fp,ib X NI H' b:=λhn b hb=>⟨hn b hb,(f2 b hb).2⟩;refine codeAny_forLoop_any (λn s'=>∃i σ' H',Inv X NI σ' H' s'/\tn i s'.heap/\(∀b∈fp,H' b=none)/\W i n σ' H') ?_ m0 ⟨0,σ,H2,I2,Qh,λb hb=>(f2 b hb).1,w0⟩;rintro n s3 ⟨i,σ3,H3,I3,st3,fr3,w3⟩;rcases turn i n σ3 H3 w3 with⟨stop,qn⟩ | ⟨go,N,hN,step⟩
 ·refine KL hp (aJ (T.done X rfl rfl rfl hc i NI s3 σ3 H3 X.xe I3 (QH fr3) st3 stop) λr s4 ⟨hr,I4⟩=>?_);subst hr;exact KS ⟨σ3,H3,I4,qn⟩
 ·refine KL hp (aJ (T.item X rfl rfl rfl hc i NI s3 σ3 H3 X.xe I3 (QH fr3) st3 go) λr s4 ⟨u,hr,h4⟩=>?_);subst hr;refine KL hp (aJ h4 λ_ s5 ⟨x,H5,I5,r5,y5,Q6,fr5⟩=>?_);have I5':=I5.pinned (QH fr5) (T.obj _ _ Q6);refine KL hp (aJ (hg _ s5 σ3 H5 x u _ I5' r5 (step x H5 y5)) λ_ s6 ⟨σ6,H6,I6,q6⟩=>?_);refine KL hp (aJ (hb _ s6 σ6 H6 _ I6 q6) λf s7 q7=>?_);have again:∀{σ7:St}{H7:Hp},Inv X (NI++iu fp s5.heap) σ7 H7 s7->N σ7 H7->∃m,m<n/\∃i σ' H',Inv X NI σ' H' s7/\tn i s7.heap/\(∀b∈fp,H' b=none)/\W i m σ' H':=λ{σ7 H7} I7 n7=>by
   obtain⟨m',hm,w7⟩:=hN σ7 H7 n7;refine⟨m',hm,i+1,σ7,H7,I7.gY,T.keep _ _ _ Q6 λb hb o e=>(I7.pin (b,o) (Ie _ (Ie _ (gv hb e)))).1,λb hb=>?_,w7⟩;obtain⟨o,e,d⟩:=T.obj _ _ Q6 b hb;exact(I7.pin (b,o) (Ie _ (Ie _ (gv hb e)))).2.1
  cases f with
  | next=>obtain⟨σ7,H7,I7,n7⟩:=q7;exact again I7 n7
  | cont=>obtain⟨σ7,H7,I7,n7⟩:=q7;exact again I7 n7
  | brk=>obtain⟨σ7,H7,I7,q7⟩:=q7;exact⟨σ7,H7,I7.gY,q7⟩
  | ret v=>obtain⟨x7,σ7,H7,I7,r7,q7⟩:=q7;exact⟨x7,σ7,H7,I7.gY,r7,q7⟩
abbrev R2:=V->V->Hp->VK->Prop
def cP (X:Cx)(f:Value->Value->Sem Value)(r:R2):Prop:=
 ∀(NI:Hr)(s:Kc)(σ:St)(H:Hp)(x y:V)(v u:Value)(Q:VK),Inv X NI σ H s->RelV x v->RelV y u->r x y H Q->
  wpAny (model X.prog X.w) X.A (f v u) (EP X NI σ Q) X.xe s
def An (X:Cx)(f:Value->Sem Value)(r:V->Hp->VK->Prop):Prop:=
 ∀(NI:Hr)(s:Kc)(σ:St)(H:Hp)(x:V)(v:Value)(Q:VK),Inv X NI σ H s->RelV x v->r x H Q->
  wpAny (model X.prog X.w) X.A (f v) (EP X NI σ Q) X.xe s
def dD (X:Cx)(f:Value)(r:List V->Hp->VK->Prop):Prop:=
 ∀(NI:Hr)(s:Kc)(σ:St)(H:Hp)(xs:List V)(us:Hw)(Q:VK),Inv X NI σ H s->Vals xs us->r xs H Q->
  wpAny (model X.prog X.w) X.A (call f us) (EP X NI σ Q) X.xe s
def GI (X:Cx)(r:V->Hp->(Bool->Hp->Prop)->Prop):Prop:=
 ∀(NI:Hr)(s:Kc)(σ:St)(H:Hp)(x:V)(v:Value)(Q:Bool->Hp->Prop),Inv X NI σ H s->RelV x v->r x H Q->
  wpAny (model X.prog X.w) X.A (truthy v) (TP X NI σ Q) X.xe s
def yu (r:R2)(ta tb:TE):TE:=λσ H Q=>ta σ H λx H1=>tb σ H1 λy H2=>r x y H2 Q
def tUn (r:V->Hp->VK->Prop)(ta:TE):TE:=λσ H Q=>ta σ H λx H1=>r x H1 Q
def rI (C:Int->Int->Prop)(g:Int->Int->V):R2:=λx y H Q=>∃i j,x= .int i/\y= .int j/\C i j/\Q (g i j) H
def og (g:Int->Int->V):R2:=λx y H Q=>∃i j,x= .int i/\y= .int j/\Q (g i j) H
def rU (g:Int->V):V->Hp->VK->Prop:=λx H Q=>∃i,x= .int i/\Q (g i) H
variable {g:Int->Int->Int}{r:R2}
section
variable {a b:Expr}{tb tc:TE}
variable {f:Value->Value->Sem Value}
theorem xn (ha:PE X a ta)(hb:PE X b tb){R:V->V->Hp->Prop}(I:Inv X NI σ H s)(h:ta σ H λx H1=>tb σ H1 λy H2=>R x y H2)(hf:∀v u s2 x y H2,Inv X NI σ H2 s2->RelV x v->RelV y u->R x y H2->wpAny (model X.prog X.w) X.A (f v u) Q X.xe s2):
 wpAny (model X.prog X.w) X.A (eval a X.env) (λv s₁=>wpAny (model X.prog X.w) X.A (eval b X.env) (λu s₂=>wpAny (model X.prog X.w) X.A (f v u) Q X.xe s₂) X.xe s₁) X.xe s:=by
 refine aJ (ha NI s σ H _ I h) λv s1 ⟨x,H1,I1,r1,q1⟩=>?_;refine aJ (hb NI s1 σ H1 _ I1 q1) λu s2 ⟨y,H2,I2,r2,q2⟩=>?_;exact hf v u s2 x y H2 I2 r1 r2 q2
theorem ui (ho:cP X (KO op) r)(ha:PE X a ta)(hb:PE X b tb):PE X (.BinOp a op b pos) (yu r ta tb):=by
 intro NI s σ H Q I h;exact wpAny_BinOp (xn ha hb I h λv u s2 x y H2 I2 rx ry q=>ho NI s2 σ H2 x y v u Q I2 rx ry q)
theorem Ez {op:UnaryOp}{r:V->Hp->VK->Prop}(ho:An X (unaryOp op) r)(ha:PE X a ta):PE X (.UnaryOp op a pos) (tUn r ta):=by
 intro NI s σ H Q I h;exact UnaryOp_ (aJ (ha NI s σ H _ I h) λv s1 ⟨x,H1,I1,r1,q1⟩=>ho NI s1 σ H1 x v Q I1 r1 q1)
theorem sf {C:Int->Int->Prop}(rule:∀(i j:Int)(t u:Tok)(s:Kc)(Q:Value->Kc->Prop)(E:Value->Kc->Prop),C i j->Q (.int (g i j) s.toks) {s with toks:=s.toks+1}->wpAny (model X.prog X.w) X.A (f (.int i t) (.int j u)) Q E s):
 cP X f (rI C λi j=>.int (g i j)):=by
 intro NI s σ H x y v u Q I rx ry h;obtain⟨i,j,rfl,rfl,hc,q⟩:=h;obtain⟨t,rfl⟩:=rx;obtain⟨t',rfl⟩:=ry;exact rule i j t t' s _ _ hc ⟨.int (g i j),H,I.tok _,⟨_,rfl⟩,q⟩
theorem Bi 
 (rule:∀(i j:Int)(t u:Tok)(s:Kc)(Q:Value->Kc->Prop)(E:Value->Kc->Prop),Q (.int (g i j) s.toks) {s with toks:=s.toks+1}->wpAny (model X.prog X.w) X.A (f (.int i t) (.int j u)) Q E s):
 cP X f (og λi j=>.int (g i j)):=by
 intro NI s σ H x y v u Q I rx ry h;obtain⟨i,j,rfl,rfl,q⟩:=h;obtain⟨t,rfl⟩:=rx;obtain⟨t',rfl⟩:=ry;exact rule i j t t' s _ _ ⟨.int (g i j),H,I.tok _,⟨_,rfl⟩,q⟩
theorem tH {g:Int->Int->Bool}(rule:∀(i j:Int)(t u:Tok)(s:Kc)(Q:Value->Kc->Prop)(E:Value->Kc->Prop),Q (.bool (g i j)) s->wpAny (model X.prog X.w) X.A (f (.int i t) (.int j u)) Q E s):
 cP X f (og λi j=>.bl (g i j)):=by
 intro NI s σ H x y v u Q I rx ry h;obtain⟨i,j,rfl,rfl,q⟩:=h;obtain⟨t,rfl⟩:=rx;obtain⟨t',rfl⟩:=ry;exact rule i j t t' s _ _ ⟨.bl (g i j),H,I,rfl,q⟩
def CV (i j:Int):Prop:=0<j/\j<1073741824
def Cz (i j:Int):Prop:=0<=j/\j<=1000000/\i.natAbs<2 ^ 64
def tV (i j:Int):Prop:=(-(2 ^ 64)<i/\i<2 ^ 64)∨(-(2 ^ 64)<j/\j<2 ^ 64)
theorem tV.ok {i j:Int}(h:tV i j):LO i j:=by
 rcases h with⟨h1,h2⟩ | ⟨h1,h2⟩
 ·exact .of_left (Lo h1 h2)
 ·exact .of_right (Lo h1 h2)
theorem BM:cP X (KO .Add) (og λi j=>.int (i+j)):=Bi λ_ _ _ _ _ _ _ q=>add_int q
theorem Cd:cP X (KO .Sub) (og λi j=>.int (i-j)):=Bi λ_ _ _ _ _ _ _ q=>sub_int q
theorem Ay:cP X (KO .Mult) (rI tV λi j=>.int (i*j)):=sf λ_ _ _ _ _ _ _ hc q=>mul_int q hc.ok
theorem zK:cP X (KO .FloorDiv) (rI CV λi j=>.int (i/j)):=sf λi j _ _ _ _ _ hc q=>by
 have h1:(0:Int)<j:=hc.1;have h2:j<1073741824:=hc.2;exact floordiv_int (by omega) (by rw[Int.fdiv_eq_ediv_of_nonneg i (by omega)];exact q) (.inl (PyProof.noPylong_small (by omega)))
theorem AG:cP X (KO .Mod) (rI (λ_ j=>0<j) λi j=>.int (i%j)):=sf λi j _ _ _ _ _ hc q=>by
 have h1:(0:Int)<j:=hc;exact mod_int' (by omega) (by rw[Int.fmod_eq_emod_of_nonneg i (by omega)];exact q)
theorem Ba:cP X (KO .Pow) (rI Cz λi j=>.int (i ^ j.toNat)):=sf λ_ _ _ _ _ _ _ hc q=>pow_int_small hc.1 hc.2.1 hc.2.2 q
theorem unI {f:Value->Sem Value}{g:Int->Int}(rule:∀(i:Int)(t:Tok)(s:Kc)(Q:Value->Kc->Prop)(E:Value->Kc->Prop),Q (.int (g i) s.toks) {s with toks:=s.toks+1}->wpAny (model X.prog X.w) X.A (f (.int i t)) Q E s):
 An X f (rU λi=>.int (g i)):=by
 intro NI s σ H x v Q I rx h;obtain⟨i,rfl,q⟩:=h;obtain⟨t,rfl⟩:=rx;exact rule i t s _ _ ⟨.int (g i),H,I.tok _,⟨_,rfl⟩,q⟩
theorem AA:An X (unaryOp .USub) (rU λi=>.int (-i)):=unI λ_ _ _ _ _ q=>neg_int q
end
def CJ:V->V->Bool
 | .NS,.NS=>true | .NS,.int _=>true | .int _,.NS=>true | .NS,.bl _=>true | .bl _,.NS=>true | .NS,.str _=>true | .str _,.NS=>true
 | .int _,.int _=>true | .bl _,.bl _=>true | .str _,.str _=>true | .Pr _,.Pr _=>true
 | .int _,.str _=>true | .str _,.int _=>true | .bl _,.str _=>true | .str _,.bl _=>true
 | _,_=>false
def rEq:R2:=λx y H Q=>CJ x y=true/\Q (.bl (decide (x=y))) H
def rNe:R2:=λx y H Q=>CJ x y=true/\Q (.bl (!decide (x=y))) H
theorem ka {i j:Int}:decide (V.int i=V.int j)=(i==j):=by
 rw[HG];simp
theorem uR {i j:Bool}:decide (V.bl i=V.bl j)=(i==j):=by
 rw[HG];simp
theorem iE {i j:Str}:decide (V.str i=V.str j)=(i==j):=by
 rw[HG];simp
theorem rX {i j:Array UInt8}:decide (V.Pr i=V.Pr j)=(i.toList==j.toList):=by
 rw[HG];cases i
 cases j
 simp
variable {O9:CmpOp}{r':R2}{us:Hw}
section
variable {a b:Expr}{tb tc:TE}
variable {op:CmpOp}
theorem bg {Q:VK}{k k':Bool}(I:Inv X NI σ H s)(q:Q (.bl k) H)(e:k=k'):EP X NI σ Q (.bool k') s:=by
 subst e;exact⟨.bl k,H,I,rfl,q⟩
theorem xZ:cP X (Kp .Eq) rEq:=by
 intro NI s σ H x y v u Q I rx ry h;obtain⟨hs,q⟩:=h;cases x with
 | NS=>
   cases rx
   cases y with
   | NS=>cases ry;exact PySem.EqNone.eq_none_none (bg I q (by simp))
   | bl j=>cases ry;exact PySem.EqNone.eq_none_bool (bg I q (by simp))
   | int j=>obtain⟨t',rfl⟩:=ry;exact PySem.EqNone.eq_none_int (bg I q (by simp))
   | str j=>obtain⟨t',rfl⟩:=ry;exact PySem.EqNone.eq_none_str (bg I q (by simp))
   | _=>exact Ny (show false=true from hs) HE
 | bl i=>
   cases rx
   cases y with
   | NS=>cases ry;exact PySem.EqNone.eq_bool_none (bg I q (by simp))
   | bl j=>cases ry;exact eq_bool (bg I q uR)
   | str j=>obtain⟨t',rfl⟩:=ry;exact PySem.EqMixed.eq_bool_str (bg I q (by simp))
   | _=>exact Ny (show false=true from hs) HE
 | int i=>
   obtain⟨t,rfl⟩:=rx;cases y with
   | NS=>cases ry;exact PySem.EqNone.eq_int_none (bg I q (by simp))
   | int j=>obtain⟨t',rfl⟩:=ry;exact eq_int (bg I q ka)
   | str j=>obtain⟨t',rfl⟩:=ry;exact PySem.EqMixed.eq_int_str (bg I q (by simp))
   | _=>exact Ny (show false=true from hs) HE
 | str i=>
   obtain⟨t,rfl⟩:=rx;cases y with
   | NS=>cases ry;exact PySem.EqNone.eq_str_none (bg I q (by simp))
   | bl j=>cases ry;exact PySem.EqMixed.eq_str_bool (bg I q (by simp))
   | int j=>obtain⟨t',rfl⟩:=ry;exact PySem.EqMixed.eq_str_int (bg I q (by simp))
   | str j=>obtain⟨t',rfl⟩:=ry;exact eq_str (bg I q iE)
   | _=>exact Ny (show false=true from hs) HE
 | Pr i=>
   obtain⟨t,rfl⟩:=rx;cases y with
   | Pr j=>obtain⟨t',rfl⟩:=ry;exact PySem.W.eq_bytes (bg I q rX)
   | _=>exact Ny (show false=true from hs) HE
 | _=>cases y<;>exact Ny (show false=true from hs) HE
theorem yH:cP X (Kp .NotEq) rNe:=by
 intro NI s σ H x y v u Q I rx ry h;obtain⟨hs,q⟩:=h;cases x with
 | NS=>
   cases rx
   cases y with
   | NS=>cases ry;exact PySem.EqNone.ne_none_none (bg I q (by simp))
   | bl j=>cases ry;exact PySem.EqNone.ne_none_bool (bg I q (by simp))
   | int j=>obtain⟨t',rfl⟩:=ry;exact PySem.EqNone.ne_none_int (bg I q (by simp))
   | str j=>obtain⟨t',rfl⟩:=ry;exact PySem.EqNone.ne_none_str (bg I q (by simp))
   | _=>exact Ny (show false=true from hs) HE
 | bl i=>
   cases rx
   cases y with
   | NS=>cases ry;exact PySem.EqNone.ne_bool_none (bg I q (by simp))
   | bl j=>cases ry;exact ne_bool (bg I q (congrArg not uR))
   | str j=>obtain⟨t',rfl⟩:=ry;exact PySem.EqMixed.ne_bool_str (bg I q (by simp))
   | _=>exact Ny (show false=true from hs) HE
 | int i=>
   obtain⟨t,rfl⟩:=rx;cases y with
   | NS=>cases ry;exact PySem.EqNone.ne_int_none (bg I q (by simp))
   | int j=>obtain⟨t',rfl⟩:=ry;exact ne_int (bg I q (congrArg not ka))
   | str j=>obtain⟨t',rfl⟩:=ry;exact PySem.EqMixed.ne_int_str (bg I q (by simp))
   | _=>exact Ny (show false=true from hs) HE
 | str i=>
   obtain⟨t,rfl⟩:=rx;cases y with
   | NS=>cases ry;exact PySem.EqNone.ne_str_none (bg I q (by simp))
   | bl j=>cases ry;exact PySem.EqMixed.ne_str_bool (bg I q (by simp))
   | int j=>obtain⟨t',rfl⟩:=ry;exact PySem.EqMixed.ne_str_int (bg I q (by simp))
   | str j=>obtain⟨t',rfl⟩:=ry;exact ne_str (bg I q (congrArg not iE))
   | _=>exact Ny (show false=true from hs) HE
 | Pr i=>
   obtain⟨t,rfl⟩:=rx;cases y with
   | Pr j=>obtain⟨t',rfl⟩:=ry;exact PySem.W.ne_bytes (bg I q (congrArg not rX))
   | _=>exact Ny (show false=true from hs) HE
 | _=>cases y<;>exact Ny (show false=true from hs) HE
theorem EF:cP X (Kp .Lt) (og λi j=>.bl (decide (i<j))):=tH λ_ _ _ _ _ _ _ q=>lt_int q
theorem DM:cP X (Kp .LtE) (og λi j=>.bl (decide (i<=j))):=tH λ_ _ _ _ _ _ _ q=>le_int q
theorem EN:cP X (Kp .Gt) (og λi j=>.bl (decide (j<i))):=tH λ_ _ _ _ _ _ _ q=>gt_int q
theorem DI:cP X (Kp .GtE) (og λi j=>.bl (decide (j<=i))):=tH λ_ _ _ _ _ _ _ q=>ge_int q
theorem qL:cP X (Kp .Is) (λx y H Q=>y= .NS/\Q (.bl (decide (x= .NS))) H):=by
 intro NI s σ H x y v u Q I rx ry h;obtain⟨rfl,q⟩:=h;cases ry
 refine is_none_gen (bg I q ?_);cases x<;>first
  | (cases rx;rfl)
  | (obtain⟨t,rfl⟩:=rx;rfl)
theorem rO:cP X (Kp .IsNot) (λx y H Q=>y= .NS/\Q (.bl (!decide (x= .NS))) H):=by
 intro NI s σ H x y v u Q I rx ry h;obtain⟨rfl,q⟩:=h;cases ry
 refine isnot_none_gen (bg I q ?_);cases x<;>first
  | (cases rx;rfl)
  | (obtain⟨t,rfl⟩:=rx;rfl)
theorem pW:cP X (Kp .NotIn) (λx y H Q=>∃i j,x= .str i/\y= .str j/\Q (.bl (!(!(Ln.Str.occurrences j i 0 j.length 1).isEmpty))) H):=by
 intro NI s σ H x y v u Q I rx ry h;obtain⟨i,j,rfl,rfl,q⟩:=h;obtain⟨t,rfl⟩:=rx;obtain⟨t',rfl⟩:=ry;exact notIn_str (bg I q rfl)
theorem pU (b:Expr)(h:op≠ .In:=by decide)(h2:op≠ .NotIn:=by decide):KN op b=false:=by
 have e1:(op==CmpOp.In)=false:=by cases op<;>first | rfl | exact Ny rfl h
 have e2:(op==CmpOp.NotIn)=false:=by cases op<;>first | rfl | exact Ny rfl h2
 cases b<;>simp[KN,e1,e2]
theorem Ab (ho:cP X (Kp op) r)(ha:PE X a ta)(hb:PE X b tb)(hm:KN op b=false):PE X (.Compare a [op] [b] pos) (yu r ta tb):=by
 intro NI s σ H Q I h;exact wpAny_Compare1 (xn ha hb I h λv u s2 x y H2 I2 rx ry q=>ho NI s2 σ H2 x y v u Q I2 rx ry q) hm
def ym (t:TE):TT:=λσ H Q=>t σ H λx H'=>∃k,x= .bl k/\Q k H'
theorem yO (ho:cP X (Kp op) r)(ha:PE X a ta)(hb:PE X b tb)(hm:KN op b=false):PT X (.Compare a [op] [b] pos) (ym (yu r ta tb)):=by
 intro NI s σ H Q I h;refine wpAny_isTrue_Compare1 (aJ (ha NI s σ H _ I h) λv s1 ⟨x,H1,I1,r1,q1⟩=>aJ (hb NI s1 σ H1 _ I1 q1) λu s2 ⟨y,H2,I2,r2,q2⟩=>
  aJ (ho NI s2 σ H2 x y v u _ I2 r1 r2 q2) λc s3 ⟨z,H3,I3,r3,k,e,q3⟩=>?_) hm
 subst e;cases r3
 exact Kq ⟨H3,I3,q3⟩
def vg (r r':R2)(ta tb tc:TE):TE:=λσ H Q=>ta σ H λx H1=>tb σ H1 λy H2=>r x y H2 λz H3=>∃k,z= .bl k/\
 (if k=true then tc σ H3 λw' H4=>r' y w' H4 Q else Q (.bl false) H3)
theorem xA (ho:cP X (Kp op) r)(OO:cP X (Kp O9) r')(ha:PE X a ta)(hb:PE X b tb)(hc:PE X c tc)(hm:lastMarks [op,O9] [b,c]=false:=by with_unfolding_all rfl):PE X (.Compare a [op,O9] [b,c] pos) (vg r r' ta tb tc):=by
 intro NI s σ H Q I h;refine Compare_chain (aJ (ha NI s σ H _ I h) λv s1 ⟨x,H1,I1,r1,q1⟩=>chain_link (aJ (hb NI s1 σ H1 _ I1 q1) λu s2 ⟨y,H2,I2,r2,q2⟩=>
  aJ (ho NI s2 σ H2 x y v u _ I2 r1 r2 q2) λd s3 ⟨z,H3,I3,r3,k,e,q3⟩=>?_)) hm
 subst e;cases r3
 refine Kq ?_;cases k with
 | false=>exact ite_ff ⟨.bl false,H3,I3,rfl,q3⟩
 | true=>exact ite_tt (chain_last (aJ (hc NI s3 σ H3 _ I3 q3) λw' s4 ⟨z',H4,I4,r4,q4⟩=>OO NI s4 σ H4 y z' u w' Q I4 r2 r4 q4))
theorem wR (ho:cP X (Kp op) r)(OO:cP X (Kp O9) r')(ha:PE X a ta)(hb:PE X b tb)(hc:PE X c tc)(hm:lastMarks [op,O9] [b,c]=false:=by with_unfolding_all rfl):PT X (.Compare a [op,O9] [b,c] pos) (ym (vg r r' ta tb tc)):=by
 intro NI s σ H Q I h;refine isTrue_chain (aJ (ha NI s σ H _ I h) λv s1 ⟨x,H1,I1,r1,q1⟩=>test_link (aJ (hb NI s1 σ H1 _ I1 q1) λu s2 ⟨y,H2,I2,r2,q2⟩=>
  aJ (ho NI s2 σ H2 x y v u _ I2 r1 r2 q2) λd s3 ⟨z,H3,I3,r3,k,e,q3⟩=>?_)) hm
 subst e;cases r3
 refine Kq ?_;cases k with
 | false=>
   obtain⟨k',e',q'⟩:=q3;cases e'
   exact ite_ff ⟨H3,I3,q'⟩
 | true=>
   refine ite_tt (test_last (aJ (hc NI s3 σ H3 _ I3 q3) λw' s4 ⟨z',H4,I4,r4,q4⟩=>aJ (OO NI s4 σ H4 y z' u w' _ I4 r2 r4 q4) λd' s5 ⟨z2,H5,I5,r5,k2,e2,q5⟩=>?_));subst e2;cases r5
   exact Kq ⟨H5,I5,q5⟩
def AH (K:MO)(x:V)(H:Hp)(k:Bool):Prop:=
 match x with
 | .NS=>k=false
 | .bl b=>k=b
 | .int i=>k=(i != 0)
 | .str y=>y.length<=Ke/\k=((y.length:Int) != 0)
 | .Pr y=>y.size<=Ke/\k=((y.size:Int) != 0)
 | .ref p=>(∃xs,bp K H p xs/\k= !xs.isEmpty)∨(∃xs,du K H p xs/\k= !xs.isEmpty)∨∃kvs,H p=some (.dK kvs)/\k= !kvs.isEmpty
 | _=>False
theorem tG {κ:Type}{kvs:List (κ×V)}{vs:List (κ×Value)}(r:KV kvs vs):(!vs.isEmpty)= !kvs.isEmpty:=by
 cases r<;>rfl
theorem kZ {NJ:Hw}(r:Vals xs NJ):(!NJ.toArray.isEmpty)= !xs.isEmpty:=by
 cases r<;>simp
theorem g8:(Ke:Nat)<2 ^ 63:=by rw[Lc];decide
theorem Cq:GI X (λx H Q=>∃k,AH X.K x H k/\Q k H):=by
 intro NI s σ H x v Q I rx h;obtain⟨k,e,q⟩:=h;have hl:=g8;have hs:Ke=16777216:=Lc;cases x with
 | NS=>
   cases rx
   have e':k=false:=e;subst e';exact truthy_none ⟨H,I,q⟩
 | bl b=>
   cases rx
   have e':k=b:=e;subst e';exact Kq ⟨H,I,q⟩
 | int i=>
   obtain⟨t,rfl⟩:=rx;have e':k=(i != 0):=e;subst e';exact PySem.P.truthy_int ⟨H,I,q⟩
 | str y=>
   obtain⟨t,rfl⟩:=rx;obtain⟨hy,e'⟩:y.length<=Ke/\k=((y.length:Int) != 0):=e;subst e';exact PySem.P.truthy_str (by omega) ⟨H,I.tok _,q⟩
 | Pr y=>
   obtain⟨t,rfl⟩:=rx;obtain⟨hy,e'⟩:y.size<=Ke/\k=((y.size:Int) != 0):=e;subst e';exact PySem.W.truthy_bytes (by omega) ⟨H,I.tok _,q⟩
 | ref p=>
   cases rx
   have e':(∃xs,bp X.K H p xs/\k= !xs.isEmpty)∨(∃xs,du X.K H p xs/\k= !xs.isEmpty)∨∃kvs,H p=some (.dK kvs)/\k= !kvs.isEmpty:=e;rcases e' with⟨xs,hx,e'⟩ | ⟨xs,hx,e'⟩ | ⟨kvs,hx,e'⟩
   ·subst e';obtain⟨NJ,r,pl,hz⟩:=I.list hx;have hlen:=r.length;exact wpAny_truthy_list pl.isList (by simp only[Ig];omega) ⟨H,I.tok _,by rw[kZ r];exact q⟩
   ·subst e';obtain⟨NJ,r,pl,hz⟩:=I.tuple hx;have hlen:=r.length;exact truthy_tuple pl (by simp only[Ig];omega) ⟨H,I.tok _,by rw[kZ r];exact q⟩
   ·subst e';obtain⟨hz,hS,vs,r,m⟩:kvs.length<=Ke/\(p==Kv)=false/\∃vs,KV kvs vs/\s.heap.DictOf (bH X.prog X.w) p vs:=I.NN p _ hx;have hlen:kvs.length=vs.length:=Paired.length r;exact wpAny_truthy_dict hS m (by omega) ⟨H,I.tok _,by rw[tG r];exact q⟩
 | _=>exact(show False from e).elim
theorem qh (ha:PE X a ta)(he:∀whole,K4 a X.env whole=(do let v ← whole;Ls a.pos;K2 [v] (truthy v))):
 PT X a (λσ H Q=>ta σ H λx H'=>∃k,AH X.K x H' k/\Q k H'):=by
 intro NI s σ H Q I h;exact isTrue_plain (aJ (ha NI s σ H _ I h) λv s1 ⟨x,H1,I1,r1,q1⟩=>Cq NI s1 σ H1 x v Q I1 r1 q1) (he _)
theorem sZ:cP X (KO .Add) (λx y H Q=>∃i j,x= .str i/\y= .str j/\i.length+j.length<=Ke/\Q (.str (i++j)) H):=by
 intro NI s σ H x y v u Q I rx ry h;obtain⟨i,j,rfl,rfl,hz,q⟩:=h;obtain⟨t,rfl⟩:=rx;obtain⟨t',rfl⟩:=ry;exact add_str (λt' tk=>⟨.str (i++j),H,I.tok _,⟨_,rfl⟩,q⟩) hz
theorem vals1 {x:V}(r:Vals [x] us):∃u,us=[u]/\RelV x u:=by
 cases r with
 | cons r1 r2=>cases r2;exact⟨_,rfl,r1⟩
theorem vals2 {x y:V}(r:Vals [x,y] us):∃u w',us=[u,w']/\RelV x u/\RelV y w':=by
 cases r with
 | cons r1 r2=>
   cases r2 with
   | cons r3 r4=>cases r4;exact⟨_,_,rfl,r1,r3⟩
theorem wq (hc:X.calm=true):dD X (.builtin "min") (λxs H Q=>∃i j,xs=[.int i,.int j]/\Q (.int (if j<i then j else i)) H):=by
 intro NI s σ H xs us Q I r h;obtain⟨i,j,rfl,q⟩:=h;obtain⟨u,w',rfl,⟨t,rfl⟩,⟨t',rfl⟩⟩:=vals2 r;refine min_two_ints (I.ok.hd hc) λh' tk k=>⟨_,H,I.kept k,?_,q⟩;by_cases hj:j<i
 ·rw[ND hj,ND hj];exact⟨_,rfl⟩
 ·rw[Nz hj,Nz hj];exact⟨_,rfl⟩
theorem uq:dD X (.type "int") (λxs H Q=>(∃i,xs=[.int i]/\Q (.int i) H)∨∃k,xs=[.bl k]/\Q (.int (if k then 1 else 0)) H):=by
 intro NI s σ H xs us Q I r h;rcases h with⟨i,rfl,q⟩ | ⟨k,rfl,q⟩
 ·obtain⟨u,rfl,t,rfl⟩:=vals1 r;exact call_int_int ⟨.int i,H,I,⟨_,rfl⟩,q⟩
 ·obtain⟨u,rfl,r1⟩:=vals1 r;cases r1
  exact call_int_bool ⟨.int (if k then 1 else 0),H,I.tok _,⟨_,rfl⟩,q⟩
end
structure mL (h:Heap)(x dx C:Addr)(mA:Hq):Prop where
 obj:h.get? x=some (M7 C dx)
 ns:h.Ns1 dx mA
 ne:dx≠x
variable {dx:Addr}{mA:Hq}
theorem oi (n:h.Ns1 dx mA):∃od,h.get? dx=some od/\∀name,Nn name od=some (mA name):=by
 obtain⟨o,es,ep,ho,hd,hk,_,hm⟩:=n;refine⟨o,ho,λname=>?_⟩;have e:=hm name;unfold nsFind findBy at e;rw[← Array.find?_toList] at e;unfold Nn;rw[hd];dsimp only;split
 ·rename_i y q;rw[q] at e;exact congrArg some e
 ·rename_i q;rw[q] at e;have a:es.toList.any (·.refKey)=false:=by
   rw[List.any_eq_false];intro y hy;obtain⟨z,t,OY⟩:=hk y (Array.mem_toList_iff.mp hy);simp[DictEntry.refKey,OY]
  have a':¬es.toList.any (·.refKey)=true:=by rw[a];exact HE
  rw[Nz a'];exact congrArg some e
variable {C:Addr}
theorem mL.look {x:Addr}(I:mL h x dx C mA):∃od,PySem.W.InstAt h x (M7 C dx) C (some od)/\∀name,Nn name od=some (mA name):=
 let ⟨od,ho,hl⟩:=oi I.ns
 ⟨od,⟨I.obj,rfl,rfl,ho⟩,hl⟩
variable {prog:Kh}{name:Str}{kw:List (Str×Value)}
section
variable {x f:Addr}{v:Value}
theorem get_map {expr:Bool}(X:K.In s.heap)(I:mL s.heap x dx C mA)(hg:Na K C name=true)(hh:M9 K C=true)(ha:MQ K (.ref C) name=some none)(hv:mA name=some v)(PH:PySem.W.handedIn v=true)(h:Q v {s with toks:=s.toks+1}):
 wpAny (model prog w) A (getAttr (.ref x) name expr) Q E s:=by
 obtain⟨od,J,hl⟩:=I.look;exact PySem.W.get_value X J (PySem.W.plainGet_of hg).1 (PySem.W.findObj_own hh ha rfl (by rw[hl,hv])) PH h
theorem z6 {ns:Ht}{Q:Unit->Kc->Prop}(X:K.In s.heap)(I:mL s.heap x dx C mA)(hs:MQ K (.ref C) "__setattr__"=some (some (.builtin "object.__setattr__")))(hp:Nf K C=true)(ht:Nl K C name=some none)(hh:M9 K C=true)(hw:LY mA ns)(hsz:ns.length<=Ke)(h:∀h',mL h' x dx C (λy=>if y=name then some v else mA y)->Ms dx s.heap h'->Q () {s with heap:=h',toks:=s.toks+2}):
 wpAny (model prog w) A (setAttr (.ref x) name v) Q E s:=by
 obtain⟨od,J,hl⟩:=I.look;refine PySem.W.set_plain X J hs (PySem.W.osa_open (s:={s with toks:=s.toks+1}) (r:=none) X J hp ht λb=>?_);obtain⟨cd,hc,Q2⟩:=PySem.W.any_some hh;have hx:s.heap.get? x=some ⟨.ref C,some dx,.plain, #[]⟩:=I.obj;refine Kb (Kg (Kb (Kb (LJ hx (Kb (PySem.W.Looks.here (s:={s with toks:=s.toks+1}) (PySem.W.looks_clsIn X hc) ?_))))));rw[Q2];refine Kg (a:=some dx) (Kb (Kg (Kb ?_)));refine wpAny_nsSet1 (s:={s with toks:=s.toks+1}) I.ns λh' RZ OJ=>?_;obtain⟨oD,esD,epD,hoD,hdD,hcD⟩:=RZ.count (LY.cons name v hw);refine Kb (wpAny_lookBehind hoD (by rw[hdD];exact pastItsLine_dict (JJ hcD (by rw[Iy];omega))) ?_);exact Kg (h _ ⟨(OJ.2 _ (JX I.ne)).trans I.obj,RZ,I.ne⟩ OJ)
theorem wH {R:Result->Kc->Prop}{vs:Hw}(X:K.In s.heap)(hm:Ng K C=true)(hi:MQ K (.ref C) "__init__"=some (some (.ref f)))(hf:PySem.W.typeIn K (.ref f)=some (.type "function"))(h:Ll (model prog w) (A.under (.builtin "type.__call__" ⟨.ref C::vs,kw⟩)) (.call (.ref f) ⟨.ref (s.heap.objs.size+1)::vs,kw⟩) (PySem.W.InitBack (s.heap.objs.size+1) R)
  {s with heap:=(s.heap.push M0).push (M7 C s.heap.objs.size)}):
 Ll (model prog w) A (.call (.ref C) ⟨vs,kw⟩) R s:=by
 obtain⟨hh,g,d,t,os⟩:=s;exact PySem.W.make_core (PySem.W.makes_of X hm) (PySem.W.looks_findIn X hi) (λself=>PySem.W.bind_fn X self hf) (.inl rfl) h
end
def dG (f:Str)(v:V):List (Str×V)->List (Str×V)
 | []=>[(f,v)]
 | (g,x)::r=>if g=f then(g,v)::r else(g,x)::dG f v r
theorem kq (f g:Str)(v:V):∀fs:List (Str×V),(dG f v fs).lookup g=if g=f then some v else fs.lookup g
 | []=>by
   show IP g [(f,v)]=_;by_cases h:g=f
   ·have hb:(g==f)=true:=beq_iff_eq.mpr h;simp only[IP,hb,ND h]
   ·have hb:(g==f)=false:=beq_eq_false_iff_ne.mpr h;simp only[IP,hb,Nz h]
 | (k,x)::r=>by
   have ih:=kq f g v r;rw[show dG f v ((k,x)::r)=(if k=f then(k,v)::r else(k,x)::dG f v r) from rfl];by_cases hk:k=f
   ·rw[ND hk];by_cases h:g=k
    ·have hb:(g==k)=true:=beq_iff_eq.mpr h;simp only[IP,hb,ND (h.trans hk)]
    ·have hb:(g==k)=false:=beq_eq_false_iff_ne.mpr h;simp only[IP,hb,Nz (λe:g=f=>h (e.trans hk.symm))]
   ·rw[Nz hk];by_cases h:g=k
    ·have hb:(g==k)=true:=beq_iff_eq.mpr h;simp only[IP,hb,Nz (λe:g=f=>hk (h.symm.trans e))]
    ·have hb:(g==k)=false:=beq_eq_false_iff_ne.mpr h;simp only[IP,hb];exact ih
theorem jz (f:Str)(v:V):∀fs:List (Str×V),f∈(dG f v fs).map (·.1)/\∀g,g∈fs.map (·.1)->g∈(dG f v fs).map (·.1)
 | []=>⟨by simp[dG],λg h=>by simp at h⟩
 | (k,x)::r=>by
   obtain⟨i1,i2⟩:=jz f v r;rw[show dG f v ((k,x)::r)=(if k=f then(k,v)::r else(k,x)::dG f v r) from rfl];by_cases hk:k=f
   ·rw[ND hk];subst hk;exact⟨by simp,λg h=>by simpa using h⟩
   ·rw[Nz hk];refine⟨?_,λg h=>?_⟩
    ·rw[Iu];exact Ia _ i1
    ·rw[Iu] at h ⊢;rcases Ih.mp h with e | e
     ·exact Ih.mpr (.inl e)
     ·exact Ia _ (i2 g e)
theorem kA (f:Str)(v:V):∀fs:List (Str×V),(dG f v fs).length<=fs.length+1
 | []=>by simp[dG]
 | (k,x)::r=>by
   have ih:=kA f v r;rw[show dG f v ((k,x)::r)=(if k=f then(k,v)::r else(k,x)::dG f v r) from rfl];by_cases hk:k=f
   ·rw[ND hk,Iy,Iy];omega
   ·rw[Nz hk,Iy,Iy];omega
theorem eP.some_of {o:Hu}(r:eP (some v) o):∃u,o=some u/\RelV v u:=by
 cases o with
 | none=>exact(show False from r).elim
 | some u=>exact⟨u,rfl,r⟩
theorem nZ (r:RelV v u):PySem.W.handedIn u=true:=by
 cases v with
 | NS=>cases (show u=MH from r);rfl
 | bl b=>cases (show u=ML b from r);rfl
 | int i=>obtain⟨t,e⟩:=(show∃t,u=MI i t from r);cases e;rfl
 | str x=>obtain⟨t,e⟩:=(show∃t,u=MJ x t from r);cases e;rfl
 | Pr b=>obtain⟨t,e⟩:=(show∃t,u=Value.bytes b t from r);cases e;rfl
 | Q5 b=>obtain⟨t,e⟩:=(show∃t,u=MM b t from r);cases e;rfl
 | ref a=>cases (show u=MF a from r);rfl
 | ty n=>cases (show u=MN n from r);rfl
section
variable {fs fs':List (Str×V)}
theorem mF (NN:bT P w H h)(e:H a=some (.ins C dx fs)):∃mA,mL h a dx C mA/\(∀f,eP (fs.lookup f) (mA f))/\LY mA (fs.map (·.1))/\fs.length<=1000/\H dx=some (.own a):=by
 obtain⟨d,z,ne,ob,mA,n,r,q⟩:=(show bK P w H h a (.ins C dx fs) from NN a _ e);exact⟨mA,⟨ob,n,ne⟩,r,q,z,d⟩
end
structure n6 (K:MO)(C:Addr):Prop where
 pg:Na K C Str.empty=true
 hd:M9 K C=true
 po:Nf K C=true
 sa:MQ K (.ref C) "__setattr__"=some (some (.builtin "object.__setattr__"))
theorem n6.get (c:n6 K C)(f:Str):Na K C f=true:=c.pg
def hW (K:MO)(C:Addr)(f:Str):Prop:=MQ K (.ref C) f=some none
variable {f:Str}
theorem hW.Em (n:hW K C f):Nl K C f=some none:=by
 unfold Nl;rw[show MQ K (.ref C) f=some none from n];rfl
section
variable {fs:List (Str×V)}
theorem tI {b:Bool}(I:Inv X NI σ H s)(e:H a=some (.ins C dx fs))(c:n6 X.K C)(n:hW X.K C f)(l:fs.lookup f=some v)(h:∀u s',Inv X NI σ H s'->RelV v u->Q u s'):wpAny (model X.prog X.w) A (getAttr (.ref a) f b) Q E s:=by
 obtain⟨mA,O,r,_,_,_⟩:=mF I.NN e;obtain⟨u,hu,ru⟩:=eP.some_of (v:=v) (o:=mA f) (by rw[← l];exact r f);exact get_map I.cO O (c.get f) c.hd n hu (nZ ru) (h u _ (I.tok _) ru)
theorem sF {y:V}{Q:Unit->Kc->Prop}(I:Inv X NI σ H s)(e:H a=some (.ins C dx fs))(c:n6 X.K C)(n:hW X.K C f)(hl:fs.length<1000)(ry:RelV y u)(h:∀s',Inv X NI σ (upd H a (.ins C dx (dG f y fs))) s'->Q () s'):wpAny (model X.prog X.w) A (setAttr (.ref a) f u) Q E s:=by
 obtain⟨mA,O,r,wi,_,ho⟩:=mF I.NN e;have hz:(fs.map (·.1)).length<=Ke:=by rw[HU,Lc];omega
 refine z6 I.cO O c.sa c.po n.Em c.hd wi hz λh' O' sb=>h _ ?_;have hd:∃o,h'.get? dx=some o:=let ⟨o,_,_,e',_⟩:=O'.ns;⟨o,e'⟩;refine I.write (x:=a) (e:=dx) (by rw[e];exact Nx) (.inr ho) (λb q hb z=>(sb.2 b hb).trans z) hd ?_;refine⟨by rw[aB O.ne];exact ho,?_,O.ne,O'.obj,_,O'.ns,λg=>?_,λg hg=>?_⟩
 ·have:=kA f y fs;omega
 ·show eP ((dG f y fs).lookup g) (if g=f then some u else mA g);rw[kq];by_cases q:g=f
  ·rw[ND q,ND q];exact ry
  ·rw[Nz q,Nz q];exact r g
 ·by_cases q:g=f
  ·rw[q];exact(jz f y fs).1
  ·refine(jz f y fs).2 g (wi g λz=>hg ?_);show(if g=f then some u else mA g)=none;rw[Nz q];exact z
theorem Inv.made (I:Inv X NI σ H s):Inv X NI σ (upd (upd H s.heap.objs.size (.own (s.heap.objs.size+1))) (s.heap.objs.size+1) (.ins C s.heap.objs.size []))
 {s with heap:=(s.heap.push M0).push (M7 C s.heap.objs.size)}:=by
 have e1:(s.heap.push M0).get? s.heap.objs.size=some M0:=Mp s.heap rfl;have e2:((s.heap.push M0).push (M7 C s.heap.objs.size)).get? (s.heap.objs.size+1)=some (M7 C s.heap.objs.size):=by
  have:=Mp (s.heap.push M0) (o:=M7 C s.heap.objs.size) rfl;rwa [Mq] at this
 have e3:(s.heap.push M0).Ns s.heap.objs.size (λ_=>none):=⟨M0, #[],_,e1,rfl,(λe he=>Ny he (by simp)),λ_=>rfl⟩;have I1:=I.laid (a:=s.heap.objs.size) (o:=.own (s.heap.objs.size+1)) (h':=s.heap.push M0) (t':=s.toks) (λb u q=>Mn _ q) (JI _) ⟨_,e1⟩;refine I1.laid (a:=s.heap.objs.size+1) (o:=.ins C s.heap.objs.size []) (t':=s.toks) (λb u q=>Mn _ q) (Nat.le_of_eq (Mq _ _)) ?_;have ne:s.heap.objs.size≠s.heap.objs.size+1:=JL (JQ _);refine⟨by rw[aB ne,aD],JM _,ne,e2,λ_=>none,(Heap.Ns1.of_empty e3).at λo q=>Mn _ q,λ_=>Nx,λy hy=>Ny rfl hy⟩
theorem rT {env:Env}(hb:Kk e f env (eval e env)=eval e env)(h:wpAny (model prog w) A (eval e env) (λo s₁=>wpAny (model prog w) A (getAttr o f true) Q E s₁) E s):wpAny (model prog w) A (eval (.Attribute e f pos) env) Q E s:=
 Attribute_any_ h (by rw[arm_eval_Attribute,hb])
end
def Hd (K:MO)(ta:TE)(f:Str):TE:=λσ H Q=>ta σ H λx H1=>∃a C dx fs v,x= .ref a/\H1 a=some (.ins C dx fs)/\n6 K C/\hW K C f/\fs.lookup f=some v/\Q v H1
def G8 (K:MO)(ta tv:TE)(f:Str):TS:=λD σ H=>tv σ H λy H1=>ta σ H1 λx H2=>∃a C dx fs,x= .ref a/\H2 a=some (.ins C dx fs)/\n6 K C/\hW K C f/\fs.length<1000/\
 D.nx σ (upd H2 a (.ins C dx (dG f y fs)))
section
variable {o value:Expr}{tpos:Pos}{tv:TE}
theorem qA (he:PE X e ta)(hb:Kk e f X.env (eval e X.env)=eval e X.env):PE X (.Attribute e f pos) (Hd X.K ta f):=by
 intro NI s σ H Q I h;refine rT hb (aJ (he NI s σ H _ I h) λu s1 ⟨x,H1,I1,rx,a,C,dx,fs,v,ex,ea,c,n,l,q⟩=>?_);subst ex;obtain rfl:u=MF a:=rx;exact tI I1 ea c n l λu' s2 I2 ru=>⟨v,H1,I2,ru,q⟩
theorem v8 (ha:PE X o ta)(hv:PE X value tv)(hs:Km value (some (.Attribute o f pos')) pos.line X.env=pure false):PS X (.Assign [.Attribute o f pos'] value pos) (G8 X.K ta tv f):=by
 intro NI s σ H D I h;refine plainObj_wpAny_Assign_Attribute (aJ (hv NI s σ H _ I h) λu s1 ⟨y,H1,I1,ry,q⟩=>aJ (ha NI s1 σ H1 _ I1 q) λov s2 ⟨x,H2,I2,rx,a,C,dx,fs,ex,ea,c,n,l,q2⟩=>?_) hs;subst ex;obtain rfl:ov=MF a:=rx;exact sF I2 ea c n l ry λs3 I3=>⟨σ,_,I3,q2⟩
end
section
variable {c:Value}{b:Bool}
inductive eC (K:MO) (H:Hp):V->Value->Prop where
 | NS:eC K H .NS (.type "NoneType")
 | bl (x:Bool):eC K H (.bl x) (.type "bool")
 | int (i:Int):eC K H (.int i) (.type "int")
 | str (x:Str):eC K H (.str x) (.type "str")
 | Q5 (x:UInt64):eC K H (.Q5 x) (.type "float")
 | lst {a:Addr} {xs:List V} (e:H a=some (.lst xs)):eC K H (.ref a) (.type "list")
 | OG {a:Addr} {o:Obj} {xs:List V} (e:H a=some (.OG o (.lst xs))):eC K H (.ref a) (.type "list")
 | tup {a:Addr} {xs:List V} (e:H a=some (.tup xs)):eC K H (.ref a) (.type "tuple")
 | dK {a:Addr} {kvs:List (Key×V)} (e:H a=some (.dK kvs)):eC K H (.ref a) (.type "dict")
 | dT {a:Addr} {kvs:List (List Key×V)} (e:H a=some (.dT kvs)):eC K H (.ref a) (.type "dict")
 | ins {a C dx:Addr} {fs:List (Str×V)} (e:H a=some (.ins C dx fs)) (cl:n6 K C) (ha:MQ K (.ref C) "__class__"=some (some (.builtin "object.__class__")))
  (hn:PySem.W.specialIn K (.builtin "object.__class__") "__get__"=some (some (.builtin "getset_descriptor.__get__"))) (RN:PySem.W.takesIn K (.builtin "object.__class__")=some true)
  (hm:PySem.W.mroIn K C (.type "object")=some true):eC K H (.ref a) (.ref C)
theorem vX {x:V}{t:Value}(I:Inv X NI σ H s)(rx:RelV x u)(ty:eC X.K H x t)(e:M4 X.K t c=some b)(h:∀tk,Q (.bool b) {s with toks:=tk}):
 wpAny (model X.prog X.w) A (call (.builtin "isinstance") [u,c]) Q E s:=by
 cases ty with
 | NS=>cases (show u=MH from rx);exact MY PySem.W.kitx_none I.cO Nx e (λz=>nomatch z) h
 | bl y=>cases (show u=ML y from rx);exact MY PySem.W.kitx_bool I.cO Nx e (λz=>nomatch z) h
 | int i=>obtain⟨t,q⟩:=(show∃t,u=MI i t from rx);cases q;exact MY PySem.W.kitx_int I.cO Nx e (λz=>nomatch z) h
 | str y=>obtain⟨t,q⟩:=(show∃t,u=MJ y t from rx);cases q;exact MY PySem.W.kitx_str I.cO Nx e (λz=>nomatch z) h
 | Q5 y=>obtain⟨t,q⟩:=(show∃t,u=MM y t from rx);cases q;exact MY PySem.W.kitx_float I.cO Nx e (λz=>nomatch z) h
 | @lst a xs ea=>
   cases (show u=MF a from rx)
   obtain⟨_,_,n,_,h1⟩:=(show bK X.prog X.w H s.heap a (.lst xs) from I.NN a _ ea);exact MY PySem.W.kitx_list I.cO ⟨_,h1,rfl⟩ e (λz=>nomatch z) h
 | @OG a ob xs ea=>
   cases (show u=MF a from rx)
   obtain⟨_,_,_,n,_,h1⟩:=(show bK X.prog X.w H s.heap a (.OG ob (.lst xs)) from I.NN a _ ea);exact MY PySem.W.kitx_list I.cO ⟨_,h1,rfl⟩ e (λz=>nomatch z) h
 | @tup a xs ea=>
   cases (show u=MF a from rx)
   obtain⟨_,_,_,p⟩:=(show bK X.prog X.w H s.heap a (.tup xs) from I.NN a _ ea);obtain⟨o,h1,h2,_⟩:=p;exact MY PySem.W.kitx_tuple I.cO ⟨o,h1,h2⟩ e (λz=>nomatch z) h
 | @dK a kvs ea=>
   cases (show u=MF a from rx)
   obtain⟨_,_,vs,_,p⟩:=(show bK X.prog X.w H s.heap a (.dK kvs) from I.NN a _ ea);obtain⟨o,es,ep,h1,h2,_⟩:=p;exact MY PySem.W.kitx_dict I.cO ⟨o,h1,h2.1⟩ e (λz=>nomatch z) h
 | @dT a kvs ea=>
   cases (show u=MF a from rx)
   obtain⟨_,_,xs,_,o,es,ep,h1,h2,_⟩:=(show bK X.prog X.w H s.heap a (.dT kvs) from I.NN a _ ea);exact MY PySem.W.kitx_dict I.cO ⟨o,h1,h2.1⟩ e (λz=>nomatch z) h
 | @ins a C dx fs ea cl ha hn RN hm=>
   cases (show u=MF a from rx)
   obtain⟨mA,O,_⟩:=mF I.NN ea;obtain⟨od,J,_⟩:=O.look;exact MY (PySem.W.kitx_own (cl.get _) cl.hd ha hn RN hm) I.cO J e (λz=>nomatch z) h
end
structure bz (k:Nat)(A:Kj):Prop where
 hd:A.handled=none
 dp:A.depth+3*k+5<recursionLimit
 un:A.units+16*k+200<cLine
theorem bz.mono {j k:Nat}(r:bz k A)(h:j<=k):bz j A:=⟨r.hd,by have:=r.dp;omega,by have:=r.un;omega⟩
theorem bz.deeper {k:Nat}(r:bz (k+1) A)(env:Env):bz k (A.deeper env):=
 ⟨r.hd,by have:=r.dp;show A.depth+1+3*k+5<_;omega,by have:=r.un;show A.units+3+16*k+200<_;omega⟩
theorem tL :(A.under (.builtin "type.__call__" ⟨.ref C::us,kw⟩)).depth=A.depth+1:=by
 first | rfl | simp[Kj.under,Code.weight,Code.isCreation,Code.isGuard,Code.isCaller,Code.frames,Me,guardIds]
theorem tY :(A.under (.builtin "type.__call__" ⟨.ref C::us,kw⟩)).units=A.units+1:=by
 first | rfl | simp[Kj.under,Code.cUnits,Code.frames,Me]
theorem bz.make {k:Nat}(r:bz (k+1) A)(C:Addr)(us:Hw)(kw:List (Str×Value)):bz k (A.under (.builtin "type.__call__" ⟨.ref C::us,kw⟩)):=
 ⟨r.hd,by have:=r.dp;rw[tL];omega,by have:=r.un;rw[tY];omega⟩
theorem bz.depth {k:Nat}(r:bz k A):A.depth<recursionLimit:=by have:=r.dp;omega
theorem bz.units {k:Nat}(r:bz k A):A.units+64<cLine:=by have:=r.un;omega
def GY:TA:=λ_ H Q=>Q [] H
def DT (ta:TE)(tr:TA):TA:=λσ H Q=>ta σ H λx H1=>tr σ H1 λxs H2=>Q (x::xs) H2
variable {t:TA}
theorem bG:PA X [] GY:=λ_ _ _ _ H Q I h=>Calls.spliced_nil ⟨[],H,I,.nil,h⟩
theorem aZ (ha:PE X e te)(hr:PA X es t)(hs:Kf (e::es) X.env=(false,eval e X.env)::Kf es X.env:=by rfl):PA X (e::es) (DT te t):=by
 intro pos NI s σ H Q I h;rw[hs];show wpAny _ _ (spliced ((false,eval e X.env)::Ko pos (Kf es X.env))) _ _ s;refine Mc (aJ (ha NI s σ H _ I h) λu s1 ⟨x,H1,I1,r1,q1⟩=>?_);exact aJ (hr pos NI s1 σ H1 _ I1 q1) λus s2 ⟨xs,H2,I2,r2,q2⟩=>⟨x::xs,H2,I2,.cons r1 r2,q2⟩
def He (t:TA):TE:=λσ H Q=>t σ H λxs H1=>xs.length<=Ke/\∀p,H1 p=none->Q (.ref p) (upd H1 p (.tup xs))
def Hb (t:TA):TE:=λσ H Q=>t σ H λxs H1=>xs.length<=Ke/\∀p,H1 p=none->Q (.ref p) (upd H1 p (.lst xs))
theorem vP {x1}(h:PA X es t):PE X (.Tuple es x1 pos) (He t):=by
 intro NI s σ H Q I hq;refine wpAny_Tuple_spliced (aJ (h pos NI s σ H _ I hq) λus s1 ⟨xs,H1,I1,r,z,q⟩=>⟨by rw[← r.length];exact z,?_⟩);have hf:H1 s1.heap.objs.size=none:=I1.NN.fresh (JI _);refine⟨.ref s1.heap.objs.size,upd H1 s1.heap.objs.size (.tup xs),I1.laid (t':=s1.toks) (λb u e=>Mn _ e) (JI _) ?_,rfl,q _ hf⟩;exact⟨z,us,r,⟨_,Mp _ rfl,rfl,_,rfl⟩⟩
theorem BL (h:PA X es t):PE X (.List es pos) (Hb t):=by
 intro NI s σ H Q I hq;refine wpAny_List_spliced (aJ (h pos NI s σ H _ I hq) λus s1 ⟨xs,H1,I1,r,z,q⟩=>⟨by rw[← r.length];exact z,?_⟩);have hf:H1 s1.heap.objs.size=none:=I1.NN.fresh (JI _);refine⟨.ref s1.heap.objs.size,upd H1 s1.heap.objs.size (.lst xs),I1.laid (t':=s1.toks) (λb u e=>Mn _ e) (JI _) ?_,rfl,q _ hf⟩;exact⟨z,us,0,r,Mp _ rfl⟩
abbrev Sp:=List V->Hp->VK->XK->Prop
abbrev h7:=List Env->Hp->Kc->XK->Value->Kc->Prop
structure kO (P:Kh)(w:World)(K:MO)(mg:Hq)(base:Heap)(A:Kj)(outer:List Env)(s:Kc)(H:Hp):Prop where
 frames:A.frames=some outer
 mod:Mod K mg base
 bs:∀b o,base.get? b=some o->s.heap.get? b=some o/\H b=none
 PD:base.objs.size<=s.heap.objs.size
 Oc:s.heap.FunFrames base outer
 P2:∀b∈bA outer,H b=none
 NN:bT P w H s.heap
 bare:J7 s.gens
def CE (outer:List Env)(P:Kh)(w:World)(H:Hp)(s:Kc)(Q:VK)(u:Value)(s':Kc):Prop:=
 ∃v H',s'.os=s.os/\J7 s'.gens/\Un (bA outer) [] H H' s.heap s'.heap/\bT P w H' s'.heap/\RelV v u/\Q v H'
def CR (CX:h7)(outer:List Env)(P:Kh)(w:World)(H:Hp)(s:Kc)(Q:VK)(E:XK)(r:Result)(s':Kc):Prop:=
 match r with
 | .ok (.ret u)=>CE outer P w H s Q u s'
 | .ok _=>False
 | .error e=>CX outer H s E e s'
structure ck (P:Kh)(w:World)(K:MO)(mg:Hq)(base:Heap)(CX:h7)(k:Nat)(f:Addr)(fd:Kn)(ps:Ht)(sp:Sp):Prop where
 len:∀vs H Q E,sp vs H Q E->vs.length=ps.length
 run:∀(A:Kj)(outer:List Env)(s:Kc)(H:Hp)(args:Args)(us:Hw)(vs:List V)(Q:VK)(E:XK),bz k A->kO P w K mg base A outer s H->LL s fd args (ps.zip us)->Vals vs us->sp vs H Q E->
  Ll (model P w) A (.call (.ref f) args) (CR CX outer P w H s Q E) s
theorem ck.mono {P:Kh}{w:World}{K:MO}{mg:Hq}{base:Heap}{CX:h7}{j k:Nat}{f:Addr}{fd:Kn}{ps:Ht}{sp:Sp}(F:ck P w K mg base CX j f fd ps sp)(h:j<=k):
 ck P w K mg base CX k f fd ps sp:=⟨F.len,λA outer s H args us vs Q E hr=>F.run A outer s H args us vs Q E (hr.mono h)⟩
variable {mg:Hq}{base:Heap}{outer:List Env}
theorem kO.make (e:kO P w K mg base A outer s H)(C:Addr)(us:Hw)(kw:List (Str×Value)):
 kO P w K mg base (A.under (.builtin "type.__call__" ⟨.ref C::us,kw⟩)) outer s H:=⟨by first | exact e.frames | (simpa[Kj.under,Code.envs,Me,pushEnvs] using e.frames),e.mod,e.bs,e.PD,e.Oc,e.P2,e.NN,e.bare⟩
theorem Inv.tW (I:Inv X NI σ H s):kO X.prog X.w X.K X.mg X.base X.A X.stack s H:=
 ⟨I.ok.frames,I.ok.mod,I.bs,JJ I.ok.PD I.sz,I.stack,I.gJ,I.NN,I.bare⟩
theorem Inv.after {Q:VK}(I:Inv X NI σ H s)(h:CE X.stack X.prog X.w H s Q u s'):EP X NI σ Q u s':=by
 obtain⟨v,H',os,bare,un,NN,r,q⟩:=h;obtain⟨hh,g,d,t,os'⟩:=s';obtain rfl:os'=s.os:=os;exact⟨v,H',I.call (h':=hh) (g':=g) (d':=d) (t':=t) (ch:=[]) un NN bare (λb z=>Ny z (by simp)),r,q⟩
def DQ (sp:Sp)(Pg:List V)(E:XK)(t:TA):TE:=λσ H Q=>t σ H λvs H1=>sp (vs++Pg) H1 Q E
def EW (C:Addr)(sp:Sp)(Pg:List V)(E:XK)(t:TA):TE:=λσ H Q=>t σ H λvs H1=>∀x dx,H1 x=none->H1 dx=none->dx≠x->
 sp (.ref x::(vs++Pg)) (upd (upd H1 dx (.own x)) x (.ins C dx [])) (λv H2=>v= .NS/\Q (.ref x) H2) E
def Binds (K:MO)(fd:Kn)(ps:Ht)(ds:Hw):Prop:=
 ∀(s:Kc)(us:Hw),K.In s.heap->(us++ds).length=ps.length->LL s fd ⟨us,[]⟩ (ps.zip (us++ds))
variable {fd:Kn}{ps:Ht}
theorem Binds.all (h:∀us:Hw,us.length=ps.length->LP fd ⟨us,[]⟩=pure (ps.zip us)):Binds K fd ps []:=λs us _ hl=>by
 rw[Ip] at hl ⊢;exact .of_eq (h us hl)
def Passes (CX:h7)(X:Cx)(E:XK):Prop:=∀(NI:Hr)(σ:St)(H:Hp)(s:Kc)(e:Value)(s':Kc),Inv X NI σ H s->CX X.stack H s E e s'->X.xe e s'
variable {CX:h7}{sp:Sp}{vs:List V}
section
variable {k:Nat}{f:Addr}{Pg:List V}{ds:Hw}{E:XK}{m:Str}{p apos:Pos}{o:Expr}
theorem Du {Q:VK}(F:ck X.prog X.w X.K X.mg X.base CX k f fd ps sp)(hr:bz k X.A)(hb:Binds X.K fd ps ds)(hd:Vals Pg ds)(hx:Passes CX X E)(I:Inv X NI σ H s)(r:Vals vs us)(h:sp (vs++Pg) H Q E):wpAny (model X.prog X.w) X.A (call (.ref f) us) (EP X NI σ Q) X.xe s:=by
 have r2:Vals (vs++Pg) (us++ds):=r.append hd;have hl:(us++ds).length=ps.length:=by rw[← r2.length];exact F.len _ _ _ _ h
 refine K9 (K6 (F.run X.A X.stack s H ⟨us,[]⟩ (us++ds) (vs++Pg) Q E hr I.tW (hb s us I.cO hl) r2 h) λr s' hq=>?_);cases r with
 | error e=>exact hx NI σ H s e s' I hq
 | ok fl=>
   cases fl with
   | ret u=>exact I.after hq
   | next=>exact HP hq
   | brk=>exact HP hq
   | cont=>exact HP hq
theorem zO (F:ck X.prog X.w X.K X.mg X.base CX k f fd ps sp)(hr:bz k X.A)(hg:Gl X x)(hm:X.mg x=some (.ref f))(hk:MT X.K (.ref f)=true)(hb:Binds X.K fd ps ds)(hd:Vals Pg ds)(hx:Passes CX X E)(ha:PA X (e::es) t)(Om:N3 x:=by decide)(he:Kf (e::es) X.env=(false,eval e X.env)::Kf es X.env:=by rfl)(N8:(Ko pos (Kf es X.env)).any (·.1)=false:=by rfl):
 PE X (.Call (.Name x p) (e::es) [] pos) (DQ sp Pg E t):=by
 intro NI s σ H Q I h;refine KI (gF I hg hm ?_ Om);refine Nc (h₀:=X.base) I.ok.mod.Q9 hk (aJ (ha pos NI s σ H _ I h) λus s1 ⟨vs,H1,I1,r,q⟩=>⟨I1.cO,?_⟩) he N8;exact Du F hr hb hd hx I1 r q
structure Mk (K:MO)(C f:Addr):Prop where
 makes:Ng K C=true
 init:MQ K (.ref C) "__init__"=some (some (.ref f))
 fn:Nh K (.ref f)=true
 kp:MT K (.ref C)=true
theorem wW {Q:VK}(M:Mk X.K C f)(F:ck X.prog X.w X.K X.mg X.base CX k f fd ps sp)(hr:bz (k+1) X.A)(hb:Binds X.K fd ps ds)(hd:Vals Pg ds)(hx:Passes CX X E)(I:Inv X NI σ H s)(r:Vals vs us)(h:∀x dx,H x=none->H dx=none->dx≠x->sp (.ref x::(vs++Pg)) (upd (upd H dx (.own x)) x (.ins C dx [])) (λv H2=>v= .NS/\Q (.ref x) H2) E):
 wpAny (model X.prog X.w) X.A (call (.ref C) us) (EP X NI σ Q) X.xe s:=by
 have hq:=h (s.heap.objs.size+1) s.heap.objs.size (I.NN.fresh (JR _)) (I.NN.fresh (JI _)) (JL (JQ _));have I2:=Inv.made (C:=C) I;have r2:Vals (V.ref (s.heap.objs.size+1)::(vs++Pg)) (MF (s.heap.objs.size+1)::(us++ds)):=.cons rfl (r.append hd);have hl:(MF (s.heap.objs.size+1)::us++ds).length=ps.length:=by
  have e:=r2.length;rw[F.len _ _ _ _ hq] at e;exact e.symm
 refine K9 (wH (f:=f) I.cO M.makes M.init (beq_iff_eq.mp M.fn) (K6 (F.run _ X.stack _ _ ⟨MF (s.heap.objs.size+1)::us,[]⟩ (MF (s.heap.objs.size+1)::(us++ds)) _ _ E (hr.make C us [])
  (I2.tW.make C us []) (hb _ (MF (s.heap.objs.size+1)::us) I2.cO hl) r2 hq) λr s' Pe=>?_))
 cases r with
 | error e=>exact hx NI σ _ _ e s' I2 Pe
 | ok fl=>
   cases fl with
   | ret u=>
     obtain⟨v,H',I3,rv,ev,q3⟩:=I2.after Pe;subst ev;exact⟨rv,⟨V.ref (s.heap.objs.size+1),H',I3,rfl,q3⟩⟩
   | next=>exact HP Pe
   | brk=>exact HP Pe
   | cont=>exact HP Pe
theorem sr (M:Mk X.K C f)(F:ck X.prog X.w X.K X.mg X.base CX k f fd ps sp)(hr:bz (k+1) X.A)(hg:Gl X x)(hm:X.mg x=some (.ref C))(hb:Binds X.K fd ps ds)(hd:Vals Pg ds)(hx:Passes CX X E)(ha:PA X (e::es) t)(Om:N3 x:=by decide)(he:Kf (e::es) X.env=(false,eval e X.env)::Kf es X.env:=by rfl)(N8:(Ko pos (Kf es X.env)).any (·.1)=false:=by rfl):
 PE X (.Call (.Name x p) (e::es) [] pos) (EW C sp Pg E t):=by
 intro NI s σ H Q I h;refine KI (gF I hg hm ?_ Om);refine Nc (h₀:=X.base) I.ok.mod.Q9 M.kp (aJ (ha pos NI s σ H _ I h) λus s1 ⟨vs,H1,I1,r,q⟩=>⟨I1.cO,?_⟩) he N8;exact wW M F hr hb hd hx I1 r q
end
section
variable {k:Nat}{f:Addr}{ks:Ht}{E:XK}{m:Str}{p apos kpos:Pos}{o:Expr}{kws:List Kx}{tk:TA}{nm:Option Str}
variable {g:Hw->Hw->Hw}{gV:List V->List V->List V}
end
structure bq (N P:Ht)(sc:Scope):Prop where
 kind:sc.kind= .function
 co:sc.isCoroutine=false
 gen:sc.isGenerator=false
 nd:N.Nodup
 pre:N.take P.length=P
 par:∀x∈P,sc.names.lookup x=some .local∨sc.names.lookup x=some .cell
 QL:∀y∈sc.names,y.2≠ .free
variable {sc:Scope}
theorem OT{P:Ht}(a:sc.kind=.function:=by rfl)(b:sc.isCoroutine=false:=by rfl)(c:sc.isGenerator=false:=by rfl)(d:N.Nodup:=by decide +kernel)(e:N.take P.length=P:=by rfl)(f:∀x∈P,sc.names.lookup x=some .local∨sc.names.lookup x=some .cell:=by decide +kernel)(g:∀y∈sc.names,y.2≠.free:=by decide +kernel):bq N P sc:=⟨a,b,c,d,e,f,g⟩
theorem nK {kindOf:Str->Option KZ}{x:Str}:∀{binds:List (Str×Value)}{m:Hq},(∀v,(x,v)∉binds)->bindL kindOf binds m x=m x
 | [],_,_=>rfl
 | (n,v)::r,m,h=>by
   unfold bindL;rw[nK λw hw=>h w (Ia _ hw)];split
   ·have:x≠n:=by rintro rfl;exact h v Ic
    simp[this]
   ·rfl
theorem nQ {kindOf:Str->Option KZ}{x:Str}:∀{binds:List (Str×Value)}{m:Hq},(∀v,(x,v)∉binds)->bindC kindOf binds m x=m x
 | [],_,_=>rfl
 | (n,v)::r,m,h=>by
   unfold bindC;rw[nQ λw hw=>h w (Ia _ hw)];split
   ·rfl
   ·have:x≠n:=by rintro rfl;exact h v Ic
    simp[this]
theorem nI {kindOf:Str->Option KZ}{x:Str}{v:Value}:∀{P:Ht}{vs:Hw}{i:Nat}{m:Hq},P.Nodup->P[i]?=some x->vs[i]?=some v->kindOf x=some .local->
 bindL kindOf (P.zip vs) m x=some v
 | [],_,_,_,_,h,_,_=>by simp at h
 | _::_,[],_,_,_,_,h,_=>by simp at h
 | p::P,w::vs,0,m,nd,h1,h2,hk=>by
   simp at h1 h2;subst h1;subst h2;show bindL kindOf ((p,w)::P.zip vs) m p=_;unfold bindL;rw[nK λv hv=>(Jn.mp nd).1 (JD hv).1,ND hk];simp
 | p::P,w::vs,i+1,m,nd,h1,h2,hk=>by
   show bindL kindOf ((p,w)::P.zip vs) m x=_;unfold bindL;exact nI (i:=i) (Jn.mp nd).2 (by simpa using h1) (by simpa using h2) hk
theorem oq {kindOf:Str->Option KZ}{x:Str}{v:Value}:∀{P:Ht}{vs:Hw}{i:Nat}{m:Hq},P.Nodup->P[i]?=some x->vs[i]?=some v->kindOf x≠some .local->
 bindC kindOf (P.zip vs) m x=some v
 | [],_,_,_,_,h,_,_=>by simp at h
 | _::_,[],_,_,_,_,h,_=>by simp at h
 | p::P,w::vs,0,m,nd,h1,h2,hk=>by
   simp at h1 h2;subst h1;subst h2;show bindC kindOf ((p,w)::P.zip vs) m p=_;unfold bindC;rw[nQ λv hv=>(Jn.mp nd).1 (JD hv).1,Nz hk];simp
 | p::P,w::vs,i+1,m,nd,h1,h2,hk=>by
   show bindC kindOf ((p,w)::P.zip vs) m x=_;unfold bindC;exact oq (i:=i) (Jn.mp nd).2 (by simpa using h1) (by simpa using h2) hk
def start (N:Ht)(vs:List V):St:=vs.map some++HZ (N.length-vs.length) none
def aT (CX:h7)(P:Kh)(w:World)(K:MO)(mg:Hq)(base:Heap)(N:Ht)(qual:Str)(scope:Scope)(f:Addr)(cd:Value)(A:Kj)(outer:List Env)(s:Kc)(H:Hp)(E:XK):Cx where
 prog:=P
 w:=w
 K:=K
 mg:=mg
 base:=base
 A:=A.deeper (J4 qual scope s.heap.objs.size f cd)
 N:=N
 s₀:=s
 H₀:=H
 env:=J4 qual scope s.heap.objs.size f cd
 outer:=outer
 stack:=J4 qual scope s.heap.objs.size f cd::outer
 ex:=[]
 calm:=true
 fn:=λ_=>true
 pn:=[]
 xe:=λe s'=>wpAny (model P w) (A.deeper (J4 qual scope s.heap.objs.size f cd)) (leaving (J4 qual scope s.heap.objs.size f cd) e) (λ_ s''=>CX outer H s E e s'') (λe' s''=>CX outer H s E e' s'') s'
theorem bC (h:sc.names.lookup x=some .cell):∃c,(cellsFrom n sc.names []).lookup x=some c:=by
 have q:=PySem.W.cellsFrom_some sc.names n [] (.inl h);exact Option.isSome_iff_exists.mp q
variable {qual:Str}{scope:Scope}
theorem uM {f:Addr}{cd:Value}{s1:Kc}{E:XK}(S:bq N ps scope)(hd:A.handled=none)(e0:kO P w K mg base A outer s H)(hl:vs.length=ps.length)(r:Vals vs us)(x:InCallC s s.heap.objs.size (bindL (J4 qual scope s.heap.objs.size f cd).kindOf (ps.zip us) λ_=>none) (cellsFrom (s.heap.objs.size+1) scope.names []) (bindC (J4 qual scope s.heap.objs.size f cd).kindOf (ps.zip us) λ_=>none) s1):
 Inv (aT CX P w K mg base N qual scope f cd A outer s H E) [] (start N vs) H s1:=by
 have N8:ps.length<=N.length:=by have:=congrArg List.length S.pre;rw[Im] at this;omega
 obtain⟨h1,tk,rfl,hk⟩:=x.done;have RC:∀b:Addr,b∉(aT CX P w K mg base N qual scope f cd A outer s H E).ex:=λb z=>Ny (show b∈([]:Hv) from z) (by simp);refine⟨⟨e0.mod,S.kind,rfl,rfl,JI _,λy z c h1 h2=>?_,λy hy=>?_,λy c _ h=>?_,λ_=>hd,Kj.frames_deeper e0.frames,.inr ⟨rfl,rfl⟩,λb z=>Ny z (RC b),e0.bs,e0.PD,λb _ _=>RC b,λb z=>Ny z (RC b),e0.Oc,e0.P2⟩,
  rfl,e0.bare,Un.kept hk,⟨_,x.toInCall.ns,λi y v h1 h2 h3=>?_⟩,λy c h=>⟨_,x.cell y c h⟩,e0.NN.fresh (JI _),λy c h=>?_,λp hp=>Ny (show p∈([]:Hr) from hp) (by simp),e0.NN.kept hk,?_⟩
 ·exact name_of_addr x.apart (Kr h1) (Kr h2)
 ·have hy:scope.names.lookup y=some .cell∨scope.names.lookup y=some .free:=hy;rcases hy with hy | hy
  ·exact bC hy
  ·exact Ny rfl (S.QL _ (Kr hy))
 ·exact JT (x.above y c (Kr h))
 ·have hi:i<vs.length:=by
   unfold start at h2;by_cases hi:i<vs.length
   ·exact hi
   ·rw[IE (by simpa using hi)] at h2;rw[IW] at h2;split at h2<;>cases h2
  have ha:vs[i]?=some v:=by
   unfold start at h2;rw[IF (by simpa using hi),Ii] at h2;cases e:vs[i]? with
   | none=>rw[e] at h2;cases h2
   | some a=>rw[e] at h2;cases h2;rfl
  obtain⟨u,hu,rv⟩:=r.get ha;have hp:ps[i]?=some y:=by
   rw[← S.pre,List.getElem?_take_of_lt (by omega)];exact h1
  have ndP:ps.Nodup:=by rw[← S.pre];exact S.nd.sublist (List.take_sublist _ _)
  refine⟨u,rv,?_⟩;rcases S.par y (Iw hp) with k | k
  ·exact .inl ⟨k,nI ndP hp hu k⟩
  ·obtain⟨c,e⟩:=bC (n:=s.heap.objs.size+1) k;refine .inr ⟨.inl k,c,e,?_⟩;have q:=x.cell y c e;rw[oq ndP hp hu (by show scope.names.lookup y≠_;rw[k];decide)] at q;exact q
 ·exact e0.NN.fresh (JT (x.above y c (Kr h)))
 ·unfold start;show _=N.length;rw[HV,HU,Iz];omega
theorem oU {k:Nat}{f:Addr}{params:Arguments}{dV kV doc pm NK ct oc:Value}{an od:Option Addr}{OB:Array Hu}(lk:K.lookup f=some ⟨oc,od,.func (MW name qual params body scope dV kV doc pm an NK ct),OB⟩)(NV:M5 K NK qual=true)(S:bq N ps scope)(len:∀vs H Q E,sp vs H Q E->vs.length=ps.length)(N5:∀(A:Kj)(outer:List Env)(s:Kc)(H:Hp)(vs:List V)(Q:VK)(E:XK),bz k (A.deeper (J4 qual scope s.heap.objs.size f NK))->sp vs H Q E->
  ∃t,hJ (aT CX P w K mg base N qual scope f NK A outer s H E) body t/\t {nx:=λ_ H'=>Q .NS H',rt:=Q} (start N vs) H):
 ck P w K mg base CX (k+1) f (MW name qual params body scope dV kV doc pm an NK ct) ps sp:=by
 refine⟨len,λA outer s H args us vs Q E hr e0 hb r Pm=>?_⟩;have hl:=len _ _ _ _ Pm;have KX:K.In s.heap:=e0.mod.Q9.keeps λb o e=>(e0.bs b o e).1;have lim:s.heap.NoLimit:=e0.mod.nolimit.keeps λb o e=>(e0.bs b o e).1;have Sd:∀y∈ps.zip us,scope.names.lookup y.1=some .local∨(scope.names.lookup y.1=some .cell/\((cellsFrom (s.heap.objs.size+1) scope.names []).lookup y.1).isSome=true):=λ⟨n,v⟩ hy=>by
  rcases S.par n (JD hy).1 with q | q
  ·exact .inl q
  ·exact .inr ⟨q,PySem.W.cellsFrom_some _ _ _ (.inl q)⟩
 refine codeAny_call_function hr.depth (KX _ _ lk) rfl S.co S.gen rfl (PySem.W.codeRec_of KX NV) (hb _ _ _ _ ?_);refine wpAny_newFunctionEnv_cells S.kind Sd λenv he s1 x=>?_;subst he;refine⟨lim.keeps x.toInCall.keep,codeAny_func ?_⟩;obtain⟨t,ht,hq⟩:=N5 A outer s H vs Q E (hr.deeper _) Pm;have I:Inv (aT CX P w K mg base N qual scope f NK A outer s H E) [] (start N vs) H s1:=uM S hr.hd e0 hl r x;refine Kl (ht [] s1 (start N vs) H _ I hq) (λfl s' hs=>?_) λe s' hs=>hs;have fin:∀{σ':St}{H':Hp}{v:V}{u:Value},Inv (aT CX P w K mg base N qual scope f NK A outer s H E) [] σ' H' s'->RelV v u->Q v H'->CE outer P w H s Q u s':=
  λ{σ' H' v u} J rv q=>⟨v,H',J.os,J.bare,J.base,J.NN,rv,q⟩
 cases fl with
 | ret u=>
   obtain⟨v,σ',H',J,rv,q⟩:=hs;exact fin J rv q
 | next=>
   obtain⟨σ',H',J,q⟩:=hs;exact fin (v:=V.NS) (u:=MH) J rfl q
 | brk=>
   obtain⟨_,_,_,q⟩:=hs;exact HP q
 | cont=>
   obtain⟨_,_,_,q⟩:=hs;exact HP q
section
variable {p:Pos}{id T:String}{r:List V->Hp->VK->Prop}
def Fw (r:List V->Hp->VK->Prop)(t:TA):TE:=λσ H Q=>t σ H λvs H1=>r vs H1 Q
theorem c5 (hc:dD X (.builtin id) r)(hg:Gl X x)(hm:X.mg x=none)(hv:Kz x=some (.builtin id))(ha:PA X (e::es) t)(hn:x≠"__name__":=by decide)(Om:N3 x:=by decide)(he:Kf (e::es) X.env=(false,eval e X.env)::Kf es X.env:=by rfl)(N8:(Ko pos (Kf es X.env)).any (·.1)=false:=by rfl):PE X (.Call (.Name x p) (e::es) [] pos) (Fw r t):=by
 intro NI s σ H Q I h;refine KI (gc I hg hm hv ?_ hn Om);exact PyProof.Rows.callWith_builtin1 (aJ (ha pos NI s σ H _ I h) λus s1 ⟨vs,H1,I1,r1,q1⟩=>hc NI s1 σ H1 vs us Q I1 r1 q1) he N8
theorem js (hc:dD X (.type T) r)(hg:Gl X x)(hm:X.mg x=none)(hv:Kz x=some (.type T))(ha:PA X (e::es) t)(hn:x≠"__name__":=by decide)(Om:N3 x:=by decide)(he:Kf (e::es) X.env=(false,eval e X.env)::Kf es X.env:=by rfl)(N8:(Ko pos (Kf es X.env)).any (·.1)=false:=by rfl):PE X (.Call (.Name x p) (e::es) [] pos) (Fw r t):=by
 intro NI s σ H Q I h;refine KI (gc I hg hm hv ?_ hn Om);exact J6 (aJ (ha pos NI s σ H _ I h) λus s1 ⟨vs,H1,I1,r1,q1⟩=>hc NI s1 σ H1 vs us Q I1 r1 q1) he N8
end
end L2
namespace HT
open PySem PyProof.Rows
section
open PySem.SeqAt
open PySem.AutoSeq1 (wpAny_loadPart')
open PySem.MeetsSeq PySem.MeetsSeq2 PySem.MeetsSeq3
end
variable {sl:Addr}
section
variable {prog:Kh}{w:World}{A:Kj}{E:Value->Kc->Prop}{s:Kc}
def NQ (n d:Nat):Option Int->Nat
 | none=>d
 | some v=>if v<0 then(v+(n:Int)).toNat else min v.toNat n
theorem Bd (n d:Nat)(hd:d<=n)(o:Option Int):NQ n d o<=n:=by
 cases o with
 | none=>exact hd
 | some v=>
   show(if v<0 then(v+(n:Int)).toNat else min v.toNat n)<=n;by_cases hv:v<0
   ·rw[ND hv];omega
   ·rw[Nz hv];exact JW _ _
theorem rP (v:Int)(n d:Nat):(if v<0 then max (v+(n:Int)) 0 else min v (n:Int))=((NQ n d (some v):Nat):Int):=by
 show(if v<0 then max (v+(n:Int)) 0 else min v (n:Int))=(((if v<0 then(v+(n:Int)).toNat else min v.toNat n):Nat):Int);by_cases hv:v<0
 ·simp only[ND hv];omega
 ·simp only[Nz hv];omega
theorem uc (lo hi:Option Int)(n:Nat):Ln.Slice.sliceAdjust lo hi 1 (n:Int)=(((NQ n 0 lo:Nat):Int),((NQ n n hi:Nat):Int)):=by
 have h1:¬((1:Int)<0):=by omega
 unfold Ln.Slice.sliceAdjust;simp only[h1,if_false];refine Prod.ext ?_ ?_
 ·cases lo with
  | none=>rfl
  | some v=>exact rP v n 0
 ·cases hi with
  | none=>rfl
  | some v=>exact rP v n n
theorem tQ (i j:Nat):Ln.Slice.slicePlaces (i:Int) (j:Int) 1=j-i:=by
 unfold Ln.Slice.slicePlaces;have h1:(1:Int)>0:=by omega
 simp only[h1,if_true,Int.ediv_one];split<;>omega
theorem mr {v:Value}{o:Option Int}{Q:Option Int->Kc->Prop}(p:Li v o)(h:Q o s):wpAny (model prog w) A (Ln.Slice.slicePartIndex v) Q E s:=by
 cases p with
 | none=>exact slicePart_none h
 | int i t=>exact slicePart_int h
theorem gM {vl vu:Value}{lo hi:Option Int}{n:Nat}{Q:Int×Int×Nat->Kc->Prop}(hs:s.heap.IsSliceOf sl vl vu .none)(pl:Li vl lo)(pu:Li vu hi)(h:Q (((NQ n 0 lo:Nat):Int),1,NQ n n hi-NQ n 0 lo) s):wpAny (model prog w) A (Ln.Slice.sliceApplied (.ref sl) (pure (n:Int))) Q E s:=by
 obtain⟨os,QS,hcs,Sl⟩:=id hs;unfold Ln.Slice.sliceApplied Ln.Slice.sliceFields;refine Kb (Kb (Ks QS Sl (x:=vl) rfl (Kb (Ks QS Sl (x:=vu) rfl (Kb (Ks QS Sl (x:=.none) rfl (Kg ?_)))))));refine Kb (slicePart_none ?_);show wpAny _ _ (if((1:Int)==0)=true then _ else _) _ _ s;rw[Nz (by decide)];refine Kb (mr pl (Kb (mr pu (Kb (Kg ?_)))));show wpAny _ _ (match Ln.Slice.sliceAdjust lo hi 1 (n:Int) with | (lo,hi)=>pure (lo,(1:Int),Ln.Slice.slicePlaces lo hi 1)) _ _ s;rw[uc lo hi n];show wpAny _ _ (pure (((NQ n 0 lo:Nat):Int),(1:Int),Ln.Slice.slicePlaces ((NQ n 0 lo:Nat):Int) ((NQ n n hi:Nat):Int) 1)) _ _ s;rw[tQ];exact Kg h
theorem wY (xs:Array Value)(i k:Nat):((IL k).filterMap λ(m:Nat)=>xs[((i:Int)+(m:Int)*1).toNat]?).toArray=((xs.toList.drop i).take k).toArray:=by
 have e:(λ(m:Nat)=>xs[((i:Int)+(m:Int)*1).toNat]?)=λm=>xs[i+m]?:=by
  funext m;have:((i:Int)+(m:Int)*1).toNat=i+m:=by omega
  rw[this]
 rw[e];have:=pick_run xs i k;rw[List.filterMap_map] at this;have e2:((λx=>xs[x]?) ∘ λx=>i+x)=λm=>xs[i+m]?:=rfl;rw[e2] at this;rw[this]
theorem kf {t:Addr}{items:Array Value}{vl vu:Value}{lo hi:Option Int}{Q:Value->Kc->Prop}(ht:IsTup s.heap t items)(hs:s.heap.IsSliceOf sl vl vu .none)(pl:Li vl lo)(pu:Li vu hi)(hw:¬(NQ items.size 0 lo=0/\NQ items.size items.size hi=items.size))(h:Q (.ref s.heap.objs.size) {s with heap:=s.heap.push {cls:=.type "tuple",data:=.seq ((items.toList.drop (NQ items.size 0 lo)).take (NQ items.size items.size hi-NQ items.size 0 lo)).toArray}})(hsz:items.size<=Ke):wpAny (model prog w) A (La (.ref t) (.ref sl)) Q E s:=by
 have Pl:sizeOk (.seq ((items.toList.drop (NQ items.size 0 lo)).take (NQ items.size items.size hi-NQ items.size 0 lo)).toArray):=by
  show((items.toList.drop (NQ items.size 0 lo)).take (NQ items.size items.size hi-NQ items.size 0 lo)).toArray.size<=Ke;rw[Ig,Im,IY,Hz];omega
 have hj:NQ items.size items.size hi<=items.size:=Bd _ _ (JI _) hi;obtain⟨os,QS,hcs,Sl⟩:=id hs;have hTs:s.TypeIs (.ref sl) "slice":=⟨os,QS,hcs⟩;unfold La
 try with_reducible refine Ku ?_
 first | refine Kb (Kg ?_) | skip
 refine Kb (wpAny_sequenceKey ht.typeIs (by decide) ?_);refine Kb (Kw (name:=ME "__getitem__") ht.typeIs J5
  (KR J5 ht.typeIs entry_tuple_getitem ?_ (args_tuple_getitem _ _)))
 show wpAny _ _ (Ln.Tuple.tupleItemsOf (.ref t) >>=_) _ _ s;refine Kb (tupleItemsOf_ ht ?_);refine Kb (Lx hTs ?_);rw[ND (by decide)];refine Kb (gM hs pl pu ?_);have OP:¬((((NQ items.size 0 lo:Nat):Int)==0&&(1:Int)==1&&(NQ items.size items.size hi-NQ items.size 0 lo)==items.size)=true):=by
  intro q;rw[HF,HF] at q;have q1:((NQ items.size 0 lo:Nat):Int)=0:=eq_of_beq q.1.1;have q2:NQ items.size items.size hi-NQ items.size 0 lo=items.size:=eq_of_beq q.2;exact hw ⟨by omega,by omega⟩
 show wpAny _ _ (if(((NQ items.size 0 lo:Nat):Int)==0&&(1:Int)==1&&(NQ items.size items.size hi-NQ items.size 0 lo)==items.size)=true then _ else _) _ _ s;rw[Nz OP,wY]
 first
  | exact Kb (m:=Ln.Tuple.tupleExact _) (KD (Kg ⟨_,rfl,Kg h⟩) Pl)
  | exact Kb (m:=Ln.Tuple.tupleExact _) (KD (Kb (Kg (Kg ⟨_,rfl,Kg h⟩))) Pl)
  | exact Kb (Kb (m:=Ln.Tuple.tupleExact _) (KD (Kg (Kg ⟨_,rfl,Kg h⟩)) Pl))
  | exact Kb (Kb (m:=Ln.Tuple.tupleExact _) (KD (Kg ⟨_,rfl,Kg h⟩) Pl))
end
end HT
namespace L2
open PySem PySem.Spec PyProof.Rows
abbrev TO:=St->Hp->(Option Int->Hp->Prop)->Prop
def PO (X:Cx)(e:Option Expr)(t:TO):Prop:=
 ∀(NI:Hr)(s:Kc)(σ:St)(H:Hp)(Q:Option Int->Hp->Prop),Inv X NI σ H s->t σ H Q->
  wpAny (model X.prog X.w) X.A (evalPart e X.env) (λu s'=>∃o H',Inv X NI σ H' s'/\Li u o/\Q o H') X.xe s
def y8:TO:=λ_ H Q=>Q none H
def EX (t:TE):TO:=λσ H Q=>t σ H λx H1=>∃i,x= .int i/\Q (some i) H1
theorem intsAre_of {ns:Hs}:∀{us:Hw},Vals (ns.map V.int) us->J9 us ns:=by
 induction ns with
 | nil=>intro us r;rw[JB] at r;cases r;exact .nil
 | cons n ns ih=>
   intro us r;rw[Iu] at r;cases r with
   | cons r1 r2=>
     obtain⟨t,e⟩:=r1;subst e;exact .cons n t (ih r2)
variable {X:Cx}{e:Expr}{pos:Pos}
section
variable {te:TE}{lo hi:Option Expr}{tl th:TO}{p2:Pos}
theorem zq:PO X none y8:=by
 intro NI s σ H Q I h;rw[evalPart_none];exact Kg ⟨none,H,I,.none,h⟩
theorem zU (h:PE X e te):PO X (some e) (EX te):=by
 intro NI s σ H Q I hw;rw[evalPart_some];refine aJ (h NI s σ H _ I hw) λu s1 ⟨x,H1,I1,r1,q1⟩=>?_;obtain⟨i,rfl,q⟩:=q1;obtain⟨t,rfl⟩:=r1;exact⟨some i,H1,I1,.int i t,q⟩
def xS (X:Cx)(r:V->Option Int->Option Int->Hp->VK->Prop):Prop:=
 ∀(NI:Hr)(s:Kc)(σ:St)(H:Hp)(x:V)(v vl vu:Value)(lo hi:Option Int)(sl:Addr)(Q:VK),Inv X NI σ H s->RelV x v->s.heap.IsSliceOf sl vl vu .none->Li vl lo->Li vu hi->r x lo hi H Q->
  ∃T id,typeLookup (.type T) "__getitem__"=pure (some (.builtin id))/\s.TypeIs v T/\wpAny (model X.prog X.w) X.A (La v (.ref sl)) (EP X NI σ Q) X.xe s
def tSl (r:V->Option Int->Option Int->Hp->VK->Prop)(te:TE)(tl th:TO):TE:=λσ H Q=>te σ H λx H1=>tl σ H1 λl H2=>th σ H2 λu H3=>r x l u H3 Q
theorem kH {r:V->Option Int->Option Int->Hp->VK->Prop}(hr:xS X r)(he:PE X e te)(hl:PO X lo tl)(hu:PO X hi th):PE X (.Subscript e (.Slice lo hi none p2) pos) (tSl r te tl th):=by
 intro NI s σ H Q I h;refine Subscript_ (aJ (he NI s σ H _ I h) λv s1 ⟨x,H1,I1,r1,q1⟩=>?_);refine wpAny_Slice (aJ (hl NI s1 σ H1 _ I1 q1) λvl s2 ⟨l,H2,I2,pl,q2⟩=>aJ (hu NI s2 σ H2 _ I2 q2) λvu s3 ⟨u,H3,I3,pu,q3⟩=>?_);rw[evalPart_none];refine Kg ?_;have I4:Inv X NI σ H3 {s3 with heap:=s3.heap.push {cls:=.type "slice",data:=.fields #[vl,vu,.none]}}:=I3.kept (t':=s3.toks) λb ob q=>Mn _ q;obtain⟨T,id,hT,ht,hg⟩:=hr NI {s3 with heap:=s3.heap.push {cls:=.type "slice",data:=.fields #[vl,vu,.none]}} σ H3 x v vl vu l u s3.heap.objs.size Q I4 r1 (Heap.IsSliceOf.new ..) pl pu q3;show wpAny (model X.prog X.w) X.A (Ka e (.Slice lo hi none p2) v (.ref s3.heap.objs.size)) (EP X NI σ Q) X.xe {s3 with heap:=s3.heap.push {cls:=.type "slice",data:=.fields #[vl,vu,.none]}};exact tail_any (ops:=[.ref s3.heap.objs.size,v]) ht hT hg (by with_unfolding_all rfl)
def ic (xs:List V)(lo hi:Option Int):List V:=(xs.drop (HT.NQ xs.length 0 lo)).take (HT.NQ xs.length xs.length hi-HT.NQ xs.length 0 lo)
theorem kB (xs:List V)(lo hi:Option Int):(ic xs lo hi).length<=xs.length:=by
 unfold ic;rw[Im,IY];omega
def GW (K:MO):V->Option Int->Option Int->Hp->VK->Prop:=λx lo hi H Q=>∃a xs,x= .ref a/\du K H a xs/\
 ¬(HT.NQ xs.length 0 lo=0/\HT.NQ xs.length xs.length hi=xs.length)/\∀p,H p=none->Q (.ref p) (upd H p (.tup (ic xs lo hi)))
theorem Dg:xS X (GW X.K):=by
 intro NI s σ H x v vl vu lo hi sl Q I rx hs pl pu h;obtain⟨a,xs,rfl,hx,hw,q⟩:=h;cases rx
 obtain⟨NJ,r,ht,hz⟩:=I.tuple hx;have hlen:NJ.toArray.size=xs.length:=by rw[Ig];exact r.length.symm
 refine⟨"tuple",_,J5.lookup,ht.typeIs,?_⟩;refine HT.kf ht hs pl pu (by rw[hlen];exact hw) ?_ (by rw[hlen];exact hz);rw[hlen];refine⟨.ref s.heap.objs.size,_,I.laid (t':=s.toks) (o:=.tup (ic xs lo hi)) (λb ob q=>Mn _ q) (JI _) ?_,rfl,q _ (I.NN.fresh (JI _))⟩;exact⟨JJ (kB xs lo hi) hz,_,(r.drop (HT.NQ xs.length 0 lo)).take (HT.NQ xs.length xs.length hi-HT.NQ xs.length 0 lo),IsTup.new _ _⟩
end
variable {α:Type}{n:Nat}{i:Int}{j:Nat}{xs:List α}
def fw (n:Nat)(i:Int):Option Nat:=if 0<=i then(if i<n then some i.toNat else none) else if -(n:Int)<=i then some (i+n).toNat else none
def cC (xs:List α)(i:Int):Option α:=(fw xs.length i).bind λj=>xs[j]?
theorem sC (h:fw n i=some j):seqIndex? i n=some j/\j<n/\ -(n:Int)<=i/\i<n:=by
 unfold fw at h;by_cases h0:0<=i
 ·rw[ND h0] at h;by_cases h1:i<n
  ·rw[ND h1] at h;have e:i.toNat=j:=Option.some.inj h;exact⟨by rw[seqIndex_of h0 h1,e],by omega,by omega,h1⟩
  ·rw[Nz h1] at h;cases h
 ·rw[Nz h0] at h;by_cases h1: -(n:Int)<=i
  ·rw[ND h1] at h;have e:(i+n).toNat=j:=Option.some.inj h;exact⟨by rw[seqIndex_neg (by omega) h1,e],by omega,h1,by omega⟩
  ·rw[Nz h1] at h;cases h
theorem mT {v:α}(h:cC xs i=some v):∃j,seqIndex? i xs.length=some j/\xs[j]?=some v/\j<xs.length/\ -(xs.length:Int)<=i/\i<xs.length:=by
 unfold cC at h;cases e:fw xs.length i with
 | none=>rw[e] at h;cases h
 | some j=>
   rw[e] at h;obtain⟨h1,h2,h3,h4⟩:=sC e;exact⟨j,h1,h,h2,h3,h4⟩
theorem zI {v:α}(h:xs[j]?=some v):cC xs (j:Int)=some v:=by
 have hj:j<xs.length:=(HW.mp h).1;have e:fw xs.length (j:Int)=some j:=by
  unfold fw;rw[ND (by omega),ND (by omega)];simp
 unfold cC;rw[e];exact h
def fE (b:Expr):Prop:=∀o i,LD b false o i=operate [o,i] (La o i)
def xY (X:Cx)(r:R2):Prop:=
 ∀(value slice:Expr)(NI:Hr)(s:Kc)(σ:St)(H:Hp)(x y:V)(v u:Value)(Q:VK),Inv X NI σ H s->RelV x v->RelV y u->r x y H Q->
  LD slice false v u=operate [v,u] (La v u)->wpAny (model X.prog X.w) X.A (Ka value slice v u) (EP X NI σ Q) X.xe s
def qz (X:Cx)(id:String)(r:V->List V->Hp->VK->Prop):Prop:=
 ∀(NI:Hr)(s:Kc)(σ:St)(H:Hp)(x:V)(xs:List V)(v:Value)(us:Hw)(Q:VK),Inv X NI σ H s->RelV x v->Vals xs us->r x xs H Q->
  wpAny (model X.prog X.w) X.A (call (.builtin id) (v::us)) (EP X NI σ Q) X.xe s
variable {NI:Hr}{σ:St}{H:Hp}{s:Kc}{NJ:Hw}{A:Kj}{y x:V}{u:Value}{T:String}{v:Value}
section
variable {a b:Expr}{ta tb:TE}
theorem j4 {r:R2}(hr:xY X r)(ha:PE X a ta)(hb:PE X b tb)(hs:fE b):PE X (.Subscript a b pos) (yu r ta tb):=by
 intro NI s σ H Q I h;exact Subscript_ (xn ha hb I h λv u s2 x y H2 I2 rx ry q=>hr a b NI s2 σ H2 x y v u Q I2 rx ry q (hs _ _))
def G2 (K:MO):R2:=λx y H Q=>∃p xs i v,x= .ref p/\y= .int i/\bp K H p xs/\cC xs i=some v/\Q v H
def G1 (K:MO):R2:=λx y H Q=>∃p xs i v,x= .ref p/\y= .int i/\du K H p xs/\cC xs i=some v/\Q v H
def Hg:R2:=λx y H Q=>∃z i c,x= .str z/\y= .int i/\z.length<=Ke/\cC z.cps.toList i=some c/\Q (.str ⟨#[c]⟩) H
theorem j6:xY X (G2 X.K):=by
 intro value slice NI s σ H x y v u Q I rx ry h hs;obtain⟨p,xs,i,z,rfl,rfl,hq,he,q⟩:=h;cases rx
 obtain⟨t,rfl⟩:=ry;obtain⟨NJ,r,pl,hz⟩:=I.list hq;obtain⟨j,h1,h2,h3,h4,h5⟩:=mT he;obtain⟨w,ew,Qi⟩:=r.get h2;have hl:=r.length;have hn:=g8;have fin:EP X NI σ Q w s:=⟨z,H,I,Qi,q⟩;by_cases h0:0<=i
 ·have hj:i.toNat=j:=by
   rw[seqIndex_of h0 h5] at h1;exact Option.some.inj h1
  exact item_listR pl.isList h0 (by omega) (by rw[hj];simpa using ew) fin hs
 ·have hj:(i+(NJ.toArray.size:Int)).toNat=j:=by
   rw[seqIndex_neg (by omega) h4] at h1;rw[Ig,← hl];exact Option.some.inj h1
  exact subscriptTail_builtinR (x:=w) pl.isList.typeIs slot_list_getitem.lookup
   (wpAny_getItem_list_neg (Q:=λr s'=>r=w/\EP X NI σ Q r s') pl.isList (by omega) (by rw[Ig]<;>omega) (by omega) (by rw[hj];simpa using ew) ⟨rfl,fin⟩) hs
theorem Bm:xY X (G1 X.K):=by
 intro value slice NI s σ H x y v u Q I rx ry h hs;obtain⟨p,xs,i,z,rfl,rfl,hq,he,q⟩:=h;cases rx
 obtain⟨t,rfl⟩:=ry;obtain⟨NJ,r,pl,hz⟩:=I.tuple hq;obtain⟨j,h1,h2,h3,h4,h5⟩:=mT he;obtain⟨w,ew,Qi⟩:=r.get h2;have hl:=r.length;have hn:=g8;have fin:EP X NI σ Q w s:=⟨z,H,I,Qi,q⟩;exact subscriptTail_builtinR (x:=w) pl.typeIs slot_tuple_getitem.lookup
  (getItem_tuple (j:=j) (Q:=λr s'=>r=w/\EP X NI σ Q r s') pl (by omega) (by omega) (by rw[Ig,← hl];exact h1) (by simpa using ew) ⟨rfl,fin⟩) hs
theorem Co:xY X Hg:=by
 intro value slice NI s σ H x y v u Q I rx ry h hs;obtain⟨z,i,c,rfl,rfl,hz,he,q⟩:=h;obtain⟨t,rfl⟩:=rx;obtain⟨t',rfl⟩:=ry;obtain⟨j,h1,h2,h3,h4,h5⟩:=mT he;have hl:z.cps.toList.length=z.length:=by simp[Str.length]
 rw[hl] at h1 h4 h5;have hn:=g8;exact tail_any (Lq s z t) slot_str_getitem.lookup (getItem_str (c:=c) (by
  have e1:decide (i < -(2 ^ 63:Int))=false:=NH (by omega);have e2:decide (i≥2 ^ 63)=false:=NH (by omega);rw[e1,e2,Bool.or_false]) (by rw[h1];simpa using h2) ⟨.str ⟨#[c]⟩,H,I.tok _,⟨_,rfl⟩,q⟩) hs
theorem uj (NJ:Hw)(n j:Nat)(u:Value):MA (·.setIfInBounds j u) {cls:=.type "list",data:=.seq NJ.toArray n}={cls:=.type "list",data:=.seq (NJ.set j u).toArray n}:=by
 simp[MA]
theorem Inv.lst {NI:Hr}{σ:St}{H:Hp}{s:Kc}{p:Addr}{xs:List V}(I:Inv X NI σ H s)(h:H p=some (.lst xs)):
 ∃(NJ:Hw)(n:Nat),Vals xs NJ/\s.heap.get? p=some {cls:=.type "list",data:=.seq NJ.toArray n}/\xs.length<=Ke:=by
 obtain⟨z,NJ,n,r,e⟩:=I.NN p _ h;exact⟨NJ,n,r,e,z⟩
theorem Inv.AX {p:Addr}{xs ys:List V}{its':Hw}{n':Nat}{f:Obj->Obj}(I:Inv X NI σ H s)(h:H p=some (.lst xs))(ho:s.heap.get? p=some {cls:=.type "list",data:=.seq NJ.toArray n})(hf:f {cls:=.type "list",data:=.seq NJ.toArray n}={cls:=.type "list",data:=.seq its'.toArray n'})(r:Vals ys its')(hz:ys.length<=Ke)(t:Nat):
 Inv X NI σ (upd H p (.lst ys)) {s with heap:=s.heap.update p f,toks:=t}:=by
 have e:(s.heap.update p f).get? p=some {cls:=.type "list",data:=.seq its'.toArray n'}:=by
  rw[Mr f ho (by rw[hf]<;>rfl),hf]
 refine I.write (x:=p) (e:=p) (by rw[h];trivial) (.inl rfl) (λb u hb q=>(Heap.get?_update_other _ _ (JX hb)).trans q) ⟨_,e⟩ ?_;exact⟨hz,its',n',r,e⟩
def Ef:V->V->V->Hp->(Hp->Prop)->Prop:=λo i v H Q=>∃p xs k j,o= .ref p/\i= .int k/\H p=some (.lst xs)/\fw xs.length k=some j/\Q (upd H p (.lst (xs.set j v)))
theorem set_list:B2 X Ef:=by
 intro NI s σ H o i v ov iv u Q I ro ri rv h;obtain⟨p,xs,k,j,rfl,rfl,hp,hj,q⟩:=h;cases ro
 obtain⟨t,rfl⟩:=ri;obtain⟨NJ,n,r,ho,hz⟩:=I.lst hp;obtain⟨h1,h2,h3,h4⟩:=sC hj;have hl:=r.length;have hn:=g8;have I':Inv X NI σ (upd H p (.lst (xs.set j v))) {s with heap:=s.heap.update p (MA (·.setIfInBounds j u))}:=
  I.AX hp ho (uj NJ n j u) (r.set rv j) (by rw[Jc];exact hz) s.toks
 by_cases h0:0<=k
 ·have hk:k.toNat=j:=by
   rw[seqIndex_of h0 h4] at h1;exact Option.some.inj h1
  exact PySem.W.ki_setAt ho h0 (by omega) (by rw[Ig,← hl];exact h4) (by rw[hk];exact⟨_,I',q⟩)
 ·have hk:(k+(NJ.toArray.size:Int)).toNat=j:=by
   rw[seqIndex_neg (by omega) h3] at h1;rw[Ig,← hl];exact Option.some.inj h1
  exact PySem.W.ki_setBack ho (by omega) (by rw[Ig,← hl];exact h3) (by omega) (by rw[hk];exact⟨_,I',q⟩)
theorem qo (lo hi:Option Int)(n:Nat):(K3 lo hi none n).1=((HT.NQ n 0 lo:Nat):Int)/\(K3 lo hi none n).2.1=((HT.NQ n n hi:Nat):Int)/\(K3 lo hi none n).2.2=1:=by
 refine⟨?_,?_,rfl⟩
 ·cases lo with
  | none=>simp[K3,HT.NQ]
  | some i=>
    simp only[K3,HT.NQ,Option.getD_none,show(1:Int)>0 by decide,if_true];by_cases h:i<0
    ·simp only[h,if_true]<;>omega
    ·simp only[h,if_false]<;>omega
 ·cases hi with
  | none=>simp[K3,HT.NQ]
  | some i=>
    simp only[K3,HT.NQ,Option.getD_none,show(1:Int)>0 by decide,if_true];by_cases h:i<0
    ·simp only[h,if_true]<;>omega
    ·simp only[h,if_false]<;>omega
theorem oG (NJ:Hw)(lo hi:Option Int):slicePick NJ.toArray lo hi none=((NJ.drop (HT.NQ NJ.length 0 lo)).take (HT.NQ NJ.length NJ.length hi-HT.NQ NJ.length 0 lo)).toArray:=by
 obtain⟨h1,h2,h3⟩:=qo lo hi NJ.toArray.size;unfold slicePick;rw[h1,h2,h3];simp only[sliceRange_one,pick_run,Ig]<;>rfl
def Gy (K:MO):V->Option Int->Option Int->Hp->VK->Prop:=λx lo hi H Q=>∃a xs,x= .ref a/\bp K H a xs/\∀p,H p=none->Q (.ref p) (upd H p (.lst (ic xs lo hi)))
theorem zM:xS X (Gy X.K):=by
 intro NI s σ H x v vl vu lo hi sl Q I rx hs pl pu h;obtain⟨a,xs,rfl,hx,q⟩:=h;cases rx
 obtain⟨NJ,r,ht,hz⟩:=I.list hx;have hlen:=r.length;refine⟨"list",_,slot_list_getitem.lookup,ht.isList.typeIs,?_⟩;refine wpAny_getItem_list_slice ht.isList hs pl pu .none (by simp) ?_ (by rw[Ig]<;>omega)
 rw[oG,← hlen];refine⟨.ref s.heap.objs.size,_,I.laid (t':=s.toks) (o:=.lst (ic xs lo hi)) (λb ob q=>Mn _ q) (JI _) ?_,rfl,q _ (I.NN.fresh (JI _))⟩;exact⟨JJ (kB xs lo hi) hz,_,0,(r.drop (HT.NQ xs.length 0 lo)).take (HT.NQ xs.length xs.length hi-HT.NQ xs.length 0 lo),Mp _ rfl⟩
def fh:V->Bool
 | .NS=>true
 | .bl _=>true
 | .int _=>true
 | .str _=>true
 | _=>false
def kr:V->V->Bool
 | .NS,.NS=>true
 | .bl a,.bl b=>a==b
 | .bl a,.int b=>(if a then 1 else 0)==b
 | .int a,.bl b=>a==(if b then 1 else 0)
 | .int a,.int b=>a==b
 | .str a,.str b=>a==b
 | _,_=>false
theorem Ck (ry:RelV y u)(rx:RelV x v)(fy:fh y=true)(fx:fh x=true):SeqAt.EqAt A s u v (kr y x):=by
 cases y with
 | NS=>
   cases ry
   cases x with
   | NS=>cases rx;exact SeqAt.EqAt.same _
   | bl b=>cases rx;exact SeqAt.EqAt.none_bool b
   | int b=>obtain⟨t,rfl⟩:=rx;exact SeqAt.EqAt.none_int b t
   | str b=>obtain⟨t,rfl⟩:=rx;exact SeqAt.EqAt.none_str b t
   | _=>exact Ny (show false=true from fx) HE
 | bl a=>
   cases ry
   cases x with
   | NS=>cases rx;exact SeqAt.EqAt.bool_none a
   | bl b=>cases rx;exact SeqAt.EqAt.bool_bool a b
   | int b=>obtain⟨t,rfl⟩:=rx;exact SeqAt.EqAt.bool_int a b t
   | str b=>obtain⟨t,rfl⟩:=rx;exact SeqAt.EqAt.bool_str a b t
   | _=>exact Ny (show false=true from fx) HE
 | int a=>
   obtain⟨t',rfl⟩:=ry;cases x with
   | NS=>cases rx;exact SeqAt.EqAt.int_none a t'
   | bl b=>cases rx;exact SeqAt.EqAt.int_bool a t' b
   | int b=>obtain⟨t,rfl⟩:=rx;exact SeqAt.EqAt.int_int a t' b t
   | str b=>obtain⟨t,rfl⟩:=rx;exact SeqAt.EqAt.int_str a t' b t
   | _=>exact Ny (show false=true from fx) HE
 | str a=>
   obtain⟨t',rfl⟩:=ry;cases x with
   | NS=>cases rx;exact SeqAt.EqAt.str_none a t'
   | bl b=>cases rx;exact SeqAt.EqAt.str_bool a t' b
   | int b=>obtain⟨t,rfl⟩:=rx;exact SeqAt.EqAt.str_int a t' b t
   | str b=>obtain⟨t,rfl⟩:=rx;exact SeqAt.EqAt.str_str a t' b t
   | _=>exact Ny (show false=true from fx) HE
 | _=>exact Ny (show false=true from fy) HE
def fg (x:V)(u:Value):Bool:=match u with
 | .none=>kr .NS x
 | .bool b=>kr (.bl b) x
 | .int i _=>kr (.int i) x
 | .str z _=>kr (.str z) x
 | _=>false
theorem md (r:RelV y u)(f:fh y=true):fg x u=kr y x:=by
 cases y with
 | NS=>cases r;rfl
 | bl b=>cases r;rfl
 | int i=>obtain⟨t,rfl⟩:=r;rfl
 | str z=>obtain⟨t,rfl⟩:=r;rfl
 | _=>exact Ny (show false=true from f) HE
theorem iR {x:V}:∀{xs:List V}{us:Hw},Vals xs us->xs.all fh=true->us.any (fg x)=xs.any λy=>kr y x
 | _,_,.nil,_=>rfl
 | y::xs,u::us,.cons r t,f=>by
   rw[JE,HF] at f;rw[Jo,Jo,md r f.1,iR t f.2]
theorem eE {A:Kj}{s:Kc}{x:V}{v:Value}(rx:RelV x v)(fx:fh x=true):∀{xs:List V}{us:Hw},Vals xs us->xs.all fh=true->∀u∈us,SeqAt.EqAt A s u v (fg x u)
 | _,_,.nil,_=>λu hu=>by cases hu
 | y::xs,u::us,.cons r t,f=>λu' hu=>by
   rw[JE,HF] at f;rcases Ih.mp hu with rfl | hu
   ·rw[md r f.1];exact Ck r rx f.1 fx
   ·exact eE rx fx t f.2 u' hu
def rN (x:V)(xs:List V):Bool:=xs.any λy=>kr y x
def Gm (K:MO)(neg:Bool):R2:=λx y H Q=>∃p xs,y= .ref p/\(bp K H p xs∨du K H p xs)/\fh x=true/\xs.all fh=true/\Q (.bl (if neg then !rN x xs else rN x xs)) H
theorem jN:cP X (Kp .In) (Gm X.K false):=by
 intro NI s σ H x y v u Q I rx ry h;obtain⟨p,xs,rfl,hq,fx,fs,q⟩:=h;cases ry
 rcases hq with hq | hq
 ·obtain⟨NJ,r,pl,hz⟩:=I.list hq;refine SeqAt.in_listAt (fg x) pl.isList (λw hw=>eE rx fx r fs w (by simpa using hw)) ⟨.bl _,H,I,rfl,?_⟩;rw[show NJ.toArray.any (fg x)=NJ.any (fg x) by simp,iR r fs];exact q
 ·obtain⟨NJ,r,pl,hz⟩:=I.tuple hq;refine SeqAt.in_tupleAt (fg x) pl (λw hw=>eE rx fx r fs w (by simpa using hw)) ⟨.bl _,H,I,rfl,?_⟩;rw[show NJ.toArray.any (fg x)=NJ.any (fg x) by simp,iR r fs];exact q
theorem jC:cP X (Kp .NotIn) (Gm X.K true):=by
 intro NI s σ H x y v u Q I rx ry h;obtain⟨p,xs,rfl,hq,fx,fs,q⟩:=h;cases ry
 rcases hq with hq | hq
 ·obtain⟨NJ,r,pl,hz⟩:=I.list hq;refine SeqAt.notIn_listAt (fg x) pl.isList (λw hw=>eE rx fx r fs w (by simpa using hw)) ⟨.bl _,H,I,rfl,?_⟩;rw[show NJ.toArray.any (fg x)=NJ.any (fg x) by simp,iR r fs];exact q
 ·obtain⟨NJ,r,pl,hz⟩:=I.tuple hq;refine SeqAt.notIn_tupleAt (fg x) pl (λw hw=>eE rx fx r fs w (by simpa using hw)) ⟨.bl _,H,I,rfl,?_⟩;rw[show NJ.toArray.any (fg x)=NJ.any (fg x) by simp,iR r fs];exact q
theorem g9:dD X (.builtin "len") (λxs H Q=>∃p ys,xs=[.ref p]/\(bp X.K H p ys∨du X.K H p ys)/\Q (.int ys.length) H):=by
 intro NI s σ H xs us Q I r h;obtain⟨p,ys,rfl,hq,q⟩:=h;obtain⟨u,rfl,rx⟩:=vals1 r;cases rx
 have hn:=g8;rcases hq with hq | hq
 ·obtain⟨NJ,r',pl,hz⟩:=I.list hq;have hlen:=r'.length;exact Calls.call_len_list pl.isList (by simp only[Ig]<;>omega) ⟨.int ys.length,H,I.tok _,⟨s.toks+1,by rw[Ig,hlen]⟩,q⟩
 ·obtain⟨NJ,r',pl,hz⟩:=I.tuple hq;have hlen:=r'.length;exact len_tuple pl (by simp only[Ig]<;>omega) ⟨.int ys.length,H,I.tok _,⟨s.toks+1,by rw[Ig,hlen]⟩,q⟩
theorem qm:dD X (.builtin "len") (λxs H Q=>∃z,xs=[.str z]/\z.length<=Ke/\Q (.int z.length) H):=by
 intro NI s σ H xs us Q I r h;obtain⟨z,rfl,hz,q⟩:=h;obtain⟨u,rfl,t,rfl⟩:=vals1 r;have hn:=g8;exact len_str (by omega) ⟨.int z.length,H,I.tok _,⟨_,rfl⟩,q⟩
def Bp (K:MO)(T:String)(x:V)(H:Hp):Prop:=match x with
 | .str _=>T="str"
 | .int _=>T="int"
 | .ref p=>(T="list"/\∃xs,bp K H p xs)∨(T="tuple"/\∃o,K.lookup p=some o/\o.cls= .type "tuple"/\o.dict=none)∨
  (T="dict"/\((∃kvs,H p=some (.dK kvs))∨∃kvs,H p=some (.dT kvs)))∨(T="set"/\∃S n,H p=some (.set S n))
 | _=>False
theorem vf (I:Inv X NI σ H s)(r:RelV x v)(ty:Bp X.K T x H):
 s.TypeIs v T/\∀a,v= .ref a->∃ob,s.heap.get? a=some ob/\ob.dict=none:=by
 cases x with
 | str z=>
   obtain⟨t,rfl⟩:=r;cases (show T="str" from ty)
   exact⟨Lq s z t,λ_ e=>nomatch e⟩
 | int i=>
   obtain⟨t,rfl⟩:=r;cases (show T="int" from ty)
   exact⟨typeIs_int s i t,λ_ e=>nomatch e⟩
 | ref p=>
   cases r
   rcases ty with⟨rfl,xs,hq⟩ | ⟨rfl,o,hk,hc,hd⟩ | ⟨rfl,hk⟩ | ⟨rfl,S,n,hk⟩
   ·obtain⟨NJ,_,pl,_⟩:=I.list hq;refine⟨pl.isList.typeIs,λa e=>?_⟩;cases e
    obtain⟨o,n,e,c,hd,_⟩:=pl;exact⟨o,e,hd⟩
   ·refine⟨⟨o,I.cO p o hk,hc⟩,λa e=>?_⟩;cases e
    exact⟨o,I.cO _ o hk,hd⟩
   ·have z:∃o,s.heap.get? p=some o/\o.ExactDict:=by
     rcases hk with⟨kvs,hk⟩ | ⟨kvs,hk⟩
     ·obtain⟨_,_,_,_,o,_,_,e,ex,_⟩:=I.NN p _ hk;exact⟨o,e,ex⟩
     ·obtain⟨_,_,_,_,o,_,_,e,ex,_⟩:=I.NN p _ hk;exact⟨o,e,ex⟩
    obtain⟨o,e,ex⟩:=z;refine⟨⟨o,e,ex.1⟩,λa e2=>?_⟩;cases e2
    exact⟨o,e,ex.2.1⟩
   ·obtain⟨o,_,_,_,e,ex,_⟩:=I.NN p _ hk;refine⟨⟨o,e,ex.1⟩,λa e2=>?_⟩;cases e2
    exact⟨o,e,ex.2.1⟩
 | _=>exact HP ty
def GK (K:MO)(T:String)(r:V->List V->Hp->VK->Prop)(to:TE):TE:=λσ H Q=>to σ H λx H1=>Bp K T x H1/\r x [] H1 Q
def tBM (K:MO)(T:String)(r:V->List V->Hp->VK->Prop)(to:TE)(t:TA):TE:=λσ H Q=>to σ H λx H1=>Bp K T x H1/\t σ H1 λxs H2=>r x xs H2 Q
variable {o:Expr}{es:Hx}{to:TE}{t:TA}{name:Str}{apos Og:Pos}{id:String}{r:V->List V->Hp->VK->Prop}
theorem Ax (pa:PlainAttrs T)(slot:Slot T name id)(hty:typeOf (.builtin id)=pure (.type "method_descriptor"))(hm:qz X id r)(ho:PE X o to)(NT:Kk o name X.env (eval o X.env)=eval o X.env:=by rfl)(NY:(apos.endLine==Og.line)=true:=by rfl):PE X (.Call (.Attribute o name apos) [] [] Og) (GK X.K T r to):=by
 intro NI s σ H Q I h;refine wpAny_Call_method0_late NT NY (aJ (ho NI s σ H _ I h) λv s1 ⟨x,H1,I1,r1,ty,q1⟩=>?_);obtain⟨h1,h2⟩:=vf I1 r1 ty;exact⟨T,id,pa,slot,hty,h1,h2,Mb rfl (PySem.evalArgs_none (hm NI s1 σ H1 x [] v [] Q I1 r1 .nil q1))⟩
theorem i6 (pa:PlainAttrs T)(slot:Slot T name id)(hty:typeOf (.builtin id)=pure (.type "method_descriptor"))(hm:qz X id r)(ho:PE X o to)(ha:PA X (e::es) t)(NT:Kk o name X.env (eval o X.env)=eval o X.env:=by rfl)(Oe:((Ko Og (Kf (e::es) X.env)).all (λx=> !x.1)&&(K7 Og (KQ [] X.env)).all (λx=>x.1.isSome)
  &&decide ((e::es).length+([]:List Kx).length+(if([]:List Kx).isEmpty then 0 else 1)<30))=true:=by rfl)(NY:(apos.endLine==Og.line)=true:=by rfl)(hs:Kf (e::es) X.env=(false,eval e X.env)::Kf es X.env:=by rfl)(QR:(Ko Og (Kf es X.env)).any (·.1)=false:=by rfl):
 PE X (.Call (.Attribute o name apos) (e::es) [] Og) (tBM X.K T r to t):=by
 intro NI s σ H Q I h;refine wpAny_Call_method_late NT Oe NY rfl (aJ (ho NI s σ H _ I h) λv s1 ⟨x,H1,I1,r1,ty,q1⟩=>?_);obtain⟨h1,h2⟩:=vf I1 r1 ty;refine⟨T,id,pa,slot,hty,h1,h2,?_⟩;have hA:=ha Og NI s1 σ H1 _ I1 q1;rw[hs] at hA ⊢;refine Mb (by show(false ||(Ko Og (Kf es X.env)).any (·.1))=false;rw[QR]<;>rfl) (Calls.evalArgs_plain ?_)
 exact aJ hA λus s2 ⟨vs,H2,I2,r2,q2⟩=>hm NI s2 σ H2 x vs v us Q I2 r1 r2 q2
end
def Cb (X:Cx)(id:String)(r:V->List V->Hp->VK->Prop):Prop:=
 ∀(NI:Hr)(s:Kc)(σ:St)(H:Hp)(x:V)(xs:List V)(v:Value)(us:Hw)(Q:VK),Inv X NI σ H s->RelV x v->Vals xs us->r x xs H Q->
  wpAny (model X.prog X.w) X.A (call (.builtin id) (v::us)) (EP X NI σ Q) X.xe s
theorem Vals.one:∀{x:V}{us:Hw},Vals [x] us->∃u,us=[u]/\RelV x u
 | _,_,.cons r .nil=>⟨_,rfl,r⟩
theorem Vals.zero:∀{us:Hw},Vals [] us->us=[]
 | _,.nil=>rfl
theorem Vals.dropLast {xs:List V}{us:Hw}(h:Vals xs us):Vals xs.dropLast us.dropLast:=by
 induction h with
 | nil=>exact .nil
 | cons r t ih=>
   cases t with
   | nil=>exact .nil
   | cons q t'=>exact .cons r ih
theorem Vals.rep {xs:List V}{us:Hw}(h:Vals xs us):∀k:Nat,Vals (HZ k xs).flatten (HZ k us).flatten
 | 0=>.nil
 | k+1=>by
   rw[ID,ID,I0,I0];exact Vals.append h (Vals.rep h k)
theorem sM (l:List α):l.eraseIdx (l.length-1)=l.dropLast:=by
 induction l with
 | nil=>rfl
 | cons a r ih=>
   cases r with
   | nil=>rfl
   | cons b r=>
     have e:(a::b::r).length-1=((b::r).length-1)+1:=by
      have h1:(a::b::r).length=r.length+2:=rfl;have h2:(b::r).length=r.length+1:=rfl;omega
     rw[e,List.eraseIdx_cons_succ,ih]
     all_goals rfl
theorem foldl_rep (NJ:Hw):∀(k:Nat)(acc:Hw),
 List.foldl (λx1 x2=>x1++x2) acc.toArray (HZ k NJ.toArray)=(acc++(HZ k NJ).flatten).toArray
 | 0,acc=>by simp
 | k+1,acc=>by
   have e:acc.toArray++NJ.toArray=(acc++NJ).toArray:=by simp
   have e2:(acc++NJ)++(HZ k NJ).flatten=acc++(HZ (k+1) NJ).flatten:=by
    rw[ID,I0,IQ]
   rw[← e2,← foldl_rep NJ k (acc++NJ),← e,ID,Jw]
variable {t':Nat}
section
variable {l b:Addr}{xs ys zs:List V}
theorem Inv.w9 {its':Hw}{f:Array Value->Array Value}(I:Inv X NI σ H s)(hH:H l=some (.lst xs))(e:s.heap.get? l=some {cls:=.type "list",data:=.seq NJ.toArray n})(hf:f NJ.toArray=its'.toArray)(hv:Vals ys its')(hz:ys.length<=Ke):
 Inv X NI σ (upd H l (.lst ys)) {s with heap:=s.heap.update l (MA f),toks:=t'}:=by
 have q:=PySem.IsL.update e f;rw[hf] at q;refine I.write (x:=l) (e:=l) (by rw[hH];exact trivial) (.inl rfl) (λb' u hb hu=>(Heap.get?_update_other s.heap (MA f) (JX hb)).trans hu) ⟨_,q⟩ ?_;exact⟨hz,its',_,hv,q⟩
theorem Inv.Ci (I:Inv X NI σ H s)(hv:Vals ys NJ)(hz:ys.length<=Ke):
 Inv X NI σ (upd H s.heap.objs.size (.lst ys)) {s with heap:=s.heap.push {cls:=.type "list",data:=.seq NJ.toArray},toks:=t'}:=
 I.laid (λ_ _ q=>Mn _ q) (JI _) ⟨hz,NJ,0,hv,Mp _ rfl⟩
theorem Inv.fresh (I:Inv X NI σ H s):H s.heap.objs.size=none:=I.NN.fresh (JI _)
theorem Inv.ie (I:Inv X NI σ H s)(hH:H l=some (.lst xs)):xs.length<=Ke/\∃(NJ:Hw)(n:Nat),Vals xs NJ/\xs.length=NJ.length/\s.heap.get? l=some {cls:=.type "list",data:=.seq NJ.toArray n}:=by
 obtain⟨z,NJ,n,r,e⟩:=I.NN l _ hH;exact⟨z,NJ,n,r,r.length,e⟩
theorem pX (h:n<=Ke):Ln.List.listTooLong n=false:=by
 unfold Ln.List.listTooLong;exact NH (by omega)
end
def zu:V->List V->Hp->VK->Prop:=λx vs H Q=>∃l xs y,x= .ref l/\vs=[y]/\H l=some (.lst xs)/\xs.length<Ke/\Q .NS (upd H l (.lst (xs++[y])))
theorem vb:Cb X "list.append" zu:=by
 intro NI s σ H x vs v us Q I rx rv h;obtain⟨l,xs,y,rfl,rfl,hH,hz,q⟩:=h;cases rx
 obtain⟨u,rfl,ru⟩:=rv.one;obtain⟨z,NJ,n,r,hl,e⟩:=I.ie hH;refine KP F.slot_list_append ⟨_,e,rfl⟩ F.entry_list_append (F.args_list_append_2 _ _) (PySem.list_append l NJ.toArray n u (by rw[Ig];omega)) ⟨e,?_⟩;refine⟨.NS,_,I.w9 (its':=NJ++[u]) hH e (by simp) (r.append (.cons ru .nil)) ?_,rfl,q⟩;rw[HV,IB];omega
def yV:V->List V->Hp->VK->Prop:=λx vs H Q=>∃l b xs zs,x= .ref l/\vs=[.ref b]/\H l=some (.lst xs)/\H b=some (.lst zs)/\xs.length+zs.length<=Ke/\Q .NS (upd H l (.lst (xs++zs)))
theorem vS:Cb X "list.extend" yV:=by
 intro NI s σ H x vs v us Q I rx rv h;obtain⟨l,b,xs,zs,rfl,rfl,hH,hB,hz,q⟩:=h;cases rx
 obtain⟨u,rfl,ru⟩:=rv.one;cases ru
 obtain⟨z,NJ,n,r,hl,e⟩:=I.ie hH;obtain⟨z2,Pa,n2,r2,QY,e2⟩:=I.ie hB;have hsz:NJ.toArray.size+Pa.toArray.size<=Ke:=by rw[Ig,Ig];omega
 have PZ:¬(!NJ.toArray.isEmpty&&Ln.List.listTooLong (NJ.toArray.size+Pa.toArray.size))=true:=by
  rw[pX hsz,HM];exact HE
 refine KP F.slot_list_extend ⟨_,e,rfl⟩ F.entry_list_extend (F.args_list_extend_2 _ _)
  (AutoSeq1.list_extend_list_list_0 l NJ.toArray n b Pa.toArray n2 PZ (by rw[Ig];omega) (by omega)) ⟨e,e2,?_⟩
 refine⟨.NS,_,I.w9 (its':=NJ++Pa) hH e (by simp) (r.append r2) ?_,rfl,q⟩;rw[HV];omega
def Gn:V->List V->Hp->VK->Prop:=λx vs H Q=>∃l xs y,x= .ref l/\vs=[]/\H l=some (.lst xs)/\xs[xs.length-1]?=some y/\Q y (upd H l (.lst xs.dropLast))
theorem Di:Cb X "list.pop" Gn:=by
 intro NI s σ H x vs v us Q I rx rv h;obtain⟨l,xs,y,rfl,rfl,hH,hy,q⟩:=h;cases rx
 have hus:=rv.zero;subst hus;obtain⟨z,NJ,n,r,hl,e⟩:=I.ie hH;obtain⟨u,hu,ru⟩:=r.get hy;have hy':NJ.toArray[NJ.toArray.size-1]?=some u:=by
  show NJ.toArray[NJ.length-1]?=some u;rw[← Array.getElem?_toList,← hl];exact hu
 refine KP F.slot_list_pop ⟨_,e,rfl⟩ F.entry_list_pop (F.args_list_pop_1 _) (MeetsSeq.list_pop_last l NJ.toArray n u hy' (by rw[Ig];omega)) ⟨e,?_⟩;refine⟨y,_,I.w9 (its':=NJ.dropLast) hH e ?_ r.dropLast ?_,ru,q⟩
 ·show NJ.toArray.eraseIdxIfInBounds (NJ.toArray.size-1)=NJ.dropLast.toArray;rw[Ig,List.eraseIdxIfInBounds_toArray,sM]
 ·rw[Jg];omega
def G5:R2:=λx y H Q=>∃l b xs zs,x= .ref l/\y= .ref b/\H l=some (.lst xs)/\H b=some (.lst zs)/\xs.length+zs.length<=Ke/\∀p,H p=none->Q (.ref p) (upd H p (.lst (xs++zs)))
theorem Am:cP X (KO .Add) G5:=by
 intro NI s σ H x y v u Q I rx ry h;obtain⟨l,b,xs,zs,rfl,rfl,hH,hB,hz,q⟩:=h;cases rx
 cases ry
 obtain⟨z,NJ,n,r,hl,e⟩:=I.ie hH;obtain⟨z2,Pa,n2,r2,QY,e2⟩:=I.ie hB;refine PySem.P.add_list e e2 ?_ (by rw[Ig,Ig];omega);have ea:NJ.toArray++Pa.toArray=(NJ++Pa).toArray:=by simp
 rw[ea];exact⟨.ref _,_,I.Ci (t':=s.toks) (r.append r2) (by rw[HV];omega),rfl,q _ I.fresh⟩
def Hn:R2:=λx y H Q=>∃l k xs,x= .ref l/\y= .int k/\H l=some (.lst xs)/\ -(2 ^ 63)<=k/\k<2 ^ 63/\xs.length*k.toNat<=Ke/\
 ∀p,H p=none->Q (.ref p) (upd H p (.lst (HZ k.toNat xs).flatten))
theorem len_rep (xs:List α)(k:Nat):(HZ k xs).flatten.length=k*xs.length:=by
 induction k with
 | zero=>simp
 | succ k ih=>rw[ID,I0,HV,ih,Nat.succ_mul,Nat.add_comm]
theorem Cu:cP X (KO .Mult) Hn:=by
 intro NI s σ H x y v u Q I rx ry h;obtain⟨l,k,xs,rfl,rfl,hH,h1,h2,hz,q⟩:=h;cases rx
 obtain⟨t,rfl⟩:=ry;obtain⟨z,NJ,n,r,hl,e⟩:=I.ie hH;have hlen:NJ.toArray.size*k.toNat<=Ke:=by rw[Ig,← hl];exact hz
 have hcap:¬NJ.toArray.size*k.toNat>(2 ^ 63-1)/8:=by
  have:(Ke:Nat)<=(2 ^ 63-1)/8:=by decide
  omega
 have hfit:¬(!Builtin.List.listFitsIndex k)=true:=by
  rw[fitsIndex_both h1 h2];exact HE
 have PZ:¬Ln.List.listTooLong (NJ.toArray.size*k.toNat)=true:=by
  rw[pX hlen];exact HE
 have QU:List.foldl (λx1 x2=>x1++x2) #[] (HZ (if NJ.toArray.isEmpty=true then 0 else k.toNat) NJ.toArray)=(HZ k.toNat NJ).flatten.toArray:=by
  have f0:∀m:Nat,List.foldl (λx1 x2=>x1++x2) #[] (HZ m NJ.toArray)=(HZ m NJ).flatten.toArray:=λm=>by
   have:=foldl_rep NJ m [];rw[List.nil_append] at this;exact this
  rw[f0];cases NJ with
  | nil=>simp
  | cons a r'=>rw[Nz (by simp)]
 refine wpAny_binaryOp_repeat_ref (T:="list") (U:="int") (by decide) ⟨_,e,rfl⟩ (λs'=>typeIs_int s' k t) noFill_list_mul F.fills_int_mul F.slot_int_rmul repeat_list F.slot_int_index.lookup
  (KP F.slot_int_rmul (typeIs_int s k t) F.entry_int_rmul (F.args_int_rmul_2 _ _) (int___rmul___int_list k t l NJ.toArray n)
   ⟨e,rfl,⟨_,e,rfl⟩,KP F.slot_list_mul ⟨_,e,rfl⟩ F.entry_list_mul (F.args_list_mul_2 _ _) (AutoListH.list___mul___list_int_3 l NJ.toArray n k t hfit hcap PZ) ⟨e,?_⟩⟩)
 rw[QU];exact⟨.ref _,_,I.Ci (t':=s.toks) (r.rep k.toNat) (by rw[len_rep,Nat.mul_comm];exact hz),rfl,q _ I.fresh⟩
variable {prog:Kh}{w:World}{E:Value->Kc->Prop}
variable {o:Option V}
section
variable {κ:Type} [DecidableEq κ]
variable {kvs:List (κ×V)}{vs:List (κ×Value)}
def cx (kvs:List (κ×V))(k:κ):Option V:=(kvs.find? λkv=>decide (kv.1=k)).map (·.2)
def putK (kvs:List (κ×V))(k:κ)(v:V):List (κ×V):=
 if(kvs.any λkv=>decide (kv.1=k))=true then kvs.map (λkv=>if kv.1=k then(kv.1,v) else kv) else kvs++[(k,v)]
theorem cG {p:κ×V}{r:List (κ×V)}{k:κ}(e:p.1=k):cx (p::r) k=some p.2:=by simp[cx,IX,e]
theorem cH {p:κ×V}{r:List (κ×V)}{k:κ}(e:¬p.1=k):cx (p::r) k=cx r k:=by simp[cx,IX,e]
theorem dS (k:κ):∀kvs:List (κ×V),(kvs.any λkv=>decide (kv.1=k))=(cx kvs k).isSome
 | []=>rfl
 | p::r=>by
   rw[Jo];by_cases e:p.1=k
   ·simp only[cG e,decide_eq_true e,Bool.true_or,Option.isSome_some]
   ·rw[cH e,NH e,Bool.false_or];exact dS k r
theorem qj (k j:κ)(y:V):∀kvs:List (κ×V),cx (kvs.map λkv=>if kv.1=k then(kv.1,y) else kv) j=(cx kvs j).map λx=>if j=k then y else x
 | []=>rfl
 | p::r=>by
   have ih:=qj k j y r;rw[Iu];by_cases h:p.1=k
   ·rw[ND h];by_cases e:p.1=j
    ·rw[cG (p:=(p.1,y)) e,cG e,J0,ND (e.symm.trans h)]
    ·rw[cH (p:=(p.1,y)) e,cH e,ih]
   ·rw[Nz h];by_cases e:p.1=j
    ·rw[cG (p:=p) e,cG e,J0,Nz (λz=>h (e.trans z))]
    ·rw[cH (p:=p) e,cH e,ih]
theorem nM (k j:κ)(y:V):∀kvs:List (κ×V),cx kvs k=none->cx (kvs++[(k,y)]) j=if j=k then some y else cx kvs j
 | [],_=>by
   by_cases e:k=j
   ·rw[ND e.symm];exact cG (p:=(k,y)) e
   ·rw[Nz (λz=>e z.symm)];exact cH (p:=(k,y)) e
 | p::r,hn=>by
   rw[List.cons_append];have hk:¬p.1=k:=λz=>by rw[cG z] at hn;cases hn
   rw[cH hk] at hn;have ih:=nM k j y r hn;by_cases e:p.1=j
   ·rw[cG e,cG e,Nz (λz=>hk (e.trans z))]
   ·rw[cH e,cH e,ih]
theorem wJ (kvs:List (κ×V))(k j:κ)(y:V):cx (putK kvs k y) j=if j=k then some y else cx kvs j:=by
 unfold putK;by_cases a:(kvs.any λkv=>decide (kv.1=k))=true
 ·rw[ND a,qj];rw[dS] at a;by_cases e:j=k
  ·obtain⟨x,hx⟩:=Option.isSome_iff_exists.mp a;rw[ND e,e,hx,J0,ND rfl]
  ·rw[Nz e];cases cx kvs j with
   | none=>rfl
   | some x=>rw[J0,Nz e]
 ·rw[Nz a];refine nM k j y kvs ?_;rw[dS] at a;cases q:cx kvs k with
  | none=>rfl
  | some x=>rw[q] at a;exact(a rfl).elim
theorem ip (kvs:List (κ×V))(k:κ)(v:V):(putK kvs k v).length<=kvs.length+1:=by
 unfold putK;split
 ·rw[HU];omega
 ·rw[HV,Iy,length_nil];omega
theorem qQ {k:κ}(v:V)(h:cx kvs k=none):putK kvs k v=kvs++[(k,v)]:=by
 unfold putK;rw[dS,h];exact Nz (by decide)
theorem eP.gg {u:Hu}(r:eP o u):o.isSome=u.isSome:=by
 cases o with
 | none=>cases u with
   | none=>rfl
   | some _=>exact(show False from r).elim
 | some _=>cases u with
   | none=>exact(show False from r).elim
   | some _=>rfl
theorem KV.val (r:KV kvs vs)(k:κ):eP (cx kvs k) (KG vs k):=by
 unfold KV at r
 induction r with
 | nil=>exact Nx
 | @cons p q ps qs h t ih=>
   obtain⟨h1,h2⟩:=h;by_cases e:p.1=k
   ·have e':q.1=k:=h1.symm.trans e;have b:KG (q::qs) k=some q.2:=by simp[KG,IX,e']
    rw[cG e,b];exact h2
   ·have e':¬q.1=k:=λz=>e (h1.trans z);have b:KG (q::qs) k=KG qs k:=by simp[KG,IX,e']
    rw[cH e,b];exact ih
theorem KV.any (r:KV kvs vs)(k:κ):(kvs.any λkv=>decide (kv.1=k))=vs.any λkv=>decide (kv.1=k):=by
 unfold KV at r
 induction r with
 | nil=>rfl
 | cons h t ih=>rw[Jo,Jo,ih,h.1]
theorem KV.xi (r:KV kvs vs)(k:κ)(ry:RelV y u):
 KV (kvs.map λkv=>if kv.1=k then(kv.1,y) else kv) (vs.map λkv=>if kv.1=k then(kv.1,u) else kv):=by
 unfold KV at r ⊢
 induction r with
 | nil=>exact .nil
 | @cons p q ps qs h t ih=>
   rw[Iu,Iu];refine .cons ?_ ih;obtain⟨h1,h2⟩:=h;by_cases e:p.1=k
   ·rw[ND e,ND (h1.symm.trans e)];exact⟨h1,ry⟩
   ·rw[Nz e,Nz (λz=>e (h1.trans z))];exact⟨h1,h2⟩
theorem KV.put (r:KV kvs vs)(k:κ)(ry:RelV y u):KV (putK kvs k y) (stored vs k u):=by
 unfold putK stored;rw[r.any k];by_cases e:(vs.any λkv=>decide (kv.1=k))=true
 ·rw[ND e,ND e];exact r.xi k ry
 ·rw[Nz e,Nz e];exact Paired.snoc r ⟨rfl,ry⟩
theorem KV.length (r:KV kvs vs):kvs.length=vs.length:=Paired.length r
end
variable {P:Kh}{H':Hp}
section
variable {kvs:List (List Key×V)}{xs:List (List Key×Addr×Value)}
theorem gw {k:Key}(r:RelV (kV k) u):(bH P w).is k u=true:=by
 cases k with
 | inl i=>obtain⟨t,e⟩:=(show∃t,u=MI i t from r);subst e;exact qY P w i t
 | inr x=>obtain⟨t,e⟩:=(show∃t,u=MJ x t from r);subst e;exact cM P w x t
theorem nV {P:Kh}{w:World}:∀{ks:List Key}{us:Hw},Vals (ks.map kV) us->ItemsAre (bH P w) ks us
 | [],_,r=>by rw[JB] at r;cases r;exact .nil
 | k::ks,_,r=>by
   rw[Iu] at r;cases r with
   | cons h t=>exact .cons (gw h) (nV t)
abbrev KT (H:Hp):List (List Key×V)->List (List Key×Addr×Value)->Prop:=Paired λp q=>p.1=q.1/\H q.2.1=some (.tup (p.1.map kV))/\RelV p.2 q.2.2
theorem KT.val (r:KT H kvs xs)(k:List Key):eP (cx kvs k) ((atKey xs k).map (·.2)):=by
 induction r with
 | nil=>exact Nx
 | @cons p q ps qs h t ih=>
   obtain⟨h1,_,h2⟩:=h;by_cases e:p.1=k
   ·have e':q.1=k:=h1.symm.trans e;have b:atKey (q::qs) k=some q.2:=by simp[atKey,IX,e']
    rw[cG e,b];exact h2
   ·have e':¬q.1=k:=λz=>e (h1.trans z);have b:atKey (q::qs) k=atKey qs k:=by simp[atKey,IX,e']
    rw[cH e,b];exact ih
theorem KT.xi (r:KT H kvs xs)(k:List Key)(ry:RelV y u):
 KT H (kvs.map λkv=>if kv.1=k then(kv.1,y) else kv) (xs.map (putAt k u)):=by
 induction r with
 | nil=>exact .nil
 | @cons p q ps qs h t ih=>
   rw[Iu,Iu];refine .cons ?_ ih;obtain⟨h1,h2,h3⟩:=h;unfold putAt;by_cases e:p.1=k
   ·rw[ND e,ND (h1.symm.trans e)];exact⟨h1,h2,ry⟩
   ·rw[Nz e,Nz (λz=>e (h1.trans z))];exact⟨h1,h2,h3⟩
theorem KT.put (r:KT H kvs xs)(k:List Key){b:Addr}(hb:H b=some (.tup (k.map kV)))(ry:RelV y u):
 KT H (putK kvs k y) (storedH xs k b u):=by
 have e:(kvs.any λkv=>decide (kv.1=k))=(atKey xs k).isSome:=by
  rw[dS,(r.val k).gg,J1]
 unfold putK storedH;rw[e];by_cases q:(atKey xs k).isSome=true
 ·rw[ND q,ND q];exact r.xi k ry
 ·rw[Nz q,Nz q];exact Paired.snoc r ⟨rfl,hb,ry⟩
theorem KT.keeps (r:KT H kvs xs)(ht:∀b ys,H b=some (.tup ys)->H' b=some (.tup ys)):KT H' kvs xs:=
 Paired.wN r λ_ _ z=>⟨z.1,ht _ _ z.2.1,z.2.2⟩
end
variable {kvs:List (Key×V)}{a:Addr}
section
variable {h:Heap}
theorem yr {u:HO}(ok:bT P w H h)(e:Rd H a u):bK P w H h a u:=e.ok ok
theorem j5 (ok:bT P w H h)(e:Rd H a (.dK kvs)):kvs.length<=Ke/\(a==Kv)=false/\∃vs,KV kvs vs/\h.DictOf (bH P w) a vs:=
 show bK P w H h a (.dK kvs) from yr ok e
theorem sE (ok:bT P w H h)(e:H a=some (.dK kvs)):kvs.length<=Ke/\(a==Kv)=false/\∃vs,KV kvs vs/\h.DictOf (bH P w) a vs:=j5 ok (.inl e)
theorem ju {ks:List Key}(ok:bT P w H h)(e:H a=some (.tup (ks.map kV))):(Ly (bH P w)).is h ks a:=by
 obtain⟨_,NJ,r,o,h1,h2,n,h3⟩:=(show bK P w H h a (.tup (ks.map kV)) from ok a _ e);exact⟨o,NJ.toArray,n,h1,h2,h3,by simpa using nV r⟩
theorem l9 {kvs:List (List Key×V)}(ok:bT P w H h)(e:Rd H a (.dT kvs)):kvs.length<=Ke/\(a==Kv)=false/\
 ∃xs,KT H kvs xs/\h.DictOfH (Ly (bH P w)) a xs:=by
 obtain⟨z,y,xs,r,o,es,ep,h1,h2,h3,h4,h5⟩:=(show bK P w H h a (.dT kvs) from yr ok e);refine⟨z,y,xs,r,o,es,ep,h1,h2,h3,h4,λx hx=>?_,h5⟩;have all:∀{l:List (List Key×V)}{m:List (List Key×Addr×Value)},KT H l m->∀x∈m,(Ly (bH P w)).is h x.1 x.2.1:=by
  intro l m q
  induction q with
  | nil=>intro x hx;exact nomatch hx
  | @cons p q ps qs hq t ih=>
    intro x hx;rcases Ih.mp hx with e | hx
    ·subst e;exact ju ok (by rw[← hq.1];exact hq.2.1)
    ·exact ih x hx
 exact all r x hx
theorem El {kvs:List (List Key×V)}(ok:bT P w H h)(e:H a=some (.dT kvs)):kvs.length<=Ke/\(a==Kv)=false/\
 ∃xs,KT H kvs xs/\h.DictOfH (Ly (bH P w)) a xs:=l9 ok (.inl e)
end
def eR (H:Hp)(a:Addr)(y:V)(r:Option V):Prop:=
 (∃kvs k,Rd H a (.dK kvs)/\y=kV k/\r=cx kvs k)∨∃kvs k b,Rd H a (.dT kvs)/\y= .ref b/\H b=some (.tup (k.map kV))/\r=cx kvs k
def kQ (H:Hp)(a:Addr)(y v:V)(H':Hp):Prop:=
 (∃kvs k,H a=some (.dK kvs)/\y=kV k/\kvs.length<Ke/\H'=upd H a (.dK (putK kvs k v)))∨
 ∃kvs k b,H a=some (.dT kvs)/\y= .ref b/\H b=some (.tup (k.map kV))/\kvs.length<Ke/\H'=upd H a (.dT (putK kvs k v))
theorem eR.k {H:Hp}{a:Addr}{kvs:List (Key×V)}{k:Key}(e:H a=some (.dK kvs)):eR H a (kV k) (cx kvs k):=.inl ⟨kvs,k,.inl e,rfl,rfl⟩
theorem kQ.k {H:Hp}{a:Addr}{kvs:List (Key×V)}{k:Key}{v:V}(e:H a=some (.dK kvs))(hl:kvs.length<Ke):kQ H a (kV k) v (upd H a (.dK (putK kvs k v))):=.inl ⟨kvs,k,e,rfl,hl,rfl⟩
variable {Q:Value->Kc->Prop}{h':Heap}
section
variable {v:V}{r:Value}
theorem Inv.big (I:Inv X NI σ H s):Kv<s.heap.objs.size:=by
 have h:Ki<s.heap.objs.size:=(I.mod.glob.keeps I.bk).lt;exact Nat.lt_trans (by decide) h
theorem uN (hu:A.units+1<cLine)(I:Inv X NI σ H s)(g:eR H a y (some v))(ry:RelV y u)(h:∀w' s',Inv X NI σ H s'->RelV v w'->Q w' s'):
 wpAny (model X.prog X.w) A (La (.ref a) u) Q E s:=by
 rcases g with⟨kvs,k,e,ey,l⟩ | ⟨kvs,k,b,e,ey,eb,l⟩
 ·subst ey;obtain⟨z,hd,vs,rel,dd⟩:=j5 I.NN e;obtain⟨w',hw,Qi⟩:=eP.some_of (v:=v) (o:=KG vs k) (by rw[l];exact rel.val k);exact wpAny_getItem_of (gw ry) dd.mapOf hw (h w' _ (I.tok _) Qi)
 ·subst ey;cases (show u=MF b from ry)
  obtain⟨z,hd,xs,rel,dd⟩:=l9 I.NN e;obtain⟨w',hw,Qi⟩:=eP.some_of (v:=v) (o:=(atKey xs k).map (·.2)) (by rw[l];exact rel.val k);obtain⟨p,hp,hp2⟩:=JZ.mp hw;refine wpAny_getItem_heap (K8 hu) (ju I.NN eb) dd hp ?_;rw[hp2];exact h w' _ (I.tok _) Qi
theorem G9 (hu:A.units+1<cLine)(I:Inv X NI σ H s)(g:eR H a y o)(ry:RelV y u)(h:∀s',Inv X NI σ H s'->Q (.bool o.isSome) s'):
 wpAny (model X.prog X.w) A (Kp .In u (.ref a)) Q E s:=by
 rcases g with⟨kvs,k,e,ey,l⟩ | ⟨kvs,k,b,e,ey,eb,l⟩
 ·subst ey;obtain⟨z,hd,vs,rel,dd⟩:=j5 I.NN e;refine wpAny_in_of (gw ry) hd dd.mapOf ?_;rw[← (rel.val k).gg,← l];exact h _ (I.tok _)
 ·subst ey;cases (show u=MF b from ry)
  obtain⟨z,hd,xs,rel,dd⟩:=l9 I.NN e;refine wpAny_in_heap (K8 hu) (ju I.NN eb) hd dd ?_;have q:=(rel.val k).gg;rw[J1] at q;rw[← q,← l];exact h _ (I.tok _)
theorem yM (hu:A.units+1<cLine)(I:Inv X NI σ H s)(g:eR H a y o)(ry:RelV y u)(h:∀s',Inv X NI σ H s'->Q (.bool (!o.isSome)) s'):
 wpAny (model X.prog X.w) A (Kp .NotIn u (.ref a)) Q E s:=by
 rcases g with⟨kvs,k,e,ey,l⟩ | ⟨kvs,k,b,e,ey,eb,l⟩
 ·subst ey;obtain⟨z,hd,vs,rel,dd⟩:=j5 I.NN e;refine wpAny_notIn_of (gw ry) hd dd.mapOf ?_;rw[← (rel.val k).gg,← l];exact h _ (I.tok _)
 ·subst ey;cases (show u=MF b from ry)
  obtain⟨z,hd,xs,rel,dd⟩:=l9 I.NN e;refine wpAny_notIn_heap (K8 hu) (ju I.NN eb) hd dd ?_;have q:=(rel.val k).gg;rw[J1] at q;rw[← q,← l];exact h _ (I.tok _)
theorem j7 {ob:HO}(I:Inv X NI σ H s)(mu:vm (H a))(hs:Ms a s.heap h')(he:∃q,h'.get? a=some q)(new:bK X.prog X.w (upd H a ob) h' a ob):
 Inv X NI σ (upd H a ob) {s with heap:=h',toks:=t'}:=
 I.write (x:=a) (e:=a) mu (.inl rfl) (λb q hb z=>(hs.2 b hb).trans z) he new
theorem qI {vs:List (Key×Value)}(z:kvs.length<=Ke)(hd:(a==Kv)=false)(rel:KV kvs vs)(dd:h'.DictOf (bH P w) a vs):
 bK P w H' h' a (.dK kvs):=⟨z,hd,vs,rel,dd⟩
theorem vQ {Q:Unit->Kc->Prop}(hu:A.units+1<cLine)(I:Inv X NI σ H s)(g:kQ H a y v H')(ry:RelV y u)(rv:RelV v r)(h:∀s',Inv X NI σ H' s'->Q () s'):
 wpAny (model X.prog X.w) A (setItem (.ref a) u r) Q E s:=by
 rcases g with⟨kvs,k,e,ey,l,eH⟩ | ⟨kvs,k,b,e,ey,eb,l,eH⟩
 ·subst ey eH;obtain⟨z,hd,vs,rel,dd⟩:=sE I.NN e;have hz:vs.length<=Ke:=by rw[← rel.length];exact z
  have hl:(putK kvs k v).length<=Ke:=by have:=ip kvs k v;omega
  refine wpAny_setItem_pairs (hsz:=hz) (gw ry) dd λh' Qc hs=>h _ ?_;have he:∃q,h'.get? a=some q:=let ⟨q,_,_,hq,_⟩:=Qc;⟨q,hq⟩;exact j7 I (by rw[e];exact Nx) hs he (qI hl hd (rel.put k rv) Qc)
 ·subst ey eH;cases (show u=MF b from ry)
  obtain⟨z,hd,xs,rel,dd⟩:=El I.NN e;have hz:xs.length<=Ke:=by rw[← Paired.length rel];exact z
  have hl:(putK kvs k v).length<=Ke:=by have:=ip kvs k v;omega
  refine wpAny_setItem_heap (hsz:=hz) (K8 hu) (ju I.NN eb) dd λh' Qc hs=>h _ ?_;obtain⟨q,es,ep,hq,h2,h3,h4,_,h5⟩:=Qc;refine j7 I (by rw[e];exact Nx) hs ⟨q,hq⟩ ⟨hl,hd,_,(rel.put k eb rv).keeps λc ys ec=>?_,q,es,ep,hq,h2,h3,h4,h5⟩;rw[aB (DR ec e (λz=>nomatch z))];exact ec
end
section
variable {k:Key}
theorem EH (I:Inv X NI σ H s)(e:Rd H a (.dK kvs))(h:∀t s',Inv X NI σ H s'->Q (.int kvs.length t) s'):wpAny (model X.prog X.w) A (call (.builtin "len") [.ref a]) Q E s:=by
 obtain⟨z,hd,vs,rel,dd⟩:=j5 I.NN e;refine call_len_dict hd dd (by rw[← rel.length];rw[Lc] at z;omega) ?_;rw[← rel.length];exact h _ _ (I.tok _)
end
def xP (i:Expr):Prop:=∀ov iv,LD i false ov iv=operate [ov,iv] (La ov iv)
theorem Ak {env:Env}{value slice:Expr}{id:String}(hl:typeLookup (.type T) "__getitem__"=pure (some (.builtin id)))(hs:xP slice)(h:wpAny (model prog w) A (eval value env) (λo s₁=>wpAny (model prog w) A (eval slice env) (λi s₂=>s₂.TypeIs o T/\wpAny (model prog w) A (La o i) Q E s₂) E s₁) E s):
 wpAny (model prog w) A (eval (.Subscript value slice pos) env) Q E s:=by
 refine Subscript_ (Kl h (λo s₁ h₁=>Kl h₁ (λi s₂ h₂=>?_) λ_ _ x=>x) λ_ _ x=>x);obtain⟨hT,h₂⟩:=h₂;unfold Ka;refine Kb ?_;rw[getitemInPython_of_ne hT.not_modules];refine Kb (wpAny_specialOf hT hl ?_);have fin:wpAny (model prog w) A (LD slice false o i) (λr s₃=>wpAny (model prog w) A (letTemporaryGo value o r >>=λ_=>pure r) Q E s₃) E s₂:=by
  rw[hs o i];exact wpAny_operating (Kl h₂ (λr s₃ h₃=>Kb (wpAny_letTemporaryGo (Kg h₃))) λ_ _ x=>x)
 first
  | exact Kg (Kb fin)
  | exact Kb (Kg (Kb fin))
  | exact Kb fin
theorem rf (I:Inv X NI σ H s)(g:eR H a y o):s.TypeIs (.ref a) "dict":=by
 rcases g with⟨kvs,k,e,_,_⟩ | ⟨kvs,k,b,e,_,_,_⟩
 ·obtain⟨_,_,vs,_,dd⟩:=j5 I.NN e;exact dd.typeIs
 ·obtain⟨_,_,xs,_,dd⟩:=l9 I.NN e;exact dd.typeIs
def DA (td ty:TE):TE:=λσ H Q=>td σ H λx H1=>ty σ H1 λy H2=>∃a v,x= .ref a/\eR H2 a y (some v)/\Q v H2
def Hj (ty td:TE):TE:=λσ H Q=>ty σ H λy H1=>td σ H1 λx H2=>∃a o,x= .ref a/\eR H2 a y o/\Q (.bl o.isSome) H2
def yZ (ty td:TE):TE:=λσ H Q=>ty σ H λy H1=>td σ H1 λx H2=>∃a o,x= .ref a/\eR H2 a y o/\Q (.bl (!o.isSome)) H2
def EJ (td ty tv:TE):TS:=λD σ H=>tv σ H λv H1=>td σ H1 λx H2=>ty σ H2 λy H3=>∃a H4,x= .ref a/\kQ H3 a y v H4/\D.nx σ H4
section
variable {o i value:Expr}{pos' tpos:Pos}{td ty tv:TE}
theorem zC (hu:X.A.units+1<cLine)(ho:PE X o td)(hi:PE X i ty)(hs:xP i):PE X (.Subscript o i pos) (DA td ty):=by
 intro NI s σ H Q I h;refine Ak PySem.F.slot_dict_getitem.lookup hs (aJ (ho NI s σ H _ I h) λu s1 ⟨x,H1,I1,rx,q1⟩=>aJ (hi NI s1 σ H1 _ I1 q1) λiv s2 ⟨y,H2,I2,ry,a,v,ex,g,q2⟩=>?_);subst ex;obtain rfl:u=MF a:=rx;exact⟨rf I2 g,uN hu I2 g ry λw' s3 I3 Qi=>⟨v,H2,I3,Qi,q2⟩⟩
theorem BQ (hu:X.A.units+1<cLine)(hi:PE X i ty)(ho:PE X o td):PC X .In i o (Hj ty td):=by
 intro NI s σ H Q I h;refine aJ (hi NI s σ H _ I h) λiv s1 ⟨y,H1,I1,ry,q1⟩=>aJ (ho NI s1 σ H1 _ I1 q1) λu s2 ⟨x,H2,I2,rx,a,ov,ex,g,q2⟩=>?_;subst ex;obtain rfl:u=MF a:=rx;exact G9 hu I2 g ry λs3 I3=>⟨.bl ov.isSome,H2,I3,rfl,q2⟩
theorem jA (hu:X.A.units+1<cLine)(hi:PE X i ty)(ho:PE X o td):PC X .NotIn i o (yZ ty td):=by
 intro NI s σ H Q I h;refine aJ (hi NI s σ H _ I h) λiv s1 ⟨y,H1,I1,ry,q1⟩=>aJ (ho NI s1 σ H1 _ I1 q1) λu s2 ⟨x,H2,I2,rx,a,ov,ex,g,q2⟩=>?_;subst ex;obtain rfl:u=MF a:=rx;exact yM hu I2 g ry λs3 I3=>⟨.bl (!ov.isSome),H2,I3,rfl,q2⟩
theorem mC (hu:X.A.units+1<cLine)(ho:PE X o td)(hi:PE X i ty)(hv:PE X value tv)(hs:Km value (some (.Subscript o i pos')) pos.line X.env=pure false):
 PS X (.Assign [.Subscript o i pos'] value pos) (EJ td ty tv):=by
 intro NI s σ H D I h;refine wpAny_Assign_Subscript (aJ (hv NI s σ H _ I h) λr s1 ⟨v,H1,I1,rv,q1⟩=>aJ (ho NI s1 σ H1 _ I1 q1) λu s2 ⟨x,H2,I2,rx,q2⟩=>aJ (hi NI s2 σ H2 _ I2 q2) λiv s3 ⟨y,H3,I3,ry,a,H4,ex,g,q3⟩=>?_) hs;subst ex;obtain rfl:u=MF a:=rx;exact vQ hu I3 g ry rv λs4 I4=>⟨σ,H4,I4,q3⟩
end
theorem qi (h:Heap)(hb:Kv<h.objs.size):bK P w H (h.push {cls:=.type "dict",data:=.dict #[]}) h.objs.size (.dK []):=
 ⟨JM _,beq_eq_false_iff_ne.mpr (JX (JL hb)),[],.nil,Heap.DictOf.new h⟩
def Cn:TE:=λ_ H Q=>∀p,H p=none->Q (.ref p) (upd H p (.dK []))
theorem xu:PE X (.Dict [] [] pos) Cn:=λNI s σ H Q I h=>
 wpAny_Dict_empty ⟨.ref s.heap.objs.size,_,I.laid (a:=s.heap.objs.size) (o:=.dK []) (t':=s.toks) (λ_ _ q=>Mn _ q) (JI _) (qi s.heap I.big),rfl,h _ (I.NN.fresh (JI _))⟩
variable {Qg:List (TE×TE)}
def pj:List (TE×TE)->St->Hp->(List (V×V)->Hp->Prop)->Prop
 | [],_,H,Q=>Q [] H
 | (tk,tv)::r,σ,H,Q=>tk σ H λx H1=>tv σ H1 λy H2=>pj r σ H2 λps H3=>Q ((x,y)::ps) H3
abbrev VV:List (V×V)->List (Value×Value)->Prop:=Paired λp q=>RelV p.1 q.1/\RelV p.2 q.2
def yo (X:Cx)(pos:Pos)(keys:List (Option Expr))(values:Hx)(Qg:List (TE×TE)):Prop:=
 ∀(NI:Hr)(s:Kc)(σ:St)(H:Hp)(Q:List (V×V)->Hp->Prop),Inv X NI σ H s->pj Qg σ H Q->
  wpAny (model X.prog X.w) X.A (evalPairs (pairTrees keys values X.env pos)) (λvs s'=>∃ps H',Inv X NI σ H' s'/\VV ps vs/\Q ps H') X.xe s
theorem zy:yo X pos [] [] []:=λNI s σ H Q I h=>pairTrees_nil_walk ⟨[],H,I,.nil,h⟩
theorem qO {k v:Expr}{ks:List (Option Expr)}{vs:Hx}{tk tv:TE}(hk:PE X k tk)(hv:PE X v tv)(hr:yo X pos ks vs Qg):
 yo X pos (some k::ks) (v::vs) ((tk,tv)::Qg):=λNI s σ H Q I h=>
 pairTrees_cons_walk (aJ (hk NI s σ H _ I h) λu s1 ⟨x,H1,I1,rx,q1⟩=>aJ (hv NI s1 σ H1 _ I1 q1) λw2 s2 ⟨y,H2,I2,ry,q2⟩=>
  aJ (hr NI s2 σ H2 _ I2 q2) λws s3 ⟨ps,H3,I3,rel,q3⟩=>⟨(x,y)::ps,H3,I3,.cons ⟨rx,ry⟩ rel,q3⟩)
def iG (kvs more:List (Key×V)):List (Key×V):=more.foldl (λacc kv=>putK acc kv.1 kv.2) kvs
theorem KV.merge:∀{more:List (Key×V)}{rs:List (Key×Value)}{kvs:List (Key×V)}{vs:List (Key×Value)},KV more rs->KV kvs vs->KV (iG kvs more) (merged vs rs):=by
 intro more rs kvs vs r;unfold KV at r
 induction r generalizing kvs vs with
 | nil=>intro q;exact q
 | @cons p q ps qs h t ih=>
   intro r0;have e:KV (putK kvs p.1 p.2) (stored vs q.1 q.2):=by
    have:=r0.put p.1 h.2;rw[← h.1];exact this
   exact ih e
theorem jk:∀(more kvs:List (Key×V)),(iG kvs more).length<=kvs.length+more.length
 | [],kvs=>by show kvs.length<=kvs.length+0;omega
 | p::r,kvs=>by
   have h1:=jk r (putK kvs p.1 p.2);have h2:=ip kvs p.1 p.2;show(iG (putK kvs p.1 p.2) r).length<=_;rw[Iy];omega
theorem mx {P:Kh}{w:World}:∀{kvs:List (Key×V)}{ws:List (Value×Value)},VV (kvs.map λkv=>(kV kv.1,kv.2)) ws->∃rs,Carries (bH P w) ws rs/\KV kvs rs
 | [],_,r=>by rw[JB] at r;cases r;exact⟨[],Nx,.nil⟩
 | p::kvs,_,r=>by
   rw[Iu] at r;cases r with
   | @cons a b as bs h t=>
     obtain⟨rs,c,q⟩:=mx (P:=P) (w:=w) t;obtain⟨b1,b2⟩:=b;exact⟨(p.1,b2)::rs,⟨gw h.1,rfl,c⟩,.cons ⟨rfl,h.2⟩ q⟩
def Et (Qg:List (TE×TE)):TE:=λσ H Q=>∀p,H p=none->pj Qg σ (upd H p (.dK [])) λps H2=>H2 p=some (.dK [])/\∃kvs:List (Key×V),ps=kvs.map (λkv=>(kV kv.1,kv.2))/\kvs.length<=15/\Q (.ref p) (upd H2 p (.dK (iG [] kvs)))
theorem zV {keys:List (Option Expr)}{values:Hx}(h:yo X pos keys values Qg)(Q4:keys.all (·.isSome)=true)(hl:keys.length=values.length)(h0:keys≠[])(h15:keys.length<=15):PE X (.Dict keys values pos) (Et Qg):=by
 intro NI s σ H Q I q;have hn:=I.NN.fresh (JI s.heap.objs.size);have I1:=I.laid (a:=s.heap.objs.size) (o:=.dK []) (h':=s.heap.push {cls:=.type "dict",data:=.dict #[]}) (t':=s.toks) (λ_ _ q=>Mn _ q) (JI _) (qi s.heap I.big);refine wpAny_Dict_walk (knd:=bH X.prog X.w) Q4 hl h0 h15 (aJ (h NI _ σ _ _ I1 (q _ hn)) λws s2 ⟨ps,H2,I2,rel,e,kvs,ep,lk,q2⟩=>?_);subst ep;obtain⟨rs,c,rk⟩:=mx (P:=X.prog) (w:=X.w) rel;obtain⟨z,hd,vs0,r0,dd⟩:=sE I2.NN e;cases r0
 refine⟨rs,c,dd,λh' Qc hs=>⟨.ref s.heap.objs.size,_,?_,rfl,q2⟩⟩;have hz:(iG [] kvs).length<=Ke:=by
  have h1:=jk kvs [];rw[length_nil] at h1;rw[Lc];omega
 have he:∃q,h'.get? s.heap.objs.size=some q:=let ⟨q,_,_,hq,_⟩:=Qc;⟨q,hq⟩;exact j7 I2 (by rw[e];exact Nx) hs he (qI hz hd (rk.merge .nil) Qc)
structure M2 (X:Cx)(o:Expr)(m:Str)(apos:Pos)(e f:Expr)(Og:Pos):Prop where
 base:Kk o m X.env (eval o X.env)=eval o X.env
 few:((Ko Og (Kf [e,f] X.env)).all (λx=> !x.1)&&(K7 Og (KQ [] X.env)).all (λx=>x.1.isSome)
  &&decide (([e,f]:Hx).length+([]:List Kx).length+(if([]:List Kx).isEmpty then 0 else 1)<30))=true
 line:(apos.endLine==Og.line)=true
 trees:Ko Og (Kf [e,f] X.env)=[(false,eval e X.env),(false,eval f X.env)]
section
variable {d:V}{r:Value}
end
section
variable {o f:Expr}{apos Og:Pos}{td ty tx:TE}
end
end L2
namespace Att
open PySem PySem.W PySem.Calls PyProof.Rows
variable {P:Params}{h:Heap}
theorem mf :∀(ns:Hs)(vs:Hw),WellAll P h vs (ns.map WData.int)->J9 vs ns:=by
 intro ns
 induction ns with
 | nil=>
   intro vs w;rw[JB] at w;cases w
   exact .nil
 | cons n ns ih=>
   intro vs w;rw[Iu] at w;cases w with
   | cons a b=>
     cases a
     exact .cons _ _ (ih _ b)
theorem uY {l:OpenLaw}{n:Nat}(hn:l.most=some n){args:List WData}{vals:Hw}(Ql:l.row.toRowW.claim.pre args=true)(hwl:WellAll P h vals args):
 ∃a vs ns,vals=[MF a]/\args=[WData.list (ns.map WData.int)]/\h.get? a=some {cls:=.type "list",data:=.seq vs.toArray}/\J9 vs ns/\ns.length<=n:=by
 have hsh:WShape.hasAll [] args [.list .int]=true:=(pre_splitW Ql).1;have hc:l.pre.holds [] {args:=args}=true:=(pre_splitW Ql).2;obtain⟨d,r,rfl,h1,h2⟩:=hasAllW_cons hsh;obtain rfl:=hasAllW_nil h2;obtain⟨xs,rfl,h3⟩:=hasW_list h1;obtain⟨ns,rfl⟩:=items_int h3;have hlen:ns.length<=n:=by
  unfold OpenLaw.pre at hc;have h4:(WTm.not (.lt (.lit (.int (n:Int))) (.len (.arg 0)))).holds [] {args:=[.list (ns.map .int)]}=true:=by
   have h4:=(holds_andW hc).1;rw[hn] at h4;exact h4
  have h5:=condW_of h4 (w_not (w_lt w_lit (w_len_list (w_arg rfl))));rw[HU] at h5;refine Nat.le_of_not_lt λq=>?_;have q':(n:Int)<((ns.length:Nat):Int):=by omega
  first
   | (rw[decide_eq_true q'] at h5;exact Ny h5 (by decide))
   | (simp at h5;omega)
 cases hwl with
 | cons w1 w2=>
   cases w2
   cases w1 with
   | list ho Q4=>exact⟨_,_,ns,rfl,rfl,ho,mf ns _ Q4,hlen⟩
theorem vi (l:OpenLaw)(args:List WData):l.row.toRowW.claim.post args (.bool true) args=true:=
 postW_of (r:=l.row.toRowW) (X:=(true==true))
  (show WShape.has [] (.bool true) .bool=true by first | rfl | decide | simp[WShape.has,WShape.arms,WShape.armsAll])
  (show(WTm.eq .res (.lit (.bool true))).value [] {args:=args,res:=some (.bool true),after:=args}=some (.bool (true==true)) from w_eq_bool (w_res rfl) w_lit) rfl
section
variable {prog:Kh}{w:World}{A:Kj}{E:Value->Kc->Prop}{s:Kc}{K:Frag}
end
end Att
namespace L2
open PySem PySem.Spec PyProof.Rows
theorem oo:∀{vs:Hw}{ns:Hs},J9 vs ns->Vals (ns.map V.int) vs
 | _,_,.nil=>.nil
 | _,_,.cons n t h=>.cons ⟨t,rfl⟩ (oo h)
def wB (H:Hp):Prop:=∀b,H b=none∨∃o xs,H b=some (.OG o (.lst xs))
variable {P:Kh}{w:World}{K:MO}{mg:Hq}{fd:Kn}{sp:Sp}
theorem xb {mb:Hq}{CX:h7}{k:Nat}{fa a:Addr}{x:Str}{s₁:Kc}{vs:Hw}{ns:Hs}(KX:K.In s₁.heap)(P8:s₁.heap.Ns Ki mg)(hb:s₁.heap.Ns builtinsNs mb)(hbb:∀x:Str,x≠"__name__"->mb x=Kz x)(hlim:s₁.heap.NoLimit)(hg:s₁.gens= #[])(ha:s₁.heap.get? a=some {cls:=.type "list",data:=.seq vs.toArray})(hi:J9 vs ns)(hl:ns.length<=Ke)(hr:bz k Lu)(F:∀base:Heap,K.In base->base.Ns Ki mg->ck P w K mg base CX k fa fd [x] sp)(Sr:∀(s:Kc)(u:Value),LL s fd ⟨[u],[]⟩ [(x,u)])(Pm:∀H:Hp,wB H->bp K H a (ns.map V.int)->sp [.ref a] H (λv _=>v= .bl true) λ_ _ _=>False)(hCX:∀H e s',CX [] H s₁ (λ_ _ _=>False) e s'->False):
 Ll (model P w) Lu (.call (.ref fa) ⟨[.ref a],[]⟩) (λr s'=>r= .ok (.ret (.bool true))/\OldK s₁.heap s'.heap/\s'.os=s₁.os/\J7 s'.gens) s₁:=by
 have rv:=oo hi;have lenV:=hi.length
 -- from an abstract heap in which nothing but Rv QJ may be tracked
 have core:∀H:Hp,wB H->bp K H a (ns.map V.int)->bT P w H s₁.heap->(∀b,H b≠none->b=a)->(H a≠none->K.lookup a=none)->
  Ll (model P w) Lu (.call (.ref fa) ⟨[.ref a],[]⟩) (λr s'=>r= .ok (.ret (.bool true))/\OldK s₁.heap s'.heap/\s'.os=s₁.os/\J7 s'.gens) s₁:=by
  intro H hO hS NN hA hK;have base_of:∀{b:Addr}{o:Obj},s₁.heap.get? b=some o->H b=none->(jc s₁.heap H).get? b=some o:=λe n=>wz e n;have RC:∀{b:Addr}{o:Obj}{es:Array DictEntry}{ep:Nat},s₁.heap.get? b=some o->o.data= .dict es ep->H b=none:=λ{b o es ep} e d=>by
   cases q:H b with
   | none=>rfl
   | some u=>
     have e':b=a:=hA b (by rw[q];simp);subst e';rw[ha] at e;cases e
     have d':Data.seq vs.toArray _=Data.dict es ep:=d;cases d'
  have nsK:∀{b:Addr}{m:Hq},s₁.heap.Ns b m->(jc s₁.heap H).Ns b m:=λ{b m} ⟨o,es,ep,e,d,r⟩=>⟨o,es,ep,base_of e (RC e d),d,r⟩;have hKb:K.In (jc s₁.heap H):=λb o e=>base_of (KX b o e) (by
   cases q:H b with
   | none=>rfl
   | some u=>
     have e':b=a:=hA b (by rw[q];simp);subst e';rw[hK (by rw[q];simp)] at e;cases e)
  have hM:Mod K mg (jc s₁.heap H):=⟨hKb,nsK P8,⟨mb,nsK hb,hbb⟩,let ⟨mc,h1,h2⟩:=hlim;⟨mc,nsK h1,h2⟩⟩;have e0:kO P w K mg (jc s₁.heap H) Lu [] s₁ H:=⟨rfl,hM,λb o e=>zm e,Nat.le_of_eq (vB _ _),trivial,λb hb=>Ny (show b∈([]:Hv) from hb) (by simp),NN,.of_eq hg⟩;refine K6 ((F _ hKb (nsK P8)).run Lu [] s₁ H ⟨[.ref a],[]⟩ [.ref a] [.ref a] _ _ hr e0 (Sr s₁ (.ref a)) (.cons rfl .nil) (Pm H hO hS)) λr s' h=>?_;cases r with
  | error e=>exact(hCX H e s' h).elim
  | ok fl=>
    cases fl with
    | next=>exact HP h
    | brk=>exact HP h
    | cont=>exact HP h
    | ret u=>
      obtain⟨v,H',os,bare,un,hok',r',q⟩:=h;have q':v= .bl true:=q;subst q';obtain rfl:u=ML true:=r';refine⟨rfl,OldK.of_keep λb o e=>?_,os,bare⟩;cases q:H b with
      | none=>exact un.keep b o e q (by intro z;exact Ny (show b∈([]:Hv) from z) (by simp)) (by simp)
      | some u=>
        rcases hO b with z | ⟨ob,xs,z⟩
        ·rw[q] at z;cases z
        ·have z2:=un.N7 b ob _ z;obtain⟨e1,_⟩:=NN b _ z;obtain⟨e2,_⟩:=hok' b _ z2;rw[e] at e1;cases e1
         exact e2
 cases hk:K.lookup a with
 | some o=>
   -- Rv QJ is one of Rv RG own objects
   have e:=KX a o hk;rw[ha] at e;cases e
   refine core (λ_=>none) (λ_=>.inl rfl) (.inr ⟨_,vs.toArray,_,hk,rfl,rfl,rfl,by rw[Ig,lenV];exact hl,by simpa using rv⟩) (λb u z=>by have z':(none:Option HO)=some u:=z;cases z') (λb z=>Ny rfl z) λz=>Ny rfl z
 | none=>
   refine core (λb=>if b=a then some (.OG {cls:=.type "list",data:=.seq vs.toArray} (.lst (ns.map V.int))) else none) (λb=>?_) (.inl (.inr ⟨{cls:=.type "list",data:=.seq vs.toArray},ND rfl⟩)) (λb u z=>?_) (λb z=>?_) λ_=>hk
   ·by_cases hb:b=a
    ·exact .inr ⟨_,_,ND hb⟩
    ·exact .inl (Nz hb)
   ·by_cases hb:b=a
    ·have z':=(ND hb).symm.trans z;cases z'
     subst hb;exact⟨ha,by rw[HU];exact hl,vs,_,rv,ha⟩
    ·have z':=(Nz hb).symm.trans z;cases z'
   ·by_cases hb:b=a
    ·exact hb
    ·exact Ny (Nz hb) z
abbrev ia {K:MO}{h:Heap}(_:K.In h):MO:=K
def cS (s:Stmt):Arguments:=match s with
 | .FunctionDef _ a _ _ _ _ _ _ _ _=>a
 | _=>{posonlyargs:=[],args:=[],vararg:=none,kwonlyargs:=[],kw_defaults:=[],kwarg:=none,defaults:=[]}
def ba (s:Stmt):List Stmt:=match s with
 | .FunctionDef _ _ b _ _ _ _ _ _ _=>b
 | _=>[]
def ak (s:Stmt):Scope:=match s with
 | .FunctionDef _ _ _ _ _ _ sc _ _ _=>sc
 | _=>{kind:=.function,names:=[],isGenerator:=false,isCoroutine:=false}
abbrev cW:h7:=λ_ _ _ _ _ _=>False
abbrev E0:XK:=λ_ _ _=>False
variable {X:Cx}
theorem yC :Passes cW X E0:=λ_ _ _ _ _ _ _ h=>h.elim
structure cY (K:MO)(x qual:Str)(st:Stmt)(f:Addr)(fd:Kn):Prop where
 ex:∃(oc:Value)(od:Option Addr)(kV doc pm:Value)(an:Option Addr)(NK ct:Value)(OB:Array Hu),
  fd=MW x qual (cS st) (ba st) (ak st) .none kV doc pm an NK ct/\K.lookup f=some ⟨oc,od,.func fd,OB⟩/\M5 K NK qual=true
 kp:MT K (.ref f)=true
variable {ps:Ht}
section
variable {base:Heap}
variable {x qual:Str}{st:Stmt}{f:Addr}
theorem cY.ok {N:Ht}{k:Nat}(F:cY K x qual st f fd)(S:bq N ps (ak st))(len:∀vs H Q E,sp vs H Q E->vs.length=ps.length)(N5:∀(NK:Value)(A:Kj)(outer:List Env)(s:Kc)(H:Hp)(vs:List V)(Q:VK)(E:XK),bz k (A.deeper (J4 qual (ak st) s.heap.objs.size f NK))->sp vs H Q E->
  ∃t,hJ (aT cW P w K mg base N qual (ak st) f NK A outer s H E).bV (ba st) t/\t {nx:=λ_ H'=>Q .NS H',rt:=Q} (start N vs) H):ck P w K mg base cW (k+1) f fd ps sp:=by
 obtain⟨oc,od,kV,doc,pm,an,NK,ct,OB,rfl,lk,NV⟩:=F.ex;refine oU lk NV S len λA outer s H vs Q E hr Pm=>?_;obtain⟨t,h,q⟩:=N5 NK A outer s H vs Q E hr Pm;exact⟨t,h.bV,q⟩
theorem cY.binds (F:cY K x qual st f fd)(h:∀(kV doc pm:Value)(an:Option Addr)(NK ct:Value)(us:Hw),us.length=ps.length->LP (MW x qual (cS st) (ba st) (ak st) .none kV doc pm an NK ct) ⟨us,[]⟩=pure (ps.zip us)):Binds K fd ps []:=by
 obtain⟨oc,od,kV,doc,pm,an,NK,ct,OB,rfl,lk,NV⟩:=F.ex;exact .all (h kV doc pm an NK ct)
theorem eY {oc:Value}{od an:Option Addr}{OB:Array Hu}{kV doc pm NK ct:Value}(l:K.lookup f=some ⟨oc,od,.func (MW x qual (cS st) (ba st) (ak st) .none kV doc pm an NK ct),OB⟩)(c:M5 K NK qual=true)(k:MT K (.ref f)=true):cY K x qual st f (MW x qual (cS st) (ba st) (ak st) .none kV doc pm an NK ct):=⟨⟨oc,od,kV,doc,pm,an,NK,ct,OB,rfl,l,c⟩,k⟩
end
variable {H H':Hp}
theorem jv {A B:Prop}(h:B):if false=true then A else B:=by
 rw[Nz HE];exact h
theorem ij {A B:Prop}(h:A):if true=true then A else B:=by
 rw[ND rfl];exact h
def ay (H H':Hp):Prop:=∀b o,H b=some o->H' b=some o
theorem ay.refl (H:Hp):ay H H:=λ_ _ h=>h
theorem ay.trans {H1 H2:Hp}(a:ay H H1)(b:ay H1 H2):ay H H2:=λc o h=>b c o (a c o h)
theorem ay.free (e:ay H H'){l:Addr}(h:H' l=Option.none):H l=Option.none:=by
 cases q:H l with
 | none=>rfl
 | some o=>
   rw[e l o q] at h;cases h
theorem ay.seq {a:Addr}{xs:List V}(e:ay H H')(h:bp K H a xs):bp K H' a xs:=by
 rcases h with(h | ⟨o,h⟩) | h
 ·exact .inl (.inl (e _ _ h))
 ·exact .inl (.inr ⟨o,e _ _ h⟩)
 ·exact .inr h
theorem nS:dD X (.builtin "len") (λxs H Q=>∃a kvs,xs=[V.ref a]/\H a=some (.dK kvs)/\Q (.int kvs.length) H):=by
 intro NI s σ H xs us Q I r h;obtain⟨a,kvs,rfl,ha,q⟩:=h;obtain⟨u,rfl,ru⟩:=vals1 r;cases ru
 exact EH I (.inl ha) λt s' I'=>⟨.int kvs.length,H,I',⟨t,rfl⟩,q⟩
section
variable {κ:Type} [DecidableEq κ]
theorem iA:∀{l:List κ}{k:κ},l.Nodup->¬k∈l->(l++[k]).Nodup
 | [],k,_,_=>by simp
 | a::r,k,h,hk=>by
   obtain⟨h1,h2⟩:=Jn.mp h;show(a::(r++[k])).Nodup;refine Jn.mpr ⟨λm=>?_,iA h2 λm=>hk (Ih.mpr (J2 m))⟩;rcases Ij.mp m with q | q
   ·exact h1 q
   ·exact hk (Ih.mpr (J3 (HX.mp q).symm))
end
variable {NI:Hr}{σ:St}
section
variable {elt target iter:Expr}{ifs:Hx}{scope:Scope}{pos:Pos}{s:Kc}{cl:List (Str×Addr)}{fr:Ht}{ix:List Nat}{wi:TI}{g:TG}{tc:TT}{te:TE}
def bE (X:Cx)(scope:Scope)(cl:List (Str×Addr))(C:Addr)(N':Ht)(s:Kc)(H:Hp)(ex:Hv):Cx:=
 {X with N:=N',s₀:=s,H₀:=H,env:=compEnvC scope cl C X.env,outer:=X.stack,stack:=X.stack,ex:=ex,fn:=λ_=>false,pn:=[],xe:=λ_ _=>False}
def PF (X:Cx)(ifs:Hx)(t:TT):Prop:=
 ∀(NI:Hr)(s:Kc)(σ:St)(H:Hp)(Q:Bool->Hp->Prop),Inv X NI σ H s->t σ H Q->
  wpAny (model X.prog X.w) X.A (forIn ifs true λc r=>if r=true then do let ok ← K4 c X.env (eval c X.env);pure (HQ ok) else pure (HQ r)) (TP X NI σ Q) X.xe s
def GH:TT:=λ_ H Q=>Q true H
theorem BE:PF X [] GH:=by
 intro NI s σ H Q I h;exact Kg ⟨H,I,h⟩
theorem BR {c:Expr}{t:TT}(hc:PT X c t):PF X [c] t:=by
 intro NI s σ H Q I h;show wpAny _ _ (forIn [c] true λc r=>_) _ _ s;rw[JF];simp only[if_true,forIn_nil];refine Kb (Kb (Kl (hc NI s σ H Q I h) (λb s1 h1=>?_) λ_ _ e=>e));exact Kg (Kg h1)
theorem qg {prog:Kh}{A:Kj}{R:Result->Kc->Prop}{it acc:Value}{env:Env}(I:Nat->Kc->Prop)(turn:∀n s,I n s->wpAny (model prog w) A (LH it) (λr s₁=>match r with
  | none=>R (.ok .next) s₁
  | some v=>wpAny (model prog w) A (Lh target it v) (λ_ s₁'=>wpAny (model prog w) A (K5 target env v) (λ_ s₂=>
   wpAny (model prog w) A (forIn ifs true λc r=>if r=true then do let ok ← K4 c env (eval c env);pure (HQ ok) else pure (HQ r)) (λok s₃=>
    if ok=true then wpAny (model prog w) A (eval elt env) (λx s₄=>
     wpAny (model prog w) A (call (.builtin "list.append") [acc,x]) (λ_ s₅=>∃m,m<n/\I m s₅) (λ_ _=>False) s₄) (λ_ _=>False) s₃
    else∃m,m<n/\I m s₃) (λ_ _=>False) s₂) (λ_ _=>False) s₁') (λ_ _=>False) s₁) (λ_ _=>False) s)(n:Nat)(h:I n s):
 Ll (model prog w) A (.compLoop (.ListComp elt [⟨target,iter,ifs,0⟩] scope pos) 0 it acc env) R s:=by
 have no:∀{α:Type}{t:Sem α}{Q:α->Kc->Prop}{E:Value->Kc->Prop}{s:Kc},wpAny (model prog w) A t Q (λ_ _=>False) s->wpAny (model prog w) A t Q E s:=λh=>Kl h (λ_ _ q=>q) λ_ _ f=>f.elim;refine codeAny_loop rfl I (λn s hI=>?_) n h;show wpAny _ A ((compTurn (.ListComp elt [⟨target,iter,ifs,0⟩] scope pos) 0 it acc env).onRaise (λx=>do noteFrame x env;theTreesLotGoes x)) _ _ s;refine wpAny_noted ?_;rw[compTurn_list];refine Kb (Le (Kb (Kl (no (turn n s hI)) (λr s₁ h₁=>?_) λ_ _ h'=>h')));cases r with
 | none=>exact Kg h₁
 | some v=>
   refine Kb (Kl (no h₁) (λ_ s₁' h₁'=>?_) λ_ _ h'=>h');refine Kb (Kl (no h₁') (λ_ s₂ h₂=>Kb (Kl (no h₂) (λok s₃ h₃=>?_) λ_ _ h'=>h')) λ_ _ h'=>h');cases ok with
   | false=>exact Kg ⟨rfl,h₃⟩
   | true=>
     exact Kb (Kb (Kl (no h₃) (λx s₄ h₄=>Kb (Kl (no h₄) (λ_ s₅ h₅=>Kg (Kg ⟨rfl,h₅⟩)) λ_ _ h'=>h')) λ_ _ h'=>h'))
def ug (wi:TI)(g:TG)(tc:TT)(te:TE)(z:St->St):TE:=λσ H Q=>wi σ H λJ H1=>
 ∃W:Nat->Nat->List V->St->Hp->Prop,(∃m,W 0 m [] (z σ) H1)/\∀i m ys σ' H',W i m ys σ' H'->
  ys.length<=Ke/\((J.stop i H'/\∀p,H' p=none->Q (.ref p) (upd H' p (.lst ys)))∨
  (J.go i H'/\∀x H2,J.Rr i H' x H2->g x σ' H2 λσ2 H3=>tc σ2 H3 λb H4=>
    if b=true then te σ2 H4 λv H5=>∃m',m'<m/\W (i+1) m' (ys++[v]) σ2 H5 else∃m',m'<m/\W (i+1) m' ys σ2 H4))
structure dU (X:Cx)(scope:Scope)(cl:List (Str×Addr))(own fr:Ht)(ix:List Nat):Prop where
 clos:closureFor scope X.env=pure cl
 cells:∀x c,cl.lookup x=some c->X.env.cells.lookup x=some c
 kind:scope.kind= .function
 Qy:∀y∈scope.names,y.2≠ .cell
 names:∀y∈scope.names,y.2= .local->scope.names.lookup y.1=some .local
 has:∀x,scope.names.lookup x=some .free->∃c,cl.lookup x=some c
 frees:∀x∈fr,scope.names.lookup x=some .free
 len:fr.length=ix.length
 at_:∀(k:Nat)(i:Nat)(x:Str),ix[k]?=some i->fr[k]?=some x->X.N[i]?=some x/\X.env.kindOf x=some .cell
theorem fK {env:Env}:∀{names:List (Str×KZ)}{x:Str}{k:KZ},
 (names.map λ(n,k)=>if(k==KZ.free&&env.scope.kind== .function&&env.kindOf n==some .cell) then(n,KZ.cell) else(n,k)).lookup x=some k->
 ∃k',names.lookup x=some k'/\(k=k'∨(k'= .free/\k= .cell))
 | [],_,_,h=>by simp at h
 | (n,k)::r,x,kk,h=>by
   have ih:=@fK env r x kk;replace h:IP x ((if(k==KZ.free&&env.scope.kind== .function&&env.kindOf n==some .cell)=true then(n,KZ.cell) else(n,k))::_)=some kk:=h;by_cases hc:(k==KZ.free&&env.scope.kind== .function&&env.kindOf n==some .cell)=true
   ·rw[ND hc] at h;cases hx:x==n with
    | true=>
      simp only[IH,hx,Option.some.injEq] at h ⊢;have hk:k= .free:=by
       simp only[HF] at hc;exact eq_of_beq hc.1.1
      exact⟨k,rfl,.inr ⟨hk,h.symm⟩⟩
    | false=>
      simp only[IH,hx] at h ⊢;exact ih h
   ·rw[Nz hc] at h;cases hx:x==n with
    | true=>
      simp only[IH,hx,Option.some.injEq] at h ⊢;exact⟨k,rfl,.inl h.symm⟩
    | false=>
      simp only[IH,hx] at h ⊢;exact ih h
theorem jt {env:Env}(hf:env.scope.kind= .function):∀{names:List (Str×KZ)}{x:Str},names.lookup x=some .free->env.kindOf x=some .cell->
 (names.map λ(n,k)=>if(k==KZ.free&&env.scope.kind== .function&&env.kindOf n==some .cell) then(n,KZ.cell) else(n,k)).lookup x=some .cell
 | [],_,h,_=>by simp at h
 | (n,k)::r,x,h,hk=>by
   have ih:=@jt env hf r x;show IP x ((if(k==KZ.free&&env.scope.kind== .function&&env.kindOf n==some .cell)=true then(n,KZ.cell) else(n,k))::_)=_;cases hx:x==n with
   | true=>
     simp only[IH,hx,Option.some.injEq] at h;have e:x=n:=eq_of_beq hx;subst e;subst h;rw[ND (by rw[hf,hk];rfl)];simp[IH]
   | false=>
     simp only[IH,hx] at h;split
     ·simp only[IH,hx];exact ih h hk
     ·simp only[IH,hx];exact ih h hk
def eZ (own:Ht)(ix:List Nat)(σ:St):St:=HZ own.length none++ix.map λi=>(σ[i]?).join
structure Off (X:Cx)(NI:Hr)(H:Hp)(s:Kc)(C:Addr):Prop where
 ns:∃m,s.heap.Ns C m
 free:H C=none
 ne:C≠X.env.locals
 young:X.s₀.heap.objs.size<=C
 cell:∀x c,X.env.cells.lookup x=some c->c≠C
 pin:∀p∈X.pn++NI,p.1≠C
theorem oj {own:Ht}{use:Option (Value->Sem Unit)}{Qf:Value->Kc->Prop}{Q:VK}(hc:X.calm=true)(S:dU X scope cl own fr ix)(hi:PI X target iter wi)(hb:∀(C:Addr)(s:Kc)(H:Hp)(ex:Hv),PG (bE X scope cl C (own++fr) s H ex) target g/\PF (bE X scope cl C (own++fr) s H ex) ifs tc/\PE (bE X scope cl C (own++fr) s H ex) elt te)(hs:∀x,KC iter X.env x=pure x)(I:Inv X NI σ H s)(h:ug wi g tc te (eZ own ix) σ H Q)(hfin:∀(D C:Addr)(H6:Hp)(s6:Kc),Inv X NI σ H6 s6->Off X NI H6 s6 C->Q (.ref D) H6->compPost (model X.prog X.w) X.A X.xe use Qf (.ref D) C (.ok .next) s6):
 wpAny (model X.prog X.w) X.A (comprehension (.ListComp elt [⟨target,iter,ifs,0⟩] scope pos) scope X.env (firstIterPos [⟨target,iter,ifs,0⟩] pos) (newList []) false (eval iter X.env) use) Qf X.xe s:=by
 refine wpAny_comprehension_free (use:=use) rfl hs S.clos S.kind S.names ?_;refine aJ (hi NI s σ H _ I h) λv s1 h1=>aJ h1 λitv s2 h2=>?_;obtain⟨it,fp,tn,J,H2,rfl,I2,T,Qh,f2,W,⟨m0,w0⟩,turn⟩:=h2;refine KD (wpAny_newFunctionEnv S.Qy (by intro y hy;simp at hy) (λh₁ hns₁ hsb₁=>?_) S.kind);dsimp only at hns₁ hsb₁ ⊢;generalize hH3:s2.heap.push {cls:=.type "list",dict:=none,data:=.seq ([]:Hw).toArray}=h3 at hns₁ hsb₁ ⊢;have hC:h3.objs.size=s2.heap.objs.size+1:=by rw[← hH3,Mq]
 have to3:∀b o,s2.heap.get? b=some o->h3.get? b=some o:=λb o e=>by rw[← hH3];exact Mn _ e
 have SA:h3.get? s2.heap.objs.size=some {cls:=.type "list",data:=.seq ([]:Hw).toArray}:=by rw[← hH3];exact Mp _ rfl
 have QG:∀b o,h3.get? b=some o->h₁.get? b=some o:=λb o e=>hsb₁.extBut b o (JL (Mo e)) (Mn _ e);have frD:∀{b:Addr},b∈fp->b≠s2.heap.objs.size:=λ{b} hb z=>by
  obtain⟨o,e,_⟩:=T.obj 0 _ Qh b hb;exact Ny (Mo e) (by rw[z];exact JP _)
 have frC:∀{b:Addr},b∈fp->b≠h3.objs.size:=λ{b} hb z=>by
  obtain⟨o,e,_⟩:=T.obj 0 _ Qh b hb;exact Ny (Mo e) (by rw[z,hC];exact JV.mpr (JR _))
 have HD2:H2 s2.heap.objs.size=none:=I2.NN.fresh (JI _)
 -- Rv block's context
 let X':Cx:=bE X scope cl h3.objs.size (own++fr) {s2 with heap:=h3} H2 (s2.heap.objs.size::fp)
 have Ry:X'.Ok:=by
  refine⟨I2.ok.mod,S.kind,I2.ok.glob,I2.ok.blt,JI _,λx y c e1 e2=>I2.ok.inj x y c (S.cells x c e1) (S.cells y c e2),λx hx=>?_,λx c z=>?_,I2.ok.hd,I2.ok.frames,.inl rfl,λb hb=>?_,λb o e=>?_,?_,λb o e hb=>?_,λb hb z=>?_,?_,I2.gJ⟩
  ·have key:scope.names.lookup x=some .free:=by
    have hx:(relabel scope X.env).names.lookup x=some .cell∨(relabel scope X.env).names.lookup x=some .free:=hx;rcases hx with hx | hx
    ·obtain⟨k',e,z⟩:=fK hx;rcases z with z | z
     ·subst z;exact Ny rfl (S.Qy _ (Kr e))
     ·rw[e,z.1]
    ·obtain⟨k',e,z⟩:=fK hx;rcases z with z | z
     ·subst z;exact e
     ·cases z.2
   exact S.has x key
  ·cases z
  ·rcases Ih.mp hb with rfl | hb
   ·refine⟨by rw[show X'.env.locals=h3.objs.size from rfl,hC];exact JL (JQ _),λx c e z=>?_⟩;obtain⟨v',q⟩:=I2.cell x c (S.cells x c e);exact Ny q.lt (by rw[z];exact JP _)
   ·exact⟨frC hb,λx c e=>(f2 b hb).2.2.2.2.1 x c (S.cells x c e)⟩
  ·obtain⟨e1,e2⟩:=I2.bs b o e;exact⟨to3 b o e1,e2⟩
  ·show X.base.objs.size<=h3.objs.size;have:=I2.ok.PD;have:=I2.sz;omega
  ·rcases Ih.mp hb with rfl | hb
   ·exact Ny (Mo (I2.bs _ o e).1) (JP _)
   ·rcases(f2 b hb).2.2.2.1 with z | z
    ·exact I2.ok.ON b o e z
    ·exact Ny (JK (JK (Mo e) I2.ok.PD) z) (JP _)
  ·replace z:b∈bA X.stack:=z;rcases Ih.mp hb with rfl | hb
   ·obtain⟨_,o,ho,_⟩:=I2.stack.mem z;exact Ny (Mo ho) (JP _)
   ·rcases Ih.mp (I2.qE b z) with q | q
    ·exact(f2 b hb).2.1 q
    ·exact(f2 b hb).2.2.1 q
  ·exact I2.stack.of_keeps λb o e _=>⟨o,to3 b o e,rfl⟩
 have I4:Inv X' [] (eZ own ix σ) H2 {s2 with heap:=h₁,toks:=s2.toks+([]:List (Str×Value)).length}:=by
  refine⟨Ry,rfl,I2.bare,Un.kept QG,⟨_,hns₁,λi x v e1 e2 e3=>?_⟩,λx c e=>?_,I2.NN.fresh (by show s2.heap.objs.size<=h3.objs.size;rw[hC];exact JR _),λx c e=>I2.NZ x c (S.cells x c e),λp hp=>Ny (show p∈([]:Hr) from hp) (by simp),I2.NN.kept λb o e=>QG b o (to3 b o e),?_⟩
  ·replace e1:(own++fr)[i]?=some x:=e1;unfold eZ at e2;by_cases Oo:i<own.length
   ·rw[IF (by simpa using Oo),IW] at e2;split at e2<;>cases e2
   ·rw[IE (by simpa using Oo)] at e1 e2;rw[Iz,Ii] at e2;cases ek:ix[i-own.length]? with
    | none=>rw[ek] at e2;cases e2
    | some j=>
      rw[ek] at e2;obtain⟨n1,n2⟩:=S.at_ _ j x ek e1;have e2':σ[j]?=some (some v):=by
       have q:(σ[j]?).join=some v:=Option.some.inj e2;cases es:σ[j]? with
       | none=>rw[es] at q;cases q
       | some o=>rw[es] at q;exact congrArg some q
      obtain⟨m,hn,hl⟩:=I2.loc;obtain⟨u,r,l⟩:=hl j x v n1 e2' (.inr (.inl n2));refine⟨u,r,?_⟩;have QZ:scope.names.lookup x=some .free:=S.frees x (Iw e1);rcases l with⟨k,_⟩ | ⟨_,c,Rm,z⟩
      ·rw[n2] at k;cases k
      ·obtain⟨c',Pz⟩:=S.has x QZ;have q:=S.cells x c' Pz;rw[Rm] at q;cases q
       obtain⟨oc,ho,hd⟩:=z;exact .inr ⟨.inl (jt I2.ok.kind QZ n2),c,Pz,oc,QG _ _ (to3 _ _ ho),hd⟩
  ·obtain⟨v',oc,ho,hd⟩:=I2.cell x c (S.cells x c e);exact⟨v',oc,QG _ _ (to3 _ _ ho),hd⟩
  ·show(eZ own ix σ).length=(own++fr).length;unfold eZ;rw[HV,HV,Iz,HU,S.len]
 obtain⟨hg,hf,he⟩:=hb h3.objs.size {s2 with heap:=h3} H2 (s2.heap.objs.size::fp);have hg:PG X' target g:=hg;have hf:PF X' ifs tc:=hf;have he:PE X' elt te:=he;have locX:X'.env.locals=h3.objs.size:=rfl
 -- D's place
 have Dne:s2.heap.objs.size≠X'.env.locals:=by rw[locX,hC];exact JL (JQ _)
 have Dfs:s2.heap.objs.size∉X'.fs:=Ry.OH _ (Ic ..);have Dcl:∀x c,X'.env.cells.lookup x=some c->c≠s2.heap.objs.size:=λx c e=>(Ry.QF _ (Ic ..)).2 x c e;have fpX:∀{pl:Hr}{H':Hp},(∀p∈pl,p.1=s2.heap.objs.size)->(∀b∈fp,H' b=none)->∀b∈fp,ib X' pl H' b:=λhp hn b hb=>
  ⟨hn b hb,frC hb,Ry.OH b (Ia _ hb),.inl (Ia _ hb),(Ry.QF b (Ia _ hb)).2,λp q=>by
   rw[hp p (by simpa[show X'.pn=[] from rfl] using q)];exact JX (frD hb)⟩
 have pinD:∀{σ':St}{H':Hp}{s':Kc}{o:Obj},Inv X' [] σ' H' s'->s'.heap.get? s2.heap.objs.size=some o->H' s2.heap.objs.size=none->(∀v,o.data≠ .cell v)->Inv X' [(s2.heap.objs.size,o)] σ' H' s':=λI e n d=>
  I.gI λp hp=>by
    obtain rfl:=HX.mp hp;exact⟨e,n,Dne,Dfs,d⟩
 have loop:Ll (model X.prog X.w) X.A (.compLoop (.ListComp elt [⟨target,iter,ifs,0⟩] scope pos) 0 (.ref it) (.ref s2.heap.objs.size) X'.env)
  (compPost (model X.prog X.w) X.A X.xe use Qf (.ref s2.heap.objs.size) h3.objs.size) {s2 with heap:=h₁,toks:=s2.toks+([]:List (Str×Value)).length}:=by
  refine qg (λn s'=>∃i ys NJ k σ' H',Inv X' [] σ' H' s'/\tn i s'.heap/\(∀b∈fp,H' b=none)/\H' s2.heap.objs.size=none/\Vals ys NJ/\s'.heap.get? s2.heap.objs.size=some {cls:=.type "list",data:=.seq NJ.toArray k}/\W i n ys σ' H')
   ?_ m0 ⟨0,[],[],0,_,H2,I4,T.keep 0 _ _ Qh λb _ o e=>QG b o (to3 b o e),λb OM=>(f2 b OM).1,HD2,.nil,QG _ _ SA,w0⟩
  rintro n s5 ⟨i,ys,NJ,k,σ5,H5,I5,Q6,fr5,hD5,Rt,get5,w5⟩;obtain⟨hlen,alt⟩:=turn i n ys σ5 H5 w5;have P5:=pinD I5 get5 hD5 (λv z=>by cases z);have okp:∀p∈[(s2.heap.objs.size,({cls:=.type "list",data:=.seq NJ.toArray k}:Obj))],p.1=s2.heap.objs.size:=λp hp=>by
   rw[HX.mp hp]
  rcases alt with⟨stop,q⟩ | ⟨go,step⟩
  ·refine aJ (T.done X' rfl rfl rfl hc i _ s5 σ5 H5 _ P5 (fpX okp fr5) Q6 stop) λr s6 ⟨hr,I6⟩=>?_;subst hr;obtain⟨m6,hn6,_⟩:=I6.loc;obtain⟨get6,_,_,_,_⟩:=I6.pin (s2.heap.objs.size,({cls:=.type "list",data:=.seq NJ.toArray k}:Obj)) (Ie _ (HX.mpr rfl));have Ru:∀b o,b≠h3.objs.size->s6.heap.get? b=some o->s6.heap.get? b=some o:=λb o hb e=>e;have exn:∀{b:Addr}{o:Obj},s2.heap.get? b=some o->b∉fp->b∉X'.ex:=λ{b o} e hb z=>by
    rcases Ih.mp z with z | z
    ·exact Ny (Mo e) (by rw[z];exact JP _)
    ·exact hb z
   have PQ:∀{b:Addr}{o:Obj},s2.heap.get? b=some o->b≠h3.objs.size:=λ{b o} e z=>by
    have q1:=Mo e;rw[z,hC] at q1;exact Ny q1 (JV.mpr (JR _))
   have neD:∀{b:Addr}{o:Obj},s2.heap.get? b=some o->b≠s2.heap.objs.size:=λ{b o} e=>JL (Mo e);have QM:∀{b:Addr}{o:HO},H2 b=some o->b≠s2.heap.objs.size:=λ{b o} e=>cu e HD2;have U:Un (bA X.stack) fp H2 (upd H5 s2.heap.objs.size (.lst ys)) s2.heap s6.heap:=by
    refine⟨λb o e n hb hx=>?_,λb o e n hb hx=>?_,λb o e n hx=>?_,λb o e hx=>?_,λb xs e=>?_,λb o u e=>?_,λb ps e=>?_⟩
    ·exact Ru b o (PQ e) (I6.base.keep b o (to3 b o e) n hb (exn e hx))
    ·obtain⟨sl,q1⟩:=I6.base.slot b o (to3 b o e) n hb (exn e hx);exact⟨sl,Ru b _ (PQ e) q1⟩
    ·rw[aB (neD e)];exact I6.base.free b o (to3 b o e) n (exn e hx)
    ·obtain⟨o',q1⟩:=I6.base.there b o (to3 b o e) (exn e hx);exact⟨o',Ru b _ (PQ e) q1⟩
    ·rw[aB (QM e)];exact I6.base.N9 b xs e
    ·rw[aB (QM e)];exact I6.base.N7 b o u e
    ·rw[aB (QM e)];exact I6.base.Oa b ps e
   have HC:H5 h3.objs.size=none:=I6.free;have NN:bT X.prog X.w (upd H5 s2.heap.objs.size (.lst ys)) s6.heap:=λb u e=>by
    by_cases hbD:b=s2.heap.objs.size
    ·subst hbD;rw[aD] at e;cases e
     exact⟨hlen,NJ,k,Rt,Ru _ _ (by rw[hC];exact JL (JQ _)) get6⟩
    ·rw[aB hbD] at e;refine(I6.NN b u e).fC (λc o Rl q1=>Ru c o (λz=>?_) q1) (λc q1=>by rw[aB (cu q1 hD5)];exact q1) λc xs q1=>by rw[aB (cu q1 hD5)];exact q1
     rcases Rl with Rl | Rl
     ·rw[← Rl,z,HC] at e;cases e
     ·rw[z,HC] at Rl;cases Rl
   have fin:=I2.ud (s':=s6) (ch:=fp) I6.os U NN I6.bare λb OM=>⟨(f2 b OM).2.2.2.1,(f2 b OM).2.1,(f2 b OM).2.2.2.2.1,(f2 b OM).2.2.2.2.2⟩;refine hfin _ h3.objs.size _ s6 fin ⟨⟨m6,hn6⟩,?_,?_,?_,λx c e z=>?_,λp hp z=>?_⟩ (q _ hD5)
   ·rw[aB (by rw[hC];exact JU (JQ _))];exact HC
   ·intro z;have:=I2.lt;rw[← z,hC] at this;exact Ny this (JV.mpr (JR _))
   ·rw[hC];exact JJ I2.sz (JR _)
   ·obtain⟨v',q1⟩:=I2.cell x c e;have:=q1.lt;rw[z,hC] at this;exact Ny this (JV.mpr (JR _))
   ·have:=Mo (I2.pin p hp).1;rw[z,hC] at this;exact Ny this (JV.mpr (JR _))
  ·refine aJ (T.item X' rfl rfl rfl hc i _ s5 σ5 H5 _ P5 (fpX okp fr5) Q6 go) λr s6 ⟨u,hr,h6⟩=>?_;subst hr;refine aJ h6 λ_ s7 ⟨x,H7,I7,r7,y7,st7,fr7⟩=>?_;have I7':=I7.pinned (fpX okp fr7) (T.obj _ _ st7);refine aJ (hg _ s7 σ5 H7 x u _ I7' r7 (step x H7 y7)) λ_ s8 ⟨σ8,H8,I8,q8⟩=>?_;refine aJ (hf _ s8 σ8 H8 _ I8 q8) λb s9 ⟨H9,I9,q9⟩=>?_;have out:∀{σ':St}{H':Hp}{s':Kc},Inv X' ([(s2.heap.objs.size,({cls:=.type "list",data:=.seq NJ.toArray k}:Obj))]++iu fp s7.heap) σ' H' s'->
    tn (i+1) s'.heap/\(∀b∈fp,H' b=none)/\H' s2.heap.objs.size=none/\s'.heap.get? s2.heap.objs.size=some {cls:=.type "list",data:=.seq NJ.toArray k}:=λI'=>by
    refine⟨T.keep _ _ _ st7 λb OM o e=>(I'.pin (b,o) (Ie _ (Ie _ (gv OM e)))).1,λb OM=>?_,(I'.pin (s2.heap.objs.size,({cls:=.type "list",data:=.seq NJ.toArray k}:Obj)) (Ie _ (Ik _ (HX.mpr rfl)))).2.1,(I'.pin (s2.heap.objs.size,({cls:=.type "list",data:=.seq NJ.toArray k}:Obj)) (Ie _ (Ik _ (HX.mpr rfl)))).1⟩;obtain⟨o,e,d⟩:=T.obj _ _ st7 b OM;exact(I'.pin (b,o) (Ie _ (Ie _ (gv OM e)))).2.1
   cases b with
   | false=>
     rw[Nz HE] at q9 ⊢;obtain⟨m',hm,w'⟩:=q9;obtain⟨o1,o2,o3,o4⟩:=out I9;exact⟨m',hm,i+1,ys,NJ,k,σ8,H9,I9.gI (λ_ z=>nomatch z),o1,o2,o3,Rt,o4,w'⟩
   | true=>
     rw[ND rfl] at q9 ⊢;refine aJ (he _ s9 σ8 H9 _ I9 q9) λuv s10 ⟨v10,H10,I10,r10,q10⟩=>?_;obtain⟨m',hm,w'⟩:=q10;obtain⟨o1,o2,o3,o4⟩:=out I10;refine wpAny_list_append_plain ⟨k,o4⟩ (λh' N8 Oq=>?_) (by
      have:=Rt.length;rw[Ig,← this];exact hlen)
     obtain⟨k',Pp⟩:=N8;have I11:Inv X' (iu fp s7.heap) σ8 H10 s10:=I10.gI λp hp=>I10.pin p (Ie _ (Ie _ hp));have I12:Inv X' [] σ8 H10 {s10 with heap:=h'}:=(I10.gI (λ_ z=>nomatch z):Inv X' [] σ8 H10 s10).turned (t':=s10.toks) (λb o OM e=>Oq.extBut b o OM e) o3 Dne (.inl (Ic ..)) Dcl (λp hp=>Ny (show p∈([]:Hr) from hp) (by simp));refine⟨m',hm,i+1,ys++[v10],NJ++[uv],k',σ8,H10,I12,T.keep _ _ _ o1 λb OM o e=>Oq.extBut b o (frD OM) e,o2,o3,Rt.append (.cons r10 .nil),?_,w'⟩;show h'.get? _=_;rw[Pp];simp
 exact codeAny_compStart_list loop (T.self X.A 0 _ _ _ (T.keep 0 _ _ Qh λb _ o e=>QG b o (to3 b o e)) loop)
theorem Off.gone {C:Addr}{h':Heap}(o:Off X NI H s C)(I:Inv X NI σ H s)(Oq:Ms C s.heap h'):Inv X NI σ H {s with heap:=h'}:=
 I.turned (t':=s.toks) (λb u hb e=>Oq.extBut b u hb e) o.free o.ne (.inr o.young) o.cell o.pin
theorem yT {own:Ht}(hc:X.calm=true)(S:dU X scope cl own fr ix)(hi:PI X target iter wi)(hb:∀(C:Addr)(s:Kc)(H:Hp)(ex:Hv),PG (bE X scope cl C (own++fr) s H ex) target g/\PF (bE X scope cl C (own++fr) s H ex) ifs tc/\PE (bE X scope cl C (own++fr) s H ex) elt te)(hs:∀x,KC iter X.env x=pure x:=by intro _;rfl):
 PE X (.ListComp elt [⟨target,iter,ifs,0⟩] scope pos) (ug wi g tc te (eZ own ix)):=by
 intro NI s σ H Q I h;rw[eval_ListComp];refine oj (use:=none) hc S hi hb hs I h λD C H6 s6 I6 o6 q=>?_;obtain⟨m,hn⟩:=o6.ns;exact⟨m,hn,λh' Oq=>⟨.ref D,H6,o6.gone I6 Oq,rfl,q⟩⟩
theorem sV {i:Nat}{y:Str}{py PL:Pos}{own:Ht}(OU:Km (.ListComp elt [⟨target,iter,ifs,0⟩] scope pos) (some (.Name y py)) PL.line X.env=pure true)(hN:X.N.Nodup)(hi':X.N[i]?=some y)(hx:Loc X.env.scope y)(hc:X.calm=true)(S:dU X scope cl own fr ix)(hi:PI X target iter wi)(hb:∀(C:Addr)(s:Kc)(H:Hp)(ex:Hv),PG (bE X scope cl C (own++fr) s H ex) target g/\PF (bE X scope cl C (own++fr) s H ex) ifs tc/\PE (bE X scope cl C (own++fr) s H ex) elt te)(hs:∀x,KC iter X.env x=pure x:=by intro _;rfl)(hf:X.fn y=true∨X.env.scope.names.lookup y=some .local:=by first | exact .inl rfl | exact .inr rfl | assumption):
 PS X (.Assign [.Name y py] (.ListComp elt [⟨target,iter,ifs,0⟩] scope pos) PL) (xO (ug wi g tc te (eZ own ix)) (uo i)):=by
 intro NI s σ H D I h;rw[exec_Assign_Name_used _ _ _ _ OU];refine Kb (Le (Kb ?_));show wpAny _ _ (do let _ ← comprehension (.ListComp elt [⟨target,iter,ifs,0⟩] scope pos) scope X.env _ (newList []) false (eval iter X.env) (some (K5 (.Name y py) X.env))) _ _ s;refine Kb (Kl (oj (use:=some (K5 (.Name y py) X.env)) (Qf:=λ_ s'=>SP X NI D .next s') hc S hi hb hs I h λA C H6 s6 I6 o6 q=>?_) (λ_ s' hq=>Kg (Kg hq)) λ_ _ e=>e);show wpAny _ _ (K5 (.Name y py) X.env (.ref A)) _ _ _;refine wpAny_assign_Name (n9 I6 hN hi' hx (v:=.ref A) rfl (λs7 I7 hw=>?_) hf);obtain⟨c,RO,QE⟩:=hw;have PQ:C≠c:=by
  rcases QE with rfl | QE
  ·exact o6.ne
  ·exact JX (o6.cell y c QE)
 obtain⟨m,hn⟩:=o6.ns;have o7:Off X NI H6 s7 C:=⟨⟨m,hn.sameBut RO PQ⟩,o6.free,o6.ne,o6.young,o6.cell,o6.pin⟩;exact⟨m,hn.sameBut RO PQ,λh' Oq=>⟨_,H6,o7.gone I7 Oq,q⟩⟩
end
end L2
namespace Fc
open PySem PySem.Spec PySem.W PySem.Calls L2
open PyProof.Rows hiding St
variable {X:Cx}{e:Expr}{σ:St}{H:Hp}{v:V}{D:Ends}{Q:VK}
section
variable {t:TT}{Q:Bool->Hp->Prop}
def fD (X:Cx)(e:Expr):TE:=λσ H Q=>∀(NI:Hr)(s:Kc),Inv X NI σ H s->wpAny (model X.prog X.w) X.A (eval e X.env) (EP X NI σ Q) X.xe s
def jg (X:Cx)(e:Expr):TT:=λσ H Q=>∀(NI:Hr)(s:Kc),Inv X NI σ H s->wpAny (model X.prog X.w) X.A (K4 e X.env (eval e X.env)) (TP X NI σ Q) X.xe s
def xf (X:Cx)(e:Expr):TT:=λσ H Q=>∀(whole:Sem Value)(NI:Hr)(s:Kc),Inv X NI σ H s->wpAny (model X.prog X.w) X.A (K4 e X.env whole) (TP X NI σ Q) X.xe s
def mK (X:Cx)(e:Expr):TG:=λv σ H Q=>∀(NI:Hr)(s:Kc)(u:Value),Inv X NI σ H s->RelV v u->wpAny (model X.prog X.w) X.A (K5 e X.env u) (λ_ s'=>∃σ' H',Inv X NI σ' H' s'/\Q σ' H') X.xe s
def kF (X:Cx)(st:Stmt):TS:=λD σ H=>∀(NI:Hr)(s:Kc),Inv X NI σ H s->wpAny (model X.prog X.w) X.A (exec st X.env) (SP X NI D) X.xe s
def e8 (X:Cx)(st:List Stmt):TS:=λD σ H=>∀(NI:Hr)(s:Kc),Inv X NI σ H s->wpAny (model X.prog X.w) X.A (execs st X.env) (SP X NI D) X.xe s
def jD (X:Cx)(es:Hx):TA:=λσ H Q=>∀(pos:Pos)(NI:Hr)(s:Kc),Inv X NI σ H s->wpAny (model X.prog X.w) X.A (spliced (Ko pos (Kf es X.env))) (AP X NI σ Q) X.xe s
def p7 (X:Cx)(ifs:Hx):TT:=λσ H Q=>∀(NI:Hr)(s:Kc),Inv X NI σ H s->
 wpAny (model X.prog X.w) X.A (forIn ifs true λc r=>if r=true then do let ok ← K4 c X.env (eval c X.env);pure (HQ ok) else pure (HQ r)) (TP X NI σ Q) X.xe s
theorem aQ:PE X e (fD X e):=λNI s _ _ _ I h=>h NI s I
theorem jJ:PT X e (jg X e):=λNI s _ _ _ I h=>h NI s I
theorem Cf:PW X e (xf X e):=λwh NI s _ _ _ I h=>h wh NI s I
theorem pgS:PG X e (mK X e):=λNI s _ _ _ u _ I r h=>h NI s u I r
theorem sD {e:Stmt}:PS X e (kF X e):=λNI s _ _ _ I h=>h NI s I
theorem dQ {e:List Stmt}:hJ X e (e8 X e):=λNI s _ _ _ I h=>h NI s I
theorem kE {e:Hx}:PA X e (jD X e):=λpos NI s _ _ _ I h=>h pos NI s I
theorem eS {t:TE}(h:PE X e t){Q:VK}(q:t σ H Q):fD X e σ H Q:=λNI s I=>h NI s σ H Q I q
theorem tS (h:PT X e t)(q:t σ H Q):jg X e σ H Q:=λNI s I=>h NI s σ H Q I q
theorem wS (h:PW X e t)(q:t σ H Q):xf X e σ H Q:=λwh NI s I=>h wh NI s σ H Q I q
theorem gS {t:TG}(h:PG X e t){Q:St->Hp->Prop}(q:t v σ H Q):mK X e v σ H Q:=λNI s u I r=>h NI s σ H v u Q I r q
theorem sS {e:Stmt}{t:TS}(h:PS X e t)(q:t D σ H):kF X e D σ H:=λNI s I=>h NI s σ H D I q
theorem n5 {e:List Stmt}{t:TS}(h:hJ X e t)(q:t D σ H):e8 X e D σ H:=λNI s I=>h NI s σ H D I q
theorem aS {e:Hx}{t:TA}(h:PA X e t){Q:List V->Hp->Prop}(q:t σ H Q):jD X e σ H Q:=λpos NI s I=>h pos NI s σ H Q I q
theorem fS {e:Hx}(h:PF X e t)(q:t σ H Q):p7 X e σ H Q:=λNI s I=>h NI s σ H Q I q
end
variable {R:Hp}{α:Type}
section
variable {p:Addr}
theorem ay.fresh (h:H p=none)(o:HO):ay H (upd H p o):=λb u q=>by rw[aB (cu q h)];exact q
structure Rep (α:Type) where
 R:MO->Hp->V->α->Prop
 mono:∀{K:MO}{H H':Hp}{v:V}{x:α},ay H H'->R K H v x->R K H' v x
def ai:Rep Int:=⟨λ_ _ v x=>v= .int x,λ_ h=>h⟩
def aY:Rep Bool:=⟨λ_ _ v x=>v= .bl x,λ_ h=>h⟩
theorem Paired.map {β:Type}{F G:α->β->Prop}(f:∀a b,F a b->G a b):∀{l:List α}{m:List β},PySem.Paired F l m->PySem.Paired G l m
 | _,_,.nil=>.nil
 | _,_,.cons h t=>.cons (f _ _ h) (Paired.map f t)
def ag (r:Rep α):Rep (List α):=⟨λK H v xs=>∃a vs,v= .ref a/\H a=some (.lst vs)/\PySem.Paired (r.R K H) vs xs/\xs.length<=Ke,
 λs ⟨a,vs,e,q,p,z⟩=>⟨a,vs,e,s _ _ q,Paired.map (λ_ _=>r.mono s) p,z⟩⟩
def bI:Rep Hs:=⟨λK H v xs=>∃a,v= .ref a/\bp K H a (xs.map V.int)/\xs.length<=63,λs ⟨a,e,q,z⟩=>⟨a,e,s.seq q,z⟩⟩
def de {β:Type}(r:Rep α)(r':Rep β):Rep (α×β):=⟨λK H v x=>∃a v1 v2,v= .ref a/\H a=some (.tup [v1,v2])/\r.R K H v1 x.1/\r'.R K H v2 x.2,
 λs ⟨a,v1,v2,e,q,h1,h2⟩=>⟨a,v1,v2,e,s _ _ q,r.mono s h1,r'.mono s h2⟩⟩
structure Ext (H R H' R':Hp):Prop where
 h:ay H H'
 r:ay R R'
 s:ay R' H'
 old:∀b,H b≠none->R' b=R b
theorem Ext.refl (s:ay R H):Ext H R H R:=⟨ay.refl _,ay.refl _,s,λ_ _=>rfl⟩
theorem ay.some {H':Hp}(s:ay H H'){b:Addr}(h:H b≠none):H' b≠none:=by
 cases q:H b with
 | none=>exact Ny q h
 | some o=>rw[s b o q];exact JY o
theorem Ext.trans {H1 R1 H2 R2:Hp}(a:Ext H R H1 R1)(b:Ext H1 R1 H2 R2):Ext H R H2 R2:=
 ⟨a.h.trans b.h,a.r.trans b.r,b.s,λc hc=>(b.old c (ay.some a.h hc)).trans (a.old c hc)⟩
theorem Ext.fresh (s:ay R H)(h:H p=none)(o:HO):Ext H R (upd H p o) (upd R p o):=
 ⟨ay.fresh h o,ay.fresh (s.free h) o,λb u q=>by
  by_cases e:b=p
  ·subst e;rw[aD] at q ⊢;exact q
  ·rw[aB e] at q ⊢;exact s b u q,λb hb=>aB λe=>hb (e▸h)⟩
theorem Ext.dq (s:ay R H)(h:H p=none)(o:HO):Ext H R (upd H p o) R:=
 ⟨ay.fresh h o,ay.refl _,s.trans (ay.fresh h o),λ_ _=>rfl⟩
structure Bh:Type 1 where
 fp:Hv
 R:MO->Hp->Hp->V->Prop
 loc:∀{K:MO}{H R0 H' R':Hp}{v:V},(∀a∈fp,H' a=H a)->ay R0 R'->R K H R0 v->R K H' R' v
 has:∀{K:MO}{H R0:Hp}{v:V},R K H R0 v->∀a∈fp,H a≠none
inductive Ent:Type 1
 | no
 | im {α:Type} (r:Rep α) (x:α)
 | mu {α:Type} (r:Rep α) (xs:List α)
 | di (kvs:List (Int×V))
 | ob (B:Bh)
def bR (kvs:List (Int×V)):List (Key×V):=kvs.map λp=>(Nv p.1,p.2)
def Ent.ok (K:MO)(H R:Hp):Ent->Option V->Prop
 | .no,_=>True
 | .im r x,o=>∃v,o=some v/\r.R K R v x
 | .mu r xs,o=>∃a vs,o=some (.ref a)/\H a=some (.lst vs)/\R a=none/\PySem.Paired (r.R K R) vs xs
 | .di kvs,o=>∃a,o=some (.ref a)/\H a=some (.dK (bR kvs))/\R a=none
 | .ob B,o=>(∃v,o=some v/\B.R K H R v)/\∀a∈B.fp,R a=none
def Ent.own:Ent->Bool
 | .mu .. =>true
 | .di .. =>true
 | _=>false
def refOf:Option V->Hv
 | some (.ref a)=>[a]
 | _=>[]
def Ent.fp:Ent->Option V->Hv
 | .mu ..,o=>refOf o
 | .di ..,o=>refOf o
 | .ob B,_=>B.fp
 | _,_=>[]
abbrev Ga:=List Ent
structure aA (K:MO)(σ:St)(H0 R0 H R:Hp)(Γ:Ga):Prop where
 ext:Ext H0 R0 H R
 ent:∀(i:Nat)(e:Ent),Γ[i]?=some e->e.ok K H R (σ[i]?).join
 nw:∀(i:Nat)(e:Ent)(a:Addr),Γ[i]?=some e->a∈e.fp (σ[i]?).join->H0 a=none
 ds:∀(i j:Nat)(e e':Ent)(a:Addr),Γ[i]?=some e->Γ[j]?=some e'->a∈e.fp (σ[i]?).join->a∈e'.fp (σ[j]?).join->i=j
 len:Γ.length=σ.length
end
variable {K:MO}{H0 R0:Hp}{Γ:Ga}{i:Nat}{en:Ent}{Γ':Ga}{r:Rep α}
section
variable {H' R':Hp}
variable {a:Addr}{o:Option V}{u:HO}
theorem dN:a∈refOf o↔o=some (.ref a):=by
 unfold refOf;split
 ·rw[HX];constructor
  ·rintro rfl;rfl
  ·intro e;cases e;rfl
 ·rename_i h;constructor
  ·intro z;cases z
  ·intro e;exact Ny e (h a)
theorem Ent.lB {e:Ent}(w:e.own=true):a∈e.fp o↔o=some (.ref a):=by
 cases e with
 | no=>cases w
 | im r x=>cases w
 | mu r xs=>exact dN
 | di kvs=>exact dN
 | ob B=>cases w
theorem aA.new (E:aA K σ H0 R0 H R Γ)(i:Nat)(e:Ent)(a:Addr)(h:Γ[i]?=some e)(w:e.own=true)(ha:(σ[i]?).join=some (.ref a)):H0 a=none:=E.nw i e a h ((Ent.lB w).mpr ha)
theorem Ent.j8 {e:Ent}(h:e.ok K H R o)(ha:a∈e.fp o):H a≠none/\R a=none:=by
 cases e with
 | no=>cases ha
 | im r x=>cases ha
 | mu r xs=>
   obtain⟨b,vs,e,q,n,_⟩:=h;rw[Ent.fp,dN,e] at ha;cases ha
   exact⟨by rw[q];exact JY _,n⟩
 | di kvs=>
   obtain⟨b,e,q,n⟩:=h;rw[Ent.fp,dN,e] at ha;cases ha
   exact⟨by rw[q];exact JY _,n⟩
 | ob B=>obtain⟨⟨v,e,q⟩,n⟩:=h;exact⟨B.has q a ha,n a ha⟩
theorem Ent.ok.loc {e:Ent}(h:e.ok K H R o)(hH:∀a∈e.fp o,H' a=H a)(hR:ay R R')(hn:∀a∈e.fp o,R' a=none):e.ok K H' R' o:=by
 cases e with
 | no=>trivial
 | im r y=>obtain⟨v,e,q⟩:=h;exact⟨v,e,r.mono hR q⟩
 | mu r xs=>
   obtain⟨a,vs,e,q,n,p⟩:=h;have ha:a∈Ent.fp (.mu r xs) o:=dN.mpr e;exact⟨a,vs,e,(hH a ha).trans q,hn a ha,Paired.map (λ_ _=>r.mono hR) p⟩
 | di kvs=>
   obtain⟨a,e,q,n⟩:=h;have ha:a∈Ent.fp (.di kvs) o:=dN.mpr e;exact⟨a,e,(hH a ha).trans q,hn a ha⟩
 | ob B=>obtain⟨⟨v,e,q⟩,n⟩:=h;exact⟨⟨v,e,B.loc hH hR q⟩,hn⟩
theorem Ent.ok.grow {e:Ent}(h:e.ok K H R o)(x:Ext H R H' R'):e.ok K H' R' o:=by
 refine h.loc (λa ha=>?_) x.r (λa ha=>?_)
 ·cases q:H a with
  | none=>exact Ny q (Ent.j8 h ha).1
  | some u=>exact x.h _ _ q
 ·obtain⟨h1,h2⟩:=Ent.j8 h ha;exact(x.old a h1).trans h2
theorem aA.grow (E:aA K σ H0 R0 H R Γ)(x:Ext H R H' R'):aA K σ H0 R0 H' R' Γ:=
 ⟨E.ext.trans x,λi e h=>(E.ent i e h).grow x,E.nw,E.ds,E.len⟩
theorem aA.sub (E:aA K σ H0 R0 H R Γ):ay R H:=E.ext.s
def Off (a:Addr)(σ:St)(Γ:Ga):Prop:=∀(i:Nat)(e:Ent),Γ[i]?=some e->a∉e.fp (σ[i]?).join
theorem aA.off (E:aA K σ H0 R0 H R Γ)(h:H a=none):Off a σ Γ:=λi e q w=>(Ent.j8 (E.ent i e q) w).1 h
theorem set_at.{v}{β:Type v}{l:List β}{i:Nat}{y:β}{j:Nat}{e:β}(q:(l.set i y)[j]?=some e):(j=i/\e=y/\i<l.length)∨(j≠i/\l[j]?=some e):=by
 by_cases hj:j=i
 ·subst hj;have hl:j<l.length:=by
   have:=HW.mp q;simpa using this.1
  rw[IG hl] at q;exact .inl ⟨rfl,(Option.some.inj q).symm,hl⟩
 ·rw[IJ (JX hj)] at q;exact .inr ⟨hj,q⟩
theorem aA.setG (E:aA K σ H0 R0 H R Γ)(i:Nat)(ho:en.ok K H R (some v))(h0:∀a∈en.fp (some v),H0 a=none)(hf:∀a∈en.fp (some v),∀(j:Nat)(e:Ent),j≠i->Γ[j]?=some e->a∉e.fp (σ[j]?).join):
 aA K (σ.set i (some v)) H0 R0 H R (Γ.set i en):=by
 have key:∀(j:Nat)(e:Ent),(Γ.set i en)[j]?=some e->(j=i/\e=en/\((σ.set i (some v))[j]?).join=some v)∨(j≠i/\Γ[j]?=some e/\(σ.set i (some v))[j]?=σ[j]?):=λj e q=>by
  rcases set_at q with⟨rfl,rfl,hl⟩ | ⟨hj,q⟩
  ·exact .inl ⟨rfl,rfl,by rw[IG (by rw[← E.len];exact hl)];rfl⟩
  ·exact .inr ⟨hj,q,IJ (JX hj)⟩
 refine⟨E.ext,λj e q=>?_,λj e a q w=>?_,λj k e e' a q q' w w'=>?_,by rw[Jc,Jc];exact E.len⟩
 ·rcases key j e q with⟨_,rfl,q2⟩ | ⟨_,q1,q2⟩
  ·rw[q2];exact ho
  ·rw[q2];exact E.ent j e q1
 ·rcases key j e q with⟨_,rfl,q2⟩ | ⟨_,q1,q2⟩
  ·rw[q2] at w;exact h0 a w
  ·rw[q2] at w;exact E.nw j e a q1 w
 ·rcases key j e q with⟨hj,rfl,q2⟩ | ⟨hj,q1,q2⟩
  ·rcases key k e' q' with⟨hk,rfl,Q7⟩ | ⟨hk,O4,Q7⟩
   ·rw[hj,hk]
   ·rw[q2] at w;rw[Q7] at w';exact Ny w' (hf a w k e' hk O4)
  ·rcases key k e' q' with⟨hk,rfl,Q7⟩ | ⟨hk,O4,Q7⟩
   ·rw[q2] at w;rw[Q7] at w';exact Ny w (hf a w' j e hj q1)
   ·rw[q2] at w;rw[Q7] at w';exact E.ds j k e e' a q1 O4 w w'
theorem aA.set (E:aA K σ H0 R0 H R Γ)(i:Nat){v:V}{x:α}(h:r.R K R v x):aA K (σ.set i (some v)) H0 R0 H R (Γ.set i (.im r x)):=
 E.setG i ⟨v,rfl,h⟩ (λa w=>by cases w) λa w=>by cases w
theorem aA.tO (E:aA K σ H0 R0 H R Γ)(i:Nat){u:HO}(ho:en.ok K H R (some (.ref a)))(h0:H0 a=none)(hf:∀(j:Nat)(e:Ent),j≠i->Γ[j]?=some e->a∉e.fp (σ[j]?).join)(hfp:en.fp (some (.ref a))=[a]:=by rfl):
 aA K (σ.set i (some (.ref a))) H0 R0 H R (Γ.set i en):=
 E.setG i ho (λb w=>by rw[hfp,HX] at w;rw[w];exact h0) λb w=>by rw[hfp,HX] at w;rw[w];exact hf
theorem aA.wU (E:aA K σ H0 R0 H R Γ){e0:Ent}(hi:Γ[i]?=some e0)(ha:a∈e0.fp (σ[i]?).join)(ho:en.ok K (L2.upd H a u) R (σ[i]?).join)(Ot:∀b∈en.fp (σ[i]?).join,b∈e0.fp (σ[i]?).join∨(H0 b=none/\Off b σ Γ)):aA K σ H0 R0 (L2.upd H a u) R (Γ.set i en):=by
 have h0:H0 a=none:=E.nw i e0 a hi ha;have hR:R a=none:=(Ent.j8 (E.ent i e0 hi) ha).2;refine⟨⟨λb o q=>?_,E.ext.r,λb o q=>?_,E.ext.old⟩,λj e q=>?_,λj e b q w=>?_,λj k e e' b q q' w w'=>?_,by rw[Jc];exact E.len⟩
 ·rw[aB (cu q h0)];exact E.ext.h b o q
 ·rw[aB (cu q hR)];exact E.ext.s b o q
 ·rcases set_at q with⟨rfl,rfl,_⟩ | ⟨hj,q1⟩
  ·exact ho
  ·refine(E.ent j e q1).loc (λb hb=>aB λz=>hj ?_) (ay.refl _) λb hb=>(Ent.j8 (E.ent j e q1) hb).2;rw[z] at hb;exact E.ds j i e e0 a q1 hi hb ha
 ·rcases set_at q with⟨rfl,rfl,_⟩ | ⟨hj,q1⟩
  ·rcases Ot b w with z | z
   ·exact E.nw _ _ b hi z
   ·exact z.1
  ·exact E.nw j e b q1 w
 ·rcases set_at q with⟨rfl,rfl,_⟩ | ⟨hj,q1⟩
  ·rcases set_at q' with⟨rfl,rfl,_⟩ | ⟨hk,O4⟩
   ·rfl
   ·rcases Ot b w with z | z
    ·exact E.ds _ _ _ _ b hi O4 z w'
    ·exact Ny w' (z.2 k e' O4)
  ·rcases set_at q' with⟨rfl,rfl,_⟩ | ⟨hk,O4⟩
   ·rcases Ot b w' with z | z
    ·exact E.ds _ _ _ _ b q1 hi w z
    ·exact Ny w (z.2 j e q1)
   ·exact E.ds _ _ _ _ b q1 O4 w w'
theorem aA.upd (E:aA K σ H0 R0 H R Γ){e0 en:Ent}(hi:Γ[i]?=some e0)(w0:e0.own=true)(ha:(σ[i]?).join=some (.ref a))(hR:R a=none)(ho:en.ok K (L2.upd H a u) R (some (.ref a)))(hfp:en.fp (some (.ref a))=[a]:=by rfl):
 aA K σ H0 R0 (L2.upd H a u) R (Γ.set i en):=
 E.wU hi ((Ent.lB w0).mpr ha) (by rw[ha];exact ho) λb w=>.inl (by rw[ha,hfp,HX] at w;rw[w];exact(Ent.lB w0).mpr ha)
theorem aA.oV (E:aA K σ H0 R0 H R Γ)(ha:H a=some u)(hR:R a=none)(h0:H0 a=none)(off:Off a σ Γ):aA K σ H0 R0 H (L2.upd R a u) Γ:=by
 have s2:ay R (L2.upd R a u):=ay.fresh hR _;refine⟨⟨E.ext.h,E.ext.r.trans s2,λb o qb=>?_,λb hb=>?_⟩,λi e qe=>?_,E.nw,E.ds,E.len⟩
 ·by_cases hb:b=a
  ·subst hb;rw[aD] at qb;cases qb;exact ha
  ·rw[aB hb] at qb;exact E.ext.s b o qb
 ·rw[aB (show b≠a from λe=>hb (by rw[e];exact h0))];exact E.ext.old b hb
 ·refine(E.ent i e qe).loc (λ_ _=>rfl) s2 λb hb=>?_;rw[aB (show b≠a from λz=>off i e qe (z▸hb))];exact(Ent.j8 (E.ent i e qe) hb).2
theorem aA.tell (E:aA K σ H0 R0 H R Γ){e0:Ent}(hi:Γ[i]?=some e0)(ho:en.ok K H R (σ[i]?).join)(Ot:∀b∈en.fp (σ[i]?).join,b∈e0.fp (σ[i]?).join):aA K σ H0 R0 H R (Γ.set i en):=by
 refine⟨E.ext,λj e q=>?_,λj e b q w=>?_,λj k e e' b q q' w w'=>?_,by rw[Jc];exact E.len⟩
 ·rcases set_at q with⟨rfl,rfl,_⟩ | ⟨hj,q1⟩
  ·exact ho
  ·exact E.ent j e q1
 ·rcases set_at q with⟨rfl,rfl,_⟩ | ⟨hj,q1⟩
  ·exact E.nw _ _ b hi (Ot b w)
  ·exact E.nw j e b q1 w
 ·rcases set_at q with⟨rfl,rfl,_⟩ | ⟨hj,q1⟩
  ·rcases set_at q' with⟨rfl,rfl,_⟩ | ⟨hk,O4⟩
   ·rfl
   ·exact E.ds _ _ _ _ b hi O4 (Ot b w) w'
  ·rcases set_at q' with⟨rfl,rfl,_⟩ | ⟨hk,O4⟩
   ·exact E.ds _ _ _ _ b q1 hi w (Ot b w')
   ·exact E.ds _ _ _ _ b q1 O4 w w'
def Wk:Ga->Ga->Prop
 | [],[]=>True
 | e::r,e'::r'=>(e'=e∨e'= .no)/\Wk r r'
 | _,_=>False
theorem Wk.len:∀{Γ Γ':Ga},Wk Γ Γ'->Γ'.length=Γ.length
 | [],[],_=>rfl
 | _::_,_::_,h=>by rw[Iy,Iy,Wk.len h.2]
theorem Wk.at:∀{Γ Γ':Ga},Wk Γ Γ'->∀(i:Nat)(e:Ent),Γ'[i]?=some e->e= .no∨Γ[i]?=some e
 | [],[],_,i,e,q=>by simp at q
 | a::_,b::_,h,0,e,q=>by
   simp at q;rcases h.1 with z | z
   ·right;simp[← q,z]
   ·left;rw[← q,z]
 | a::r,b::r',h,i+1,e,q=>by
   simp at q;have:=Wk.at h.2 i e q;simpa using this
theorem Wk.refl:∀Γ:Ga,Wk Γ Γ
 | []=>trivial
 | _::r=>⟨.inl rfl,Wk.refl r⟩
theorem aA.weak (E:aA K σ H0 R0 H R Γ)(w:Wk Γ Γ'):aA K σ H0 R0 H R Γ':=by
 refine⟨E.ext,λi e q=>?_,λi e a q z=>?_,λi j e e' a q q' z z'=>?_,w.len.trans E.len⟩
 ·rcases w.at i e q with rfl | q
  ·trivial
  ·exact E.ent i e q
 ·rcases w.at i e q with rfl | q
  ·cases z
  ·exact E.nw i e a q z
 ·rcases w.at i e q with rfl | q
  ·cases z
  ·rcases w.at j e' q' with rfl | q'
   ·cases z'
   ·exact E.ds i j e e' a q q' z z'
end
variable {a:Expr}{Γ1 Γ2 Γ3:Ga}{β γ:Type}{pos:Pos}{j:Nat}{n:Int}{b c:Expr}{op:CmpOp}{x:Str}{ra:Rep α}{rb:Rep β}{rc:Rep γ}{z:γ}
section
def EV (X:Cx)(e:Expr)(Γ:Ga){α:Type}(r:Rep α)(y:α)(Γ':Ga):Prop:=
 ∀(σ:St)(H0 R0 H R:Hp),aA X.K σ H0 R0 H R Γ->∀Q:VK,(∀v H' R',aA X.K σ H0 R0 H' R' Γ'->ay R R'->r.R X.K R' v y->Q v H')->fD X e σ H Q
def aO (X:Cx)(e:Expr)(Γ:Ga){α:Type}(r:Rep α)(ys:List α)(Γ':Ga):Prop:=
 ∀(σ:St)(H0 R0 H R:Hp),aA X.K σ H0 R0 H R Γ->∀Q:VK,(∀a vs H' R',aA X.K σ H0 R0 H' R' Γ'->ay R R'->H' a=some (.lst vs)->R' a=none->H0 a=none->Off a σ Γ'->PySem.Paired (r.R X.K R') vs ys->ys.length<=Ke->Q (.ref a) H')->fD X e σ H Q
def TV (X:Cx)(e:Expr)(Γ:Ga)(b:Bool)(Γ':Ga):Prop:=
 ∀(σ:St)(H0 R0 H R:Hp),aA X.K σ H0 R0 H R Γ->∀Q:Bool->Hp->Prop,(∀H' R',aA X.K σ H0 R0 H' R' Γ'->ay R R'->Q b H')->jg X e σ H Q
def TW (X:Cx)(e:Expr)(Γ:Ga)(b:Bool)(Γ':Ga):Prop:=
 ∀(σ:St)(H0 R0 H R:Hp),aA X.K σ H0 R0 H R Γ->∀Q:Bool->Hp->Prop,(∀H' R',aA X.K σ H0 R0 H' R' Γ'->ay R R'->Q b H')->xf X e σ H Q
def TF (X:Cx)(es:Hx)(Γ:Ga)(b:Bool)(Γ':Ga):Prop:=
 ∀(σ:St)(H0 R0 H R:Hp),aA X.K σ H0 R0 H R Γ->∀Q:Bool->Hp->Prop,(∀H' R',aA X.K σ H0 R0 H' R' Γ'->ay R R'->Q b H')->p7 X es σ H Q
def BG (X:Cx)(tg:Expr){α:Type}(r:Rep α)(bf:α->Ga->Ga):Prop:=
 ∀(σ:St)(H0 R0 H R:Hp)(Γ:Ga)(v:V)(x:α),aA X.K σ H0 R0 H R Γ->r.R X.K R v x->∀Q:St->Hp->Prop,(∀σ',aA X.K σ' H0 R0 H R (bf x Γ)->Q σ' H)->mK X tg v σ H Q
abbrev RT:=Hp->V->Hp->Hp->Prop
def WS (X:Cx)(OI:List Stmt)(Γ:Ga)(N:Ga->Prop)(T:RT):Prop:=
 ∀(σ:St)(H0 R0 H R:Hp),aA X.K σ H0 R0 H R Γ->∀D:Ends,(∀σ' H' R' Γ',aA X.K σ' H0 R0 H' R' Γ'->ay R R'->N Γ'->D.nx σ' H')->(∀v H' R',Ext H0 R0 H' R'->T H0 v H' R'->D.rt v H')->e8 X OI D σ H
def W1 (X:Cx)(st:Stmt)(Γ:Ga)(N:Ga->Prop)(T:RT):Prop:=
 ∀(σ:St)(H0 R0 H R:Hp),aA X.K σ H0 R0 H R Γ->∀D:Ends,(∀σ' H' R' Γ',aA X.K σ' H0 R0 H' R' Γ'->ay R R'->N Γ'->D.nx σ' H')->(∀v H' R',Ext H0 R0 H' R'->T H0 v H' R'->D.rt v H')->kF X st D σ H
def bM (K:MO){β:Type}(r:Rep β)(P:β->Prop):RT:=λ_ v _ R'=>∃y,r.R K R' v y/\P y
theorem aO.im {ys:List α}(h:aO X e Γ r ys Γ1):EV X e Γ (ag r) ys Γ1:=by
 intro σ H0 R0 H R E Q q;refine h σ H0 R0 H R E Q λa vs H' R' E' s1 ha hR h0 off p z=>?_;have s2:ay R' (upd R' a (.lst vs)):=ay.fresh hR _;exact q (.ref a) H' (upd R' a (.lst vs)) (E'.oV ha hR h0 off) (s1.trans s2) ⟨a,vs,rfl,aD,Paired.map (λ_ _=>r.mono s2) p,z⟩
theorem EV.cast {y y':α}(h:EV X e Γ r y Γ1)(e1:y=y'):EV X e Γ r y' Γ1:=e1▸h
theorem TV.cast {b b':Bool}(h:TV X e Γ b Γ1)(e1:b=b'):TV X e Γ b' Γ1:=e1▸h
theorem aa (i:Nat){x:Str}{y:α}(hΓ:Γ[i]?=some (.im r y))(hN:X.N[i]?=some x:=by rfl)(hv:autoParam (dc X.env.scope x) OA)(hd:N3 x:=by decide)(NV:Ov x:=by decide):EV X (.Name x pos) Γ r y Γ:=by
 intro σ H0 R0 H R E Q q;obtain⟨v,e,h⟩:=E.ent i _ hΓ;refine eS (bD hN hv hd NV) ⟨v,?_,q v H R E (ay.refl _) h⟩;cases es:σ[i]? with
 | none=>rw[es] at e;cases e
 | some o=>rw[es] at e;exact congrArg some e
theorem ah {i:Int}:EV X (.Constant (.int i) j pos) Γ ai i Γ:=λ_ _ _ _ _ E _ q=>eS A4 (q _ _ _ E (ay.refl _) rfl)
theorem fB {b:Bool}:EV X (.Constant (.bool b) j pos) Γ aY b Γ:=λ_ _ _ _ _ E _ q=>eS sJ (q _ _ _ E (ay.refl _) rfl)
theorem iJ {x:Str}{t:Tok}(hm:X.mg x=some (.int n t))(hg:Gl X x:=by rfl)(hd:N3 x:=by decide):EV X (.Name x pos) Γ ai n Γ:=
 λ_ _ _ _ _ E _ q=>eS (fQ (v:=.int n) hg hm ⟨t,rfl⟩ hd) (q (.int n) _ _ E (ay.refl _) rfl)
theorem gE {op:Operator}{r2:R2}{x:α}{y:β}(ho:cP X (KO op) r2)(ha:EV X a Γ ra x Γ1)(hb:EV X b Γ1 rb y Γ2)(hz:∀(R:Hp) v u H Q,ra.R X.K R v x->rb.R X.K R u y->(∀w,rc.R X.K R w z->Q w H)->r2 v u H Q):EV X (.BinOp a op b pos) Γ rc z Γ2:=by
 intro σ H0 R0 H R E Q q;refine eS (ui ho aQ aQ) (ha σ H0 R0 H R E _ λv H1 R1 E1 s1 e1=>hb σ H0 R0 H1 R1 E1 _ λu H2 R2 E2 s2 e2=>?_);exact hz R2 v u H2 _ (ra.mono s2 e1) e2 λw hw=>q w H2 R2 E2 (s1.trans s2) hw
section
variable {x y z:Int}
theorem br (ha:EV X a Γ ai x Γ1)(hb:EV X b Γ1 ai y Γ2):EV X (.BinOp a .Add b pos) Γ ai (x+y) Γ2:=gE BM ha hb λR v u H Q e1 e2 q=>⟨x,y,e1,e2,q _ rfl⟩
theorem lH (ha:EV X a Γ ai x Γ1)(hb:EV X b Γ1 ai y Γ2):EV X (.BinOp a .Sub b pos) Γ ai (x-y) Γ2:=gE Cd ha hb λR v u H Q e1 e2 q=>⟨x,y,e1,e2,q _ rfl⟩
theorem uB (ha:EV X a Γ ai x Γ1)(hb:EV X b Γ1 ai y Γ2)(h:tV x y):EV X (.BinOp a .Mult b pos) Γ ai (x*y) Γ2:=gE Ay ha hb λR v u H Q e1 e2 q=>⟨x,y,e1,e2,h,q _ rfl⟩
theorem bZ (ha:EV X a Γ ai x Γ1)(hb:EV X b Γ1 ai y Γ2)(h:0<y):EV X (.BinOp a .Mod b pos) Γ ai (x%y) Γ2:=gE AG ha hb λR v u H Q e1 e2 q=>⟨x,y,e1,e2,h,q _ rfl⟩
theorem iD (ha:EV X a Γ ai x Γ1)(hb:EV X b Γ1 ai y Γ2)(h:CV x y):EV X (.BinOp a .FloorDiv b pos) Γ ai (x/y) Γ2:=gE zK ha hb λR v u H Q e1 e2 q=>⟨x,y,e1,e2,h,q _ rfl⟩
theorem pO (ha:EV X a Γ ai x Γ1)(hb:EV X b Γ1 ai y Γ2)(h:Cz x y):EV X (.BinOp a .Pow b pos) Γ ai (x ^ y.toNat) Γ2:=gE Ba ha hb λR v u H Q e1 e2 q=>⟨x,y,e1,e2,h,q _ rfl⟩
theorem cX (ha:EV X a Γ ai x Γ1):EV X (.UnaryOp .USub a pos) Γ ai (-x) Γ1:=by
 intro σ H0 R0 H R E Q q;exact eS (Ez AA aQ) (ha σ H0 R0 H R E _ λv H1 R1 E1 s1 e1=>⟨x,e1,q _ H1 R1 E1 s1 rfl⟩)
end
structure df (X:Cx)(op:CmpOp){α β:Type}(ra:Rep α)(rb:Rep β)(x:α)(y:β)(k:Bool):Prop where
 r2:∃r,cP X (Kp op) r/\∀(R H:Hp) v u Q,ay R H->ra.R X.K R v x->rb.R X.K R u y->Q (.bl k) H->r v u H Q
theorem dh {x:α}{y:β}{k:Bool}(c:df X op ra rb x y k)(ha:EV X a Γ ra x Γ1)(hb:EV X b Γ1 rb y Γ2)(hm:KN op b=false:=by first | exact pU _ | with_unfolding_all rfl):
 EV X (.Compare a [op] [b] pos) Γ aY k Γ2:=by
 obtain⟨r,ho,hr⟩:=c.r2;intro σ H0 R0 H R E Q q;refine eS (Ab ho aQ aQ hm) (ha σ H0 R0 H R E _ λv H1 R1 E1 s1 e1=>hb σ H0 R0 H1 R1 E1 _ λu H2 R2 E2 s2 e2=>?_);exact hr R2 H2 v u _ E2.sub (ra.mono s2 e1) e2 (q _ H2 R2 E2 (s1.trans s2) rfl)
theorem aw {x:α}{y:β}{k:Bool}(c:df X op ra rb x y k)(ha:EV X a Γ ra x Γ1)(hb:EV X b Γ1 rb y Γ2)(hm:KN op b=false:=by first | exact pU _ | with_unfolding_all rfl):
 TV X (.Compare a [op] [b] pos) Γ k Γ2:=by
 obtain⟨r,ho,hr⟩:=c.r2;intro σ H0 R0 H R E Q q;refine tS (yO ho aQ aQ hm) (ha σ H0 R0 H R E _ λv H1 R1 E1 s1 e1=>hb σ H0 R0 H1 R1 E1 _ λu H2 R2 E2 s2 e2=>?_);exact hr R2 H2 v u _ E2.sub (ra.mono s2 e1) e2 ⟨k,rfl,q H2 R2 E2 (s1.trans s2)⟩
section
variable {x y:Int}
theorem fM:df X .Lt ai ai x y (decide (x<y)):=⟨_,EF,λR H v u Q _ e1 e2 q=>⟨x,y,e1,e2,q⟩⟩
theorem Ct:df X .LtE ai ai x y (decide (x<=y)):=⟨_,DM,λR H v u Q _ e1 e2 q=>⟨x,y,e1,e2,q⟩⟩
theorem kW:df X .Gt ai ai x y (decide (y<x)):=⟨_,EN,λR H v u Q _ e1 e2 q=>⟨x,y,e1,e2,q⟩⟩
theorem GB:df X .GtE ai ai x y (decide (y<=x)):=⟨_,DI,λR H v u Q _ e1 e2 q=>⟨x,y,e1,e2,q⟩⟩
theorem da:df X .Eq ai ai x y (decide (x=y)):=⟨_,xZ,λR H v u Q _ e1 e2 q=>by
 cases e1;cases e2
 exact⟨rfl,by rw[show decide (V.int x=V.int y)=decide (x=y) by rw[ka];exact Bool.beq_eq_decide_eq x y];exact q⟩⟩
theorem Gu:df X .NotEq ai ai x y (!decide (x=y)):=⟨_,yH,λR H v u Q _ e1 e2 q=>by
 cases e1;cases e2
 exact⟨rfl,by rw[show decide (V.int x=V.int y)=decide (x=y) by rw[ka];exact Bool.beq_eq_decide_eq x y];exact q⟩⟩
end
variable {x:Bool}{y:Bool}{rest:Hx}
theorem kI (x:Int):∀xs:Hs,rN (.int x) (xs.map V.int)=decide (x∈xs)
 | []=>rfl
 | y::r=>by
   have h:=kI x r;unfold rN at h ⊢;rw[Iu,Jo,h];have e:kr (V.int y) (V.int x)=decide (x=y):=by
    show(y==x)=_;by_cases h:x=y
    ·subst h;simp
    ·rw[NH h];exact beq_eq_false_iff_ne.mpr (JX h)
   rw[e,HG];simp
theorem j9 {K:MO}{R:Hp}:∀{vs:List V}{xs:Hs},PySem.Paired (ai.R K R) vs xs->vs=xs.map V.int
 | _,_,.nil=>rfl
 | _,_,.cons h t=>by rw[Iu,← j9 t];exact congrArg (· ::_) h
theorem jO:∀xs:Hs,(xs.map V.int).all fh=true
 | []=>rfl
 | _::r=>by rw[Iu,JE,jO r];rfl
theorem Az {x:Int}{xs:Hs}:df X .In ai (ag ai) x xs (decide (x∈xs)):=⟨_,jN,λR H v u Q s e1 e2 q=>by
 cases e1
 obtain⟨a,vs,rfl,hq,p,_⟩:=e2;have e:=j9 p;subst e;exact⟨a,_,rfl,.inl (bp.of (s _ _ hq)),rfl,jO xs,by rw[Nz HE,kI];exact q⟩⟩
theorem rZ {x:Int}{xs:Hs}:df X .NotIn ai (ag ai) x xs (!decide (x∈xs)):=⟨_,jC,λR H v u Q s e1 e2 q=>by
 cases e1
 obtain⟨a,vs,rfl,hq,p,_⟩:=e2;have e:=j9 p;subst e;exact⟨a,_,rfl,.inl (bp.of (s _ _ hq)),rfl,jO xs,by rw[ND rfl,kI];exact q⟩⟩
theorem kR {O9:CmpOp}{x:α}{y:β}{k k':Bool}(c1:df X op ra rb x y k)(c2:df X O9 rb rc y z k')(ha:EV X a Γ ra x Γ)(hb:EV X b Γ rb y Γ)(hc:EV X c Γ rc z Γ)(hm:lastMarks [op,O9] [b,c]=false:=by with_unfolding_all rfl):EV X (.Compare a [op,O9] [b,c] pos) Γ aY (k&&k') Γ:=by
 obtain⟨r,ho,hr⟩:=c1.r2;obtain⟨r',OO,OK⟩:=c2.r2;intro σ H0 R0 H R E Q q;refine eS (xA ho OO aQ aQ aQ hm) (ha σ H0 R0 H R E _ λv H1 R1 E1 s1 e1=>hb σ H0 R0 H1 R1 E1 _ λu H2 R2 E2 s2 e2=>?_);refine hr R2 H2 v u _ E2.sub (ra.mono s2 e1) e2 ⟨k,rfl,?_⟩;cases k with
 | false=>exact jv (q _ H2 R2 E2 (s1.trans s2) rfl)
 | true=>exact ij (hc σ H0 R0 H2 R2 E2 _ λw H3 R3 E3 s3 e3=>OK R3 H3 u w _ E3.sub (rb.mono s3 e2) e3 (q _ H3 R3 E3 (s1.trans (s2.trans s3)) rfl))
theorem xg {O9:CmpOp}{x:α}{y:β}{k k':Bool}(c1:df X op ra rb x y k)(c2:df X O9 rb rc y z k')(ha:EV X a Γ ra x Γ)(hb:EV X b Γ rb y Γ)(hc:EV X c Γ rc z Γ)(hm:lastMarks [op,O9] [b,c]=false:=by with_unfolding_all rfl):TV X (.Compare a [op,O9] [b,c] pos) Γ (k&&k') Γ:=by
 obtain⟨r,ho,hr⟩:=c1.r2;obtain⟨r',OO,OK⟩:=c2.r2;intro σ H0 R0 H R E Q q;refine tS (wR ho OO aQ aQ aQ hm) (ha σ H0 R0 H R E _ λv H1 R1 E1 s1 e1=>hb σ H0 R0 H1 R1 E1 _ λu H2 R2 E2 s2 e2=>?_);refine hr R2 H2 v u _ E2.sub (ra.mono s2 e1) e2 ⟨k,rfl,?_⟩;cases k with
 | false=>exact jv ⟨false,rfl,q H2 R2 E2 (s1.trans s2)⟩
 | true=>exact ij (hc σ H0 R0 H2 R2 E2 _ λw H3 R3 E3 s3 e3=>OK R3 H3 u w _ E3.sub (rb.mono s3 e2) e3 ⟨k',rfl,q H3 R3 E3 (s1.trans (s2.trans s3))⟩)
theorem mz {op:BoolOp}{x:α}(h:EV X a Γ r x Γ1):EV X (.BoolOp op [a] pos) Γ r x Γ1:=λσ H0 R0 H R E Q q=>eS (AV aQ) (h σ H0 R0 H R E Q q)
theorem iT (ha:EV X a Γ aY x Γ)(hb:x=true->EV X (.BoolOp .And (b::rest) pos) Γ aY y Γ):EV X (.BoolOp .And (a::b::rest) pos) Γ aY (x&&y) Γ:=by
 intro σ H0 R0 H R E Q q;refine eS (AD aQ aQ) (ha σ H0 R0 H R E _ λv H1 R1 E1 s1 e1=>⟨x,e1,?_⟩);cases x with
 | false=>exact jv (q _ H1 R1 E1 s1 rfl)
 | true=>exact ij (hb rfl σ H0 R0 H1 R1 E1 _ λw H3 R3 E3 s3 e3=>q w H3 R3 E3 (s1.trans s3) e3)
theorem uW (ha:EV X a Γ aY x Γ1):EV X (.UnaryOp .Not a pos) Γ aY (!x) Γ1:=by
 intro σ H0 R0 H R E Q q;exact eS (C2 aQ) (ha σ H0 R0 H R E _ λv H1 R1 E1 s1 e1=>⟨x,e1,q _ H1 R1 E1 s1 rfl⟩)
theorem dv (ha:TV X a Γ x Γ1):TV X (.UnaryOp .Not a pos) Γ (!x) Γ1:=by
 intro σ H0 R0 H R E Q q;exact tS (AZ jJ) (ha σ H0 R0 H R E _ λH1 R1 E1 s1=>q H1 R1 E1 s1)
theorem TW.tv {b:Bool}(h:TW X e Γ b Γ1):TV X e Γ b Γ1:=λσ H0 R0 H R E Q q=>tS (Cf.pt) (h σ H0 R0 H R E Q q)
theorem cI (ha:TV X a Γ x Γ1):TW X (.BoolOp .And [a] pos) Γ x Γ1:=λσ H0 R0 H R E Q q=>wS (zW jJ) (ha σ H0 R0 H R E Q q)
theorem fZ (ha:TV X a Γ x Γ1):TW X (.BoolOp .Or [a] pos) Γ x Γ1:=λσ H0 R0 H R E Q q=>wS (Dv jJ) (ha σ H0 R0 H R E Q q)
theorem cR (ha:TV X a Γ x Γ)(hb:x=true->TW X (.BoolOp .And (b::rest) pos) Γ y Γ):TW X (.BoolOp .And (a::b::rest) pos) Γ (x&&y) Γ:=by
 intro σ H0 R0 H R E Q q;refine wS (BJ jJ Cf) (ha σ H0 R0 H R E _ λH1 R1 E1 s1=>?_);cases x with
 | false=>exact jv (q H1 R1 E1 s1)
 | true=>exact ij (hb rfl σ H0 R0 H1 R1 E1 _ λH3 R3 E3 s3=>q H3 R3 E3 (s1.trans s3))
theorem gy (ha:TV X a Γ x Γ)(hb:x=false->TW X (.BoolOp .Or (b::rest) pos) Γ y Γ):TW X (.BoolOp .Or (a::b::rest) pos) Γ (x ||y) Γ:=by
 intro σ H0 R0 H R E Q q;refine wS (Ff jJ Cf) (ha σ H0 R0 H R E _ λH1 R1 E1 s1=>?_);cases x with
 | true=>exact ij (q H1 R1 E1 s1)
 | false=>exact jv (hb rfl σ H0 R0 H1 R1 E1 _ λH3 R3 E3 s3=>q H3 R3 E3 (s1.trans s3))
theorem cV {k:Bool}(ha:EV X a Γ aY k Γ1)(he:∀whole,K4 a X.env whole=(do let v ← whole;Ls a.pos;K2 [v] (truthy v)):=by intro _;rfl):TV X a Γ k Γ1:=by
 intro σ H0 R0 H R E Q q;exact tS (C6 aQ he) (ha σ H0 R0 H R E _ λv H1 R1 E1 s1 e1=>⟨k,e1,q H1 R1 E1 s1⟩)
theorem eU:TF X [] Γ true Γ:=λσ H0 R0 H R E Q q=>fS BE (q H R E (ay.refl _))
theorem eo {b:Bool}(h:TV X c Γ b Γ1):TF X [c] Γ b Γ1:=λσ H0 R0 H R E Q q=>fS (BR jJ) (h σ H0 R0 H R E Q q)
theorem jf {k:Bool}{x y:α}(hc:TV X c Γ k Γ1)(ha:k=true->EV X a Γ1 r x Γ2)(hb:k=false->EV X b Γ1 r y Γ2):EV X (.IfExp c a b pos) Γ r (if k then x else y) Γ2:=by
 intro σ H0 R0 H R E Q q;refine eS (qM jJ aQ aQ) (hc σ H0 R0 H R E _ λH1 R1 E1 s1=>?_);cases k with
 | true=>exact ij (ha rfl σ H0 R0 H1 R1 E1 _ λv H3 R3 E3 s3 e3=>q v H3 R3 E3 (s1.trans s3) e3)
 | false=>exact jv (hb rfl σ H0 R0 H1 R1 E1 _ λv H3 R3 E3 s3 e3=>q v H3 R3 E3 (s1.trans s3) e3)
end
variable {xs:List α}{δ:Type}{es:Hx}{p1 p2 p:Pos}{ys:List α}{r':Rep β}{F:α->β->Prop}{vs:List α}
section
variable {i:Int}{x:α}
structure Pk:Type 1 where
 {α:Type}
 r:Rep α
 x:α
inductive hU (K:MO) (R:Hp):List V->List Pk->Prop
 | nil:hU K R [] []
 | cons {v:V} {vs:List V} {p:Pk} {ps:List Pk}:p.r.R K R v p.x->hU K R vs ps->hU K R (v::vs) (p::ps)
def HA (X:Cx)(es:Hx)(Γ:Ga)(ps:List Pk)(Γ':Ga):Prop:=
 ∀(σ:St)(H0 R0 H R:Hp),aA X.K σ H0 R0 H R Γ->∀Q:List V->Hp->Prop,(∀vs H' R',aA X.K σ H0 R0 H' R' Γ'->ay R R'->hU X.K R' vs ps->Q vs H')->jD X es σ H Q
theorem av:HA X [] Γ [] Γ:=λσ H0 R0 H R E Q q=>aS bG (q [] H R E (ay.refl _) .nil)
theorem af {ps:List Pk}(he:EV X e Γ r x Γ1)(hr:HA X es Γ1 ps Γ2)(hs:Kf (e::es) X.env=(false,eval e X.env)::Kf es X.env:=by rfl):HA X (e::es) Γ (⟨r,x⟩::ps) Γ2:=by
 intro σ H0 R0 H R E Q q;refine aS (aZ aQ kE hs) (he σ H0 R0 H R E _ λv H1 R1 E1 s1 e1=>hr σ H0 R0 H1 R1 E1 _ λvs H2 R2 E2 s2 e2=>?_);exact q (v::vs) H2 R2 E2 (s1.trans s2) (.cons (r.mono s2 e1) e2)
def EA (X:Cx)(es:Hx)(Γ:Ga){α:Type}(r:Rep α)(ys:List α)(Γ':Ga):Prop:=
 ∀(σ:St)(H0 R0 H R:Hp),aA X.K σ H0 R0 H R Γ->∀Q:List V->Hp->Prop,(∀vs H' R',aA X.K σ H0 R0 H' R' Γ'->ay R R'->PySem.Paired (r.R X.K R') vs ys->Q vs H')->jD X es σ H Q
theorem aK:EA X [] Γ r [] Γ:=λσ H0 R0 H R E Q q=>aS bG (q [] H R E (ay.refl _) .nil)
theorem au (he:EV X e Γ r x Γ1)(hr:EA X es Γ1 r ys Γ2)(hs:Kf (e::es) X.env=(false,eval e X.env)::Kf es X.env:=by rfl):EA X (e::es) Γ r (x::ys) Γ2:=by
 intro σ H0 R0 H R E Q q;refine aS (aZ aQ kE hs) (he σ H0 R0 H R E _ λv H1 R1 E1 s1 e1=>hr σ H0 R0 H1 R1 E1 _ λvs H2 R2 E2 s2 e2=>?_);exact q (v::vs) H2 R2 E2 (s1.trans s2) (.cons (r.mono s2 e1) e2)
theorem aE {ys:List α}(h:EA X es Γ r ys Γ1)(hz:ys.length<=Ke):aO X (.List es pos) Γ r ys Γ1:=by
 intro σ H0 R0 H R E Q q;refine eS (BL kE) (h σ H0 R0 H R E _ λvs H1 R1 E1 s1 p1=>⟨by rw[p1.length];exact hz,λp hp=>?_⟩);exact q p vs _ R1 (E1.grow (Ext.dq E1.sub hp _)) s1 aD (E1.sub.free hp) (E1.ext.h.free hp) (E1.off hp) p1 hz
theorem nq {k:Nat}{y:β}(h:HA X [a,b] Γ [⟨r,x⟩,⟨r',y⟩] Γ1):EV X (.Tuple [a,b] k pos) Γ (de r r') (x,y) Γ1:=by
 intro σ H0 R0 H R E Q q;refine eS (vP kE) (h σ H0 R0 H R E _ λvs H1 R1 E1 s1 p1=>?_);obtain⟨h1,h2⟩:∃v1 v2,vs=[v1,v2]/\r.R X.K R1 v1 x/\r'.R X.K R1 v2 y:=by
  cases p1 with
  | cons a1 t=>cases t with
    | cons a2 t2=>cases t2;exact⟨_,_,rfl,a1,a2⟩
 obtain⟨v2,rfl,e1,e2⟩:=h2;refine⟨by show 2<=Ke;decide,λp hp=>?_⟩;have s2:ay R1 (upd R1 p (.tup [h1,v2])):=ay.fresh (E1.sub.free hp) _;exact q _ _ (upd R1 p (.tup [h1,v2])) (E1.grow (Ext.fresh E1.sub hp _)) (s1.trans s2) ⟨p,_,_,rfl,aD,r.mono s2 e1,r'.mono s2 e2⟩
theorem dz {F:α->β->Prop}:∀{vs:List α}{xs:List β},PySem.Paired F vs xs->∀{i:Nat}{y:β},xs[i]?=some y->∃v,vs[i]?=some v/\F v y
 | _,_,.nil,i,y,h=>by simp at h
 | _,_,.cons h t,0,y,e=>by simp at e;subst e;exact⟨_,rfl,h⟩
 | _,_,.cons h t,i+1,y,e=>by
   obtain⟨v,e1,e2⟩:=dz t (i:=i) (y:=y) (by simpa using e);exact⟨v,by simpa using e1,e2⟩
theorem gz {xs:List β}(p:PySem.Paired F vs xs){y:β}(h:cC xs i=some y):∃v,cC vs i=some v/\F v y:=by
 unfold cC at h ⊢;rw[p.length];cases e:fw xs.length i with
 | none=>rw[e] at h;cases h
 | some j=>rw[e] at h;exact dz p h
theorem lR (h0:0<=i)(h1:i<xs.length):cC xs i=xs[i.toNat]?:=by
 have e:i=((i.toNat:Nat):Int):=by omega
 have hl:i.toNat<xs.length:=by omega
 have q:cC xs ((i.toNat:Nat):Int)=some xs[i.toNat]:=zI (Ib hl);rw[← e] at q;rw[q,Ib hl]
theorem bc {y:α}(ha:EV X a Γ (ag r) xs Γ1)(hb:EV X b Γ1 ai i Γ2)(h:cC xs i=some y)(hs:fE b:=by exact λ_ _=>rfl):EV X (.Subscript a b pos) Γ r y Γ2:=by
 intro σ H0 R0 H R E Q q;refine eS (j4 j6 aQ aQ hs) (ha σ H0 R0 H R E _ λv H1 R1 E1 s1 e1=>hb σ H0 R0 H1 R1 E1 _ λu H2 R2 E2 s2 e2=>?_);obtain⟨p,vs,rfl,ha,pp,z⟩:=(ag r).mono s2 e1;obtain⟨w,e3,e4⟩:=gz pp h;exact⟨p,vs,i,w,rfl,e2,bp.of (E2.sub _ _ ha),e3,q w H2 R2 E2 (s1.trans s2) e4⟩
theorem qS {xs:Hs}{y:Int}(ha:EV X a Γ bI xs Γ1)(hb:EV X b Γ1 ai i Γ2)(h:cC xs i=some y)(hs:fE b:=by exact λ_ _=>rfl):EV X (.Subscript a b pos) Γ ai y Γ2:=by
 intro σ H0 R0 H R E Q q;refine eS (j4 j6 aQ aQ hs) (ha σ H0 R0 H R E _ λv H1 R1 E1 s1 e1=>hb σ H0 R0 H1 R1 E1 _ λu H2 R2 E2 s2 e2=>?_);obtain⟨p,rfl,ha,z⟩:=bI.mono s2 e1;have e3:cC (xs.map V.int) i=some (.int y):=by
  unfold cC at h ⊢;rw[HU];cases e:fw xs.length i with
  | none=>rw[e] at h;cases h
  | some j=>
    rw[e] at h;show(xs.map V.int)[j]?=_;rw[Ii,show xs[j]?=some y from h];rfl
 exact⟨p,_,i,_,rfl,e2,E2.sub.seq ha,e3,q _ H2 R2 E2 (s1.trans s2) rfl⟩
theorem iK (j:Nat){x:Str}{y:α}(hb:EV X b Γ ai i Γ1)(hΓ:Γ[j]?=some (.mu r xs))(hΓ1:Γ1[j]?=some (.mu r xs))(h:cC xs i=some y)(hN:X.N[j]?=some x:=by rfl)(hv:autoParam (dc X.env.scope x) OA)(hs:fE b:=by exact λ_ _=>rfl)(hd:N3 x:=by decide)(NV:Ov x:=by decide):EV X (.Subscript (.Name x p1) b pos) Γ r y Γ1:=by
 intro σ H0 R0 H R E Q q;obtain⟨a,vs,e,_,_,_⟩:=E.ent j _ hΓ;refine eS (j4 j6 (bD hN hv hd NV) aQ hs) ⟨.ref a,?_,hb σ H0 R0 H R E _ λu H2 R2 E2 s2 e2=>?_⟩
 ·cases es:σ[j]? with
  | none=>rw[es] at e;cases e
  | some o=>rw[es] at e;exact congrArg some e
 ·obtain⟨a',Oz,e',ha,hR,pp⟩:=E2.ent j _ hΓ1;rw[e] at e';cases e'
  obtain⟨w,e3,e4⟩:=gz pp h;exact⟨a,Oz,i,w,rfl,e2,bp.of ha,e3,q w H2 R2 E2 s2 e4⟩
section
variable {w:Row}
end
def OV (X:Cx)(e:Option Expr)(Γ:Ga)(o:Option Int):Prop:=∃t,PO X e t/\∀(σ:St)(H0 R0 H R:Hp),aA X.K σ H0 R0 H R Γ->∀Q:Option Int->Hp->Prop,(∀H' R',aA X.K σ H0 R0 H' R' Γ->ay R R'->Q o H')->t σ H Q
theorem d8:OV X none Γ none:=⟨_,zq,λσ H0 R0 H R E Q q=>q H R E (ay.refl _)⟩
theorem d7 {i:Int}(h:EV X e Γ ai i Γ):OV X (some e) Γ (some i):=⟨_,zU aQ,λσ H0 R0 H R E Q q=>h σ H0 R0 H R E _ λv H1 R1 E1 s1 e1=>⟨i,e1,q H1 R1 E1 s1⟩⟩
def cut (xs:List α)(lo hi:Option Int):List α:=(xs.drop (HT.NQ xs.length 0 lo)).take (HT.NQ xs.length xs.length hi-HT.NQ xs.length 0 lo)
theorem ig {F:α->β->Prop}:∀(n:Nat){vs:List α}{xs:List β},PySem.Paired F vs xs->PySem.Paired F (vs.drop n) (xs.drop n)
 | 0,_,_,h=>h
 | _+1,_,_,.nil=>.nil
 | n+1,_,_,.cons _ t=>ig n t
theorem fW {F:α->β->Prop}:∀(n:Nat){vs:List α}{xs:List β},PySem.Paired F vs xs->PySem.Paired F (vs.take n) (xs.take n)
 | 0,_,_,_=>.nil
 | _+1,_,_,.nil=>.nil
 | n+1,_,_,.cons h t=>.cons h (fW n t)
theorem c7 {F:α->β->Prop}:∀{vs:List α}{xs:List β}{Oz:List α}{xs':List β},PySem.Paired F vs xs->PySem.Paired F Oz xs'->PySem.Paired F (vs++Oz) (xs++xs')
 | _,_,_,_,.nil,h=>h
 | _,_,_,_,.cons h t,h'=>.cons h (c7 t h')
theorem tE (xs:List α)(lo hi:Option Int):(cut xs lo hi).length<=xs.length:=by
 unfold cut;rw[Im,IY];omega
theorem dB {lo hi:Option Expr}{l h:Option Int}(ha:EV X a Γ (ag r) xs Γ)(hl:OV X lo Γ l)(hh:OV X hi Γ h):aO X (.Subscript a (.Slice lo hi none p2) pos) Γ r (cut xs l h) Γ:=by
 intro σ H0 R0 H R E Q q;obtain⟨tl,pl,kl⟩:=hl;obtain⟨th,ph,kh⟩:=hh;refine eS (kH zM aQ pl ph) (ha σ H0 R0 H R E _ λv H1 R1 E1 s1 e1=>kl σ H0 R0 H1 R1 E1 _ λH2 R2 E2 s2=>kh σ H0 R0 H2 R2 E2 _ λH3 R3 E3 s3=>?_);obtain⟨p,vs,rfl,hp,pp,z⟩:=(ag r).mono (s2.trans s3) e1;refine⟨p,vs,rfl,bp.of (E3.sub _ _ hp),λd hd=>?_⟩;refine q d _ _ R3 (E3.grow (Ext.dq E3.sub hd _)) (s1.trans (s2.trans s3)) aD (E3.sub.free hd) (E3.ext.h.free hd) (E3.off hd) ?_ (JJ (tE _ _ _) z);unfold cut ic;rw[pp.length];exact fW _ (ig _ pp)
theorem bF {b:Expr}{ys:List α}(ha:EV X a Γ (ag r) xs Γ1)(hb:EV X b Γ1 (ag r) ys Γ2)(hz:xs.length+ys.length<=Ke):aO X (.BinOp a .Add b pos) Γ r (xs++ys) Γ2:=by
 intro σ H0 R0 H R E Q q;refine eS (ui Am aQ aQ) (ha σ H0 R0 H R E _ λv H1 R1 E1 s1 e1=>hb σ H0 R0 H1 R1 E1 _ λu H2 R2 E2 s2 e2=>?_);obtain⟨p,vs,rfl,hp,pp,z⟩:=(ag r).mono s2 e1;obtain⟨p',ws,rfl,hp',PM,z'⟩:=e2;refine⟨p,p',vs,ws,rfl,rfl,E2.sub _ _ hp,E2.sub _ _ hp',by rw[pp.length,PM.length];exact hz,λd hd=>?_⟩;exact q d _ _ R2 (E2.grow (Ext.dq E2.sub hd _)) (s1.trans s2) aD (E2.sub.free hd) (E2.ext.h.free hd) (E2.off hd) (c7 pp PM) (by rw[HV];exact hz)
theorem lp {F:α->β->Prop}{vs:List α}{xs:List β}(h:PySem.Paired F vs xs):∀k:Nat,PySem.Paired F (HZ k vs).flatten (HZ k xs).flatten
 | 0=>.nil
 | k+1=>by rw[ID,ID];exact c7 h (lp h k)
theorem mV {k:Int}(ha:EV X a Γ (ag r) xs Γ1)(hb:EV X b Γ1 ai k Γ2)(h1: -(2 ^ 63)<=k)(h2:k<2 ^ 63)(hz:xs.length*k.toNat<=Ke):aO X (.BinOp a .Mult b pos) Γ r (HZ k.toNat xs).flatten Γ2:=by
 intro σ H0 R0 H R E Q q;refine eS (ui Cu aQ aQ) (ha σ H0 R0 H R E _ λv H1 R1 E1 s1 e1=>hb σ H0 R0 H1 R1 E1 _ λu H2 R2 E2 s2 e2=>?_);obtain⟨p,vs,rfl,hp,pp,z⟩:=(ag r).mono s2 e1;refine⟨p,k,vs,rfl,e2,E2.sub _ _ hp,h1,h2,by rw[pp.length];exact hz,λd hd=>?_⟩;exact q d _ _ R2 (E2.grow (Ext.dq E2.sub hd _)) (s1.trans s2) aD (E2.sub.free hd) (E2.ext.h.free hd) (E2.off hd) (lp pp _) (by rw[len_rep,Nat.mul_comm];exact hz)
theorem cj (hm:X.mg "len"=none)(ha:EV X a Γ (ag r) xs Γ1)(hs:Kf [a] X.env=[(false,eval a X.env)]:=by rfl)(hg:Gl X "len":=by rfl):EV X (.Call (.Name "len" p) [a] [] pos) Γ ai (xs.length:Int) Γ1:=by
 intro σ H0 R0 H R E Q q;refine eS (c5 g9 hg hm KW (aZ aQ bG hs) (by decide) (by decide) hs) (ha σ H0 R0 H R E _ λv H1 R1 E1 s1 e1=>?_);obtain⟨p,vs,rfl,hp,pp,z⟩:=e1;refine⟨p,vs,rfl,.inl (bp.of (E1.sub _ _ hp)),?_⟩;rw[pp.length];exact q _ H1 R1 E1 s1 rfl
theorem nr {xs:Hs}(hm:X.mg "len"=none)(ha:EV X a Γ bI xs Γ1)(hs:Kf [a] X.env=[(false,eval a X.env)]:=by rfl)(hg:Gl X "len":=by rfl):EV X (.Call (.Name "len" p) [a] [] pos) Γ ai (xs.length:Int) Γ1:=by
 intro σ H0 R0 H R E Q q;refine eS (c5 g9 hg hm KW (aZ aQ bG hs) (by decide) (by decide) hs) (ha σ H0 R0 H R E _ λv H1 R1 E1 s1 e1=>?_);obtain⟨p,rfl,hp,z⟩:=e1;refine⟨p,_,rfl,.inl (E1.sub.seq hp),?_⟩;rw[HU];exact q _ H1 R1 E1 s1 rfl
end
variable {y:Str}{N:Ga->Prop}{T:RT}{st:Stmt}
theorem B5 (w:Wk Γ Γ')(h:N Γ'):WS X [] Γ N T:=λσ H0 R0 H R E D dn dr=>n5 zc (dn σ H R Γ' (E.weak w) (ay.refl _) h)
theorem aI (h:N Γ):WS X [] Γ N T:=B5 (Wk.refl Γ) h
theorem aj {st:Stmt}{rest:List Stmt}(h:W1 X st Γ (λΓ'=>WS X rest Γ' N T) T):WS X (st::rest) Γ N T:=λσ H0 R0 H R E D dn dr=>
 n5 (gX sD dQ) (h σ H0 R0 H R E {D with nx:=e8 X rest D} (λσ' H' R' Γ' E' s' h'=>h' σ' H0 R0 H' R' E' D (λσ2 H2 R2 Γ2 E2 s2=>dn σ2 H2 R2 Γ2 E2 (s'.trans s2)) dr) dr)
theorem ao (h:W1 X st Γ N T):WS X [st] Γ N T:=λσ H0 R0 H R E D dn dr=>n5 (mW sD) (h σ H0 R0 H R E D dn dr)
theorem aL (i:Nat){y:α}(he:EV X e Γ r y Γ1)(h:N (Γ1.set i (.im r y)))(hN:X.N.Nodup:=by first | assumption | decide)(hi:X.N[i]?=some x:=by rfl)(hx:autoParam (Loc X.env.scope x) Pw)(hs:Km e (some (.Name x p1)) pos.line X.env=pure false:=by rfl)(hf:autoParam (X.fn x=true∨X.env.scope.names.lookup x=some .local) Pu):W1 X (.Assign [.Name x p1] e pos) Γ N T:=λσ H0 R0 H R E D dn dr=>
 sS (gQ hN hi hx aQ hs hf) (he σ H0 R0 H R E _ λv H1 R1 E1 s1 e1=>dn _ H1 R1 _ (E1.set i e1) s1 h)
theorem cD (i:Nat)(he:aO X e Γ r ys Γ1)(h:N (Γ1.set i (.mu r ys)))(hN:X.N.Nodup:=by first | assumption | decide)(hi:X.N[i]?=some x:=by rfl)(hx:autoParam (Loc X.env.scope x) Pw)(hs:Km e (some (.Name x p1)) pos.line X.env=pure false:=by rfl)(hf:autoParam (X.fn x=true∨X.env.scope.names.lookup x=some .local) Pu):W1 X (.Assign [.Name x p1] e pos) Γ N T:=λσ H0 R0 H R E D dn dr=>
 sS (gQ hN hi hx aQ hs hf) (he σ H0 R0 H R E _ λa vs H1 R1 E1 s1 ha hR h0 off p z=>dn _ H1 R1 _ (E1.tO (u:=.lst vs) (en:=.mu r ys) i ⟨a,vs,rfl,ha,hR,p⟩ h0 λj e _ q w=>off j e q w) s1 h)
theorem aN {P:α->Prop}{y:α}(he:EV X e Γ r y Γ1)(h:P y):W1 X (.Return (some e) pos) Γ N (bM X.K r P):=λσ H0 R0 H R E D dn dr=>
 sS (lx aQ) (he σ H0 R0 H R E _ λv H1 R1 E1 s1 e1=>dr v H1 R1 E1.ext ⟨y,e1,h⟩)
theorem aP {a b:List Stmt}{k:Bool}(hc:TV X c Γ k Γ1)(h1:k=true->WS X a Γ1 N T)(h2:k=false->WS X b Γ1 N T):W1 X (.If c a b pos) Γ N T:=λσ H0 R0 H R E D dn dr=>by
 refine sS (Ea jJ dQ dQ) (hc σ H0 R0 H R E _ λH1 R1 E1 s1=>?_);cases k with
 | true=>exact ij (h1 rfl σ H0 R0 H1 R1 E1 D (λσ2 H2 R2 Γ2 E2 s2=>dn σ2 H2 R2 Γ2 E2 (s1.trans s2)) dr)
 | false=>exact jv (h2 rfl σ H0 R0 H1 R1 E1 D (λσ2 H2 R2 Γ2 E2 s2=>dn σ2 H2 R2 Γ2 E2 (s1.trans s2)) dr)
theorem bB (i:Nat)(hN:X.N.Nodup:=by first | assumption | decide)(hi:X.N[i]?=some x:=by rfl)(hx:autoParam (Loc X.env.scope x) Pw)(hf:autoParam (X.fn x=true∨X.env.scope.names.lookup x=some .local) Pu):
 BG X (.Name x pos) r (λy Γ=>Γ.set i (.im r y)):=λσ H0 R0 H R Γ v x E h Q q=>gS (iX hN hi hx hf) (q _ (E.set i h))
theorem fJ (i j:Nat){k:Nat}(hc:X.calm=true:=by rfl)(hN:X.N.Nodup:=by first | assumption | decide)(hi:X.N[i]?=some x:=by rfl)(hx:autoParam (Loc X.env.scope x) Pw)(hf:autoParam (X.fn x=true∨X.env.scope.names.lookup x=some .local) Pu)(hj:X.N[j]?=some y:=by rfl)(hy:autoParam (Loc X.env.scope y) Pw)(hf':autoParam (X.fn y=true∨X.env.scope.names.lookup y=some .local) Pu):
 BG X (.Tuple [.Name x p1,.Name y p2] k pos) (de r r') (λw Γ=>(Γ.set i (.im r w.1)).set j (.im r' w.2)):=λσ H0 R0 H R Γ v w E h Q q=>by
 obtain⟨a,v1,v2,rfl,ha,e1,e2⟩:=h;exact gS (uz hc (iY (iX hN hi hx hf) (iY (iX hN hj hy hf') rH))) ⟨a,_,rfl,du.of (E.sub _ _ ha),rfl,v1,[v2],rfl,v2,[],rfl,rfl,q _ ((E.set i e1).set j e2)⟩
variable {body:List Stmt}
section
variable {kvs:List (Int×V)}{y:α}
theorem at_of (e:(σ[i]?).join=some v):σ[i]?=some (some v):=by
 cases es:σ[i]? with
 | none=>rw[es] at e;cases e
 | some o=>rw[es] at e;exact congrArg some e
theorem iM (I:Nat->Ga->Prop){m0:Nat}(h0:I m0 Γ)(OW:∀(m:Nat)(Γ:Ga),I m Γ->∃(k:Bool)(Γ':Ga),TV X c Γ k Γ'/\(k=true->WS X body Γ' (λΓ''=>∃m',m'<m/\I m' Γ'') T)/\(k=false->N Γ'))(hp:Lz (model X.prog X.w) X.A X.env X.xe:=by exact Lz.never):W1 X (.While c body [] pos) Γ N T:=λσ H0 R0 H R E D dn dr=>by
 refine sS (pB hp jJ dQ) ?_;refine⟨λm σ' H'=>∃R' Γ',aA X.K σ' H0 R0 H' R' Γ'/\ay R R'/\I m Γ',⟨m0,R,Γ,E,ay.refl _,h0⟩,?_⟩;rintro m σ' H' ⟨R',Γ',E',s',hI⟩;obtain⟨k,Γ2,ht,h1,h2⟩:=OW m Γ' hI;refine ht σ' H0 R0 H' R' E' _ λH1 R1 E1 s1=>?_;cases k with
 | true=>
   refine ij ⟨_,λσ2 H2 h=>h,h1 rfl σ' H0 R0 H1 R1 E1 _ (λσ3 H3 R3 Γ3 E3 s3 h3=>?_) dr⟩;obtain⟨m',hm,hI'⟩:=h3;exact⟨m',hm,R3,Γ3,E3,s'.trans (s1.trans s3),hI'⟩
 | false=>exact jv (dn σ' H1 R1 Γ2 E1 (s'.trans s1) (h2 rfl))
theorem cb (i:Nat){ap cp:Pos}(he:EV X e Γ r y Γ1)(hΓ:Γ[i]?=some (.mu r xs))(hΓ1:Γ1[i]?=some (.mu r xs))(hz:xs.length<Ke)(h:N (Γ1.set i (.mu r (xs++[y]))))(hN:X.N[i]?=some x:=by rfl)(hv:autoParam (dc X.env.scope x) OA)(hd:N3 x:=by decide)(NV:Ov x:=by decide)(OU:Km (.Call (.Attribute (.Name x p1) "append" ap) [e] [] cp) none pos.line X.env=pure false:=by rfl)(NT:Kk (.Name x p1) "append" X.env (eval (.Name x p1) X.env)=eval (.Name x p1) X.env:=by rfl)(Oe:((Ko cp (Kf [e] X.env)).all (λx=> !x.1)&&(K7 cp (KQ [] X.env)).all (λx=>x.1.isSome)
  &&decide ([e].length+([]:List Kx).length+(if([]:List Kx).isEmpty then 0 else 1)<30))=true:=by rfl)(NY:(ap.endLine==cp.line)=true:=by rfl)(hs:Kf [e] X.env=(false,eval e X.env)::Kf [] X.env:=by rfl):W1 X (.Expr (.Call (.Attribute (.Name x p1) "append" ap) [e] [] cp) pos) Γ N T:=λσ H0 R0 H R E D dn dr=>by
 obtain⟨a,vs,ea,ha,hR,pp⟩:=E.ent i _ hΓ;refine sS (iQ (i6 Mf PySem.F.slot_list_append PySem.F.type_list_append vb (bD hN hv hd NV) (aZ aQ bG hs) NT Oe NY hs rfl) OU) ?_;refine⟨.ref a,at_of ea,.inl ⟨rfl,vs,bp.of ha⟩,he σ H0 R0 H R E _ λv H1 R1 E1 s1 e1=>?_⟩;obtain⟨a',Oz,OS,Pq,Ou,PM⟩:=E1.ent i _ hΓ1;rw[ea] at OS;cases OS
 refine⟨a,Oz,v,rfl,rfl,Pq,by rw[PM.length];exact hz,?_⟩;exact dn σ _ R1 _ (E1.upd (en:=.mu r (xs++[y])) hΓ1 rfl ea Ou ⟨a,_,rfl,aD,Ou,c7 PM (.cons e1 .nil)⟩) s1 h
theorem kY {F:α->β->Prop}{v:α}{y:β}(h:F v y):∀{vs:List α}{xs:List β}(i:Nat),PySem.Paired F vs xs->PySem.Paired F (vs.set i v) (xs.set i y)
 | _,_,_,.nil=>.nil
 | _,_,0,.cons _ t=>.cons h t
 | _,_,i+1,.cons q t=>.cons q (kY h i t)
theorem mS (i:Nat){k:Int}(he:EV X e Γ r y Γ1)(hb:EV X b Γ1 ai k Γ2)(hΓ1:Γ1[i]?=some (.mu r xs))(hΓ2:Γ2[i]?=some (.mu r xs))(hj:fw xs.length k=some j)(h:N (Γ2.set i (.mu r (xs.set j y))))(hN:X.N[i]?=some x:=by rfl)(hv:autoParam (dc X.env.scope x) OA)(hd:N3 x:=by decide)(NV:Ov x:=by decide)(ha:∀v,K5 (.Subscript (.Name x p1) b p2) X.env v=(do
  let ov ← K2 [v] (eval (.Name x p1) X.env)
  let iv ← K2 [v,ov] (eval b X.env)
  Ls p2
  K2 [v,ov,iv] (setItem ov iv v)
  release [v,ov,iv] []):=by intro _;rfl)(hs:LS [.Subscript (.Name x p1) b p2] e pos.line X.env=pure false:=by rfl)(hw:LU [.Subscript (.Name x p1) b p2] e X.env=pure none:=by rfl)(h1:(KY [.Subscript (.Name x p1) b p2] X.env).map (·.2)=[K5 (.Subscript (.Name x p1) b p2) X.env]:=by rfl):
 W1 X (.Assign [.Subscript (.Name x p1) b p2] e pos) Γ N T:=λσ H0 R0 H R E D dn dr=>by
 refine sS (vF aQ (Cc (bD hN hv hd NV) aQ set_list ha) hs hw h1) (he σ H0 R0 H R E _ λv H1 R1 E1 s1 e1=>?_);obtain⟨a,vs,ea,hp,hR,pp⟩:=E1.ent i _ hΓ1;refine⟨.ref a,at_of ea,hb σ H0 R0 H1 R1 E1 _ λu H2 R2 E2 s2 e2=>?_⟩;obtain⟨a',Oz,OS,Pq,Ou,PM⟩:=E2.ent i _ hΓ2;rw[ea] at OS;cases OS
 refine⟨a,Oz,k,j,rfl,e2,Pq,by rw[PM.length];exact hj,?_⟩;exact dn σ _ R2 _ (E2.upd (en:=.mu r (xs.set j y)) hΓ2 rfl ea Ou ⟨a,_,rfl,aD,Ou,kY (r.mono s2 e1) j PM⟩) (s1.trans s2) h
theorem mB {xs:List β}(p:PySem.Paired F vs xs):PySem.Paired F vs.dropLast xs.dropLast:=by
 rw[List.dropLast_eq_take,List.dropLast_eq_take,p.length];exact fW _ p
theorem lU (i:Nat){ap cp:Pos}(hΓ:Γ[i]?=some (.mu r xs))(hy:xs[xs.length-1]?=some y)(hN:X.N[i]?=some x:=by rfl)(hv:autoParam (dc X.env.scope x) OA)(hd:N3 x:=by decide)(NV:Ov x:=by decide)(NT:Kk (.Name x p1) "pop" X.env (eval (.Name x p1) X.env)=eval (.Name x p1) X.env:=by rfl)(NY:(ap.endLine==cp.line)=true:=by rfl):
 EV X (.Call (.Attribute (.Name x p1) "pop" ap) [] [] cp) Γ r y (Γ.set i (.mu r xs.dropLast)):=by
 intro σ H0 R0 H R E Q q;obtain⟨a,vs,ea,ha,hR,pp⟩:=E.ent i _ hΓ;obtain⟨v,PH,hr⟩:=dz pp hy;refine eS (Ax Mf PySem.F.slot_list_pop PySem.F.type_list_pop Di (bD hN hv hd NV) NT NY) ⟨.ref a,at_of ea,.inl ⟨rfl,vs,bp.of ha⟩,?_⟩;refine⟨a,vs,v,rfl,rfl,ha,by rw[pp.length];exact PH,?_⟩;exact q v _ R (E.upd hΓ rfl ea hR ⟨a,_,rfl,aD,hR,mB pp⟩) (ay.refl _) hr
theorem mq (i:Nat)(hΓ:Γ[i]?=some (.mu r xs))(hN:X.N[i]?=some x:=by rfl)(hv:autoParam (dc X.env.scope x) OA)(hd:N3 x:=by decide)(NV:Ov x:=by decide)(he:∀whole,K4 (.Name x pos) X.env whole=(do let v ← whole;Ls (Expr.Name x pos).pos;K2 [v] (truthy v)):=by intro _;rfl):TV X (.Name x pos) Γ (!xs.isEmpty) Γ:=by
 intro σ H0 R0 H R E Q q;obtain⟨a,vs,ea,ha,hR,pp⟩:=E.ent i _ hΓ;refine tS (qh (bD hN hv hd NV) he) ⟨.ref a,at_of ea, !xs.isEmpty,.inl ⟨vs,bp.of ha,?_⟩,q H R E (ay.refl _)⟩;cases pp<;>rfl
theorem jQ (i:Nat)(hm:X.mg "len"=none)(hΓ:Γ[i]?=some (.mu r xs))(hN:X.N[i]?=some x:=by rfl)(hv:autoParam (dc X.env.scope x) OA)(hd:N3 x:=by decide)(NV:Ov x:=by decide)(hg:Gl X "len":=by rfl):EV X (.Call (.Name "len" p) [.Name x p1] [] pos) Γ ai (xs.length:Int) Γ:=by
 intro σ H0 R0 H R E Q q;obtain⟨a,vs,ea,ha,hR,pp⟩:=E.ent i _ hΓ;refine eS (c5 g9 hg hm KW (aZ (bD hN hv hd NV) bG rfl) (by decide) (by decide) rfl) ⟨.ref a,at_of ea,a,vs,rfl,.inl (bp.of ha),?_⟩;rw[pp.length];exact q _ H R E (ay.refl _) rfl
theorem freeze (E:aA K σ H0 R0 H R Γ)(hΓ:Γ[i]?=some (.mu r xs))(hz:xs.length<=Ke):∃R' v,aA K σ H0 R0 H R' (Γ.set i (.im (ag r) xs))/\ay R R'/\(σ[i]?).join=some v/\(ag r).R K R' v xs:=by
 obtain⟨a,vs,ea,ha,hR,pp⟩:=E.ent i _ hΓ;have h0:H0 a=none:=E.new i _ a hΓ rfl ea;have s2:ay R (upd R a (.lst vs)):=ay.fresh hR _;have rr:(ag r).R K (upd R a (.lst vs)) (.ref a) xs:=⟨a,vs,rfl,aD,Paired.map (λ_ _=>r.mono s2) pp,hz⟩;have E1:aA K σ H0 R0 H R (Γ.set i .no):=E.tell hΓ trivial λb w=>by cases w
 have E2:=E1.oV ha hR h0 λj e q w=>by
  rcases set_at q with⟨rfl,rfl,_⟩ | ⟨hj,q1⟩
  ·cases w
  ·exact hj (E.ds j i e _ a q1 hΓ w ((Ent.lB (e:=.mu r xs) rfl).mpr ea))
 have hl:i<Γ.length:=(HW.mp hΓ).1;have E3:=E2.tell (i:=i) (e0:=.no) (en:=.im (ag r) xs) (IG hl) ⟨_,ea,rr⟩ λb w=>by cases w
 rw[List.set_set] at E3;exact⟨_,.ref a,E3,s2,ea,rr⟩
theorem WS.freeze (i:Nat){OI:List Stmt}(hΓ:Γ[i]?=some (.mu r xs))(hz:xs.length<=Ke)(h:WS X OI (Γ.set i (.im (ag r) xs)) N T):WS X OI Γ N T:=λσ H0 R0 H R E D dn dr=>by
 obtain⟨R',v,E',s',_,_⟩:=Fc.freeze E hΓ hz;exact h σ H0 R0 H R' E' D (λσ2 H2 R2 Γ2 E2 s2=>dn σ2 H2 R2 Γ2 E2 (s'.trans s2)) dr
def fV:Rep (List (Int×V)):=⟨λK H v kvs=>∃a,v= .ref a/\H a=some (.dK (bR kvs)),λs ⟨a,e,q⟩=>⟨a,e,s _ _ q⟩⟩
def fR (kvs:List (Int×V))(k:Int):Bool:=kvs.any λp=>decide (p.1=k)
theorem me (kvs:List (Int×V))(k:Int):(cx (bR kvs) (Nv k:Key)).isSome=fR kvs k:=by
 rw[← dS];unfold bR fR;rw[any_map];congr 1;funext p;show decide ((Nv p.1:Key)=Nv k)=decide (p.1=k);by_cases h:p.1=k
 ·rw[h];simp
 ·rw[NH h,NH λz=>h (Nv.inj z)]
theorem za (i:Nat)(neg:Bool){k:Int}(hu:X.A.units+1<cLine)(he:EV X e Γ ai k Γ)(hΓ:Γ[i]?=some (.di kvs))(hN:X.N[i]?=some x:=by rfl)(hv:autoParam (dc X.env.scope x) OA)(hd:N3 x:=by decide)(NV:Ov x:=by decide):
 TV X (.Compare e [if neg then .NotIn else .In] [.Name x p1] pos) Γ (if neg then !fR kvs k else fR kvs k) Γ:=by
 intro σ H0 R0 H R E Q q;cases neg with
 | false=>
   refine tS (jF (BQ hu aQ (bD hN hv hd NV)) (by with_unfolding_all rfl)) (he σ H0 R0 H R E _ λv H1 R1 E1 s1 e1=>?_);obtain⟨a,ea,ha,hR⟩:=E1.ent i _ hΓ;cases e1
   refine⟨.ref a,at_of ea,a,_,rfl,eR.k (k:=Nv k) ha,_,rfl,?_⟩;rw[me];exact q H1 R1 E1 s1
 | true=>
   refine tS (jF (jA hu aQ (bD hN hv hd NV)) (by with_unfolding_all rfl)) (he σ H0 R0 H R E _ λv H1 R1 E1 s1 e1=>?_);obtain⟨a,ea,ha,hR⟩:=E1.ent i _ hΓ;cases e1
   refine⟨.ref a,at_of ea,a,_,rfl,eR.k (k:=Nv k) ha,_,rfl,?_⟩;rw[me];exact q H1 R1 E1 s1
theorem uw (i:Nat){ke ve:Expr}{k:Int}(hu:X.A.units+1<cLine)(hk:EV X ke Γ ai k Γ)(hv:PE X ve (tC v))(hΓ:Γ[i]?=some (.di kvs))(hn:fR kvs k=false)(hz:kvs.length<Ke)(h:N (Γ.set i (.di (kvs++[(k,v)]))))(hN:X.N[i]?=some x:=by rfl)(RM:autoParam (dc X.env.scope x) OA)(hd:N3 x:=by decide)(NV:Ov x:=by decide)(hs:Km ve (some (.Subscript (.Name x p1) ke p2)) pos.line X.env=pure false:=by rfl):W1 X (.Assign [.Subscript (.Name x p1) ke p2] ve pos) Γ N T:=λσ H0 R0 H R E D dn dr=>by
 refine sS (mC hu (bD hN RM hd NV) aQ hv hs) ?_;obtain⟨a,ea,ha,hR⟩:=E.ent i _ hΓ;refine⟨.ref a,at_of ea,hk σ H0 R0 H R E _ λu H1 R1 E1 s1 e1=>?_⟩;obtain⟨a',OS,Pq,Ou⟩:=E1.ent i _ hΓ;rw[ea] at OS;cases OS
 cases e1
 refine⟨a,_,rfl,kQ.k (k:=Nv k) Pq (by unfold bR;rw[HU];exact hz),?_⟩;have vn:cx (bR kvs) (Nv k:Key)=none:=by
  have:=me kvs k;rw[hn] at this;cases q:cx (bR kvs) (Nv k:Key) with
  | none=>rfl
  | some z=>rw[q] at this;cases this
 rw[qQ v vn];have e:bR kvs++[((Nv k:Key),v)]=bR (kvs++[(k,v)]):=by unfold bR;rw[IC];rfl
 rw[e];exact dn σ _ R1 _ (E1.upd (en:=.di (kvs++[(k,v)])) hΓ rfl ea Ou ⟨a,rfl,aD,Ou⟩) s1 h
theorem Cv (i:Nat){P:List (Int×V)->Prop}(hΓ:Γ[i]?=some (.di kvs))(h:P kvs)(hN:X.N[i]?=some x:=by rfl)(hv:autoParam (dc X.env.scope x) OA)(hd:N3 x:=by decide)(NV:Ov x:=by decide):W1 X (.Return (some (.Name x p1)) pos) Γ N (bM X.K fV P):=λσ H0 R0 H R E D dn dr=>by
 obtain⟨a,ea,ha,hR⟩:=E.ent i _ hΓ;have h0:H0 a=none:=E.new i _ a hΓ rfl ea;refine sS (lx (bD hN hv hd NV)) ⟨.ref a,at_of ea,dr _ H (upd R a (.dK (bR kvs))) ⟨E.ext.h,E.ext.r.trans (ay.fresh hR _),λb o qb=>?_,λb hb=>?_⟩ ⟨kvs,⟨a,rfl,aD⟩,h⟩⟩
 ·by_cases hb:b=a
  ·subst hb;rw[aD] at qb;cases qb;exact ha
  ·rw[aB hb] at qb;exact E.ext.s b o qb
 ·rw[aB (show b≠a from λe=>hb (by rw[e];exact h0))];exact E.ext.old b hb
theorem zQ (hm:X.mg "len"=none)(ha:EV X a Γ fV kvs Γ1)(hs:Kf [a] X.env=[(false,eval a X.env)]:=by rfl)(hg:Gl X "len":=by rfl):EV X (.Call (.Name "len" p) [a] [] pos) Γ ai (kvs.length:Int) Γ1:=by
 intro σ H0 R0 H R E Q q;refine eS (c5 nS hg hm KW (aZ aQ bG hs) (by decide) (by decide) hs) (ha σ H0 R0 H R E _ λv H1 R1 E1 s1 e1=>?_);obtain⟨p,rfl,hp⟩:=e1;refine⟨p,_,rfl,E1.sub _ _ hp,?_⟩;unfold bR;rw[HU];exact q _ H1 R1 E1 s1 rfl
end
abbrev cB:=MO->List Pk->RT->Prop
def aG (S:cB)(K:MO):Sp:=λvs H Q _=>∃R ps T,ay R H/\hU K R vs ps/\S K ps T/\∀v H' R',Ext H R H' R'->T H v H' R'->Q v H'
theorem hU.length {K:MO}{R:Hp}:∀{vs:List V}{ps:List Pk},hU K R vs ps->vs.length=ps.length
 | _,_,.nil=>rfl
 | _,_,.cons _ t=>by rw[Iy,Iy,hU.length t]
structure aH (P:Kh)(w:World)(K:MO)(mg:Hq)(base:Heap)(x:Str)(k:Nat)(sp:Sp):Prop where
 ex:∃f fd ps,ck P w K mg base cW k f fd ps sp/\mg x=some (.ref f)/\MT K (.ref f)=true/\Binds K fd ps []
theorem aH.mono {P:Kh}{w:World}{K:MO}{mg:Hq}{base:Heap}{x:Str}{j k:Nat}{sp:Sp}(c:aH P w K mg base x j sp)(h:j<=k):aH P w K mg base x k sp:=by
 obtain⟨f,fd,ps,F,a,b,c⟩:=c.ex;exact⟨f,fd,ps,F.mono h,a,b,c⟩
variable {ps:List Pk}{S:cB}
theorem pM {k:Nat}(C:aH X.prog X.w X.K X.mg X.base x k (aG S X.K))(hr:bz k X.A)(ha:HA X (e::es) Γ ps Γ1)(hS:S X.K ps T)(E:aA X.K σ H0 R0 H R Γ)(q:∀H1 R1 v H' R',aA X.K σ H0 R0 H1 R1 Γ1->ay R R1->Ext H1 R1 H' R'->T H1 v H' R'->Q v H')(hg:Gl X x)(Om:(x==("__debug__":Str))=false)(he:Kf (e::es) X.env=(false,eval e X.env)::Kf es X.env)(N8:(Ko pos (Kf es X.env)).any (·.1)=false):fD X (.Call (.Name x p) (e::es) [] pos) σ H Q:=by
 obtain⟨f,fd,pn,F,hm,hk,hb⟩:=C.ex;refine eS (zO F hr hg hm hk hb .nil yC kE Om he N8) (ha σ H0 R0 H R E _ λvs H1 R1 E1 s1 p1=>?_);refine⟨R1,ps,T,E1.sub,by rw[Ip];exact p1,hS,λv H' R' x t=>q H1 R1 v H' R' E1 s1 x t⟩
theorem ax {k:Nat}{y:α}(C:aH X.prog X.w X.K X.mg X.base x k (aG S X.K))(hr:bz k X.A)(ha:HA X (e::es) Γ ps Γ1)(hS:S X.K ps (bM X.K r (· =y)))(hg:Gl X x:=by rfl)(Om:N3 x:=by decide)(he:Kf (e::es) X.env=(false,eval e X.env)::Kf es X.env:=by rfl)(N8:(Ko pos (Kf es X.env)).any (·.1)=false:=by rfl):EV X (.Call (.Name x p) (e::es) [] pos) Γ r y Γ1:=λσ H0 R0 H R E Q q=>
 pM C hr ha hS E (λH1 R1 v H' R' E1 s1 xx t=>by
  obtain⟨z,e1,rfl⟩:=t;exact q v H' R' (E1.grow xx) (s1.trans xx.r) e1) hg Om he N8
def eh (ps:List Pk)(n:Nat):Ga:=ps.map (λp=>Ent.im p.r p.x)++HZ (n-ps.length) .no
theorem eK {vs:List V}{N:Ht}(s:ay R H)(p:hU K R vs ps)(hl:ps.length<=N.length):aA K (L2.start N vs) H R H R (eh ps N.length):=by
 have Ob:∀(i:Nat)(e:Ent)(o:Option V),(eh ps N.length)[i]?=some e->e.fp o=[]:=λi e o q=>by
  unfold eh at q;rcases Ij.mp (Iw q) with z | z
  ·obtain⟨p,_,rfl⟩:=Io.mp z;rfl
  ·obtain⟨_,rfl⟩:=JH.mp z;rfl
 refine⟨Ext.refl s,λi e q=>?_,λi e a q w=>Ny w (by rw[Ob i e _ q];exact Il),λi j e e' a q _ w=>Ny w (by rw[Ob i e _ q];exact Il),?_⟩
 ·have hp:=p.length;unfold eh at q;unfold L2.start;by_cases hi:i<ps.length
  ·rw[IF (by simpa using hi),Ii] at q;rw[IF (by simpa[hp] using hi),Ii];have key:∀{vs:List V}{ps:List Pk},hU K R vs ps->∀(i:Nat)(p:Pk),ps[i]?=some p->∃v,vs[i]?=some v/\p.r.R K R v p.x:=by
    intro vs ps h
    induction h with
    | nil=>intro i p e;simp at e
    | cons a b ih=>
      intro i p e;cases i with
      | zero=>simp at e;subst e;exact⟨_,rfl,a⟩
      | succ i=>simpa using ih i p (by simpa using e)
   cases e1:ps[i]? with
   | none=>rw[e1] at q;cases q
   | some p1=>
     rw[e1] at q;cases q
     obtain⟨v,h1,h2⟩:=key p i p1 e1;rw[h1];exact⟨v,rfl,h2⟩
  ·rw[IE (by simpa using hi),IW] at q;split at q
   ·cases q;trivial
   ·cases q
 ·unfold eh L2.start;rw[HV,HV,HU,HU,Iz,Iz,p.length]
variable {P:Kh}{w:World}{mg:Hq}{base:Heap}{f:Addr}{fd:Kn}
def Def (K:MO)(mg:Hq)(x:Str)(st:Stmt)(ps:Ht):Prop:=∃f fd,cY K x x st f fd/\mg x=some (.ref f)/\Binds K fd ps []
theorem h9 {qual:Str}{N ps:Ht}{k:Nat}(F:cY K x qual st f fd)(Sc:bq N ps (ak st))(hm:mg x=some (.ref f))(hb:Binds K fd ps [])(len:∀qs T,S K qs T->qs.length=ps.length)(N5:∀(NK:Value)(A:Kj)(outer:List Env)(s:Kc)(H:Hp)(E:XK)(qs:List Pk)(T:RT),bz k (A.deeper (J4 qual (ak st) s.heap.objs.size f NK))->S K qs T->
  WS (aT cW P w K mg base N qual (ak st) f NK A outer s H E).bV (ba st) (eh qs N.length) (λ_=>False) T):aH P w K mg base x (k+1) (aG S K):=by
 refine⟨f,fd,ps,?_,hm,F.kp,hb⟩;refine F.ok Sc (λvs H Q E h=>?_) (λNK A outer s H vs Q E hr h=>?_)
 ·obtain⟨R,qs,T,_,p,hS,_⟩:=h;rw[p.length];exact len qs T hS
 ·obtain⟨R,qs,T,sR,p,hS,q⟩:=h;have hl:qs.length<=N.length:=by
   rw[len qs T hS];have:=congrArg List.length Sc.pre;rw[Im] at this;omega
  exact⟨_,dQ,N5 NK A outer s H E qs T hr hS (L2.start N vs) H R H R (eK sR p hl) {nx:=λ_ H'=>Q .NS H',rt:=Q} (λ_ _ _ _ _ _ f=>f.elim) λv H' R' xx t=>q v H' R' xx t⟩
theorem bw {N ps:Ht}{k:Nat}(D:Def K mg x st ps)(N5:∀(f:Addr)(NK:Value)(A:Kj)(outer:List Env)(s:Kc)(H:Hp)(E:XK)(qs:List Pk)(T:RT),N.Nodup->bz k (A.deeper (J4 x (ak st) s.heap.objs.size f NK))->S K qs T->
  WS (aT cW P w K mg base N x (ak st) f NK A outer s H E).bV (ba st) (eh qs N.length) (λ_=>False) T)(len:∀qs T,S K qs T->qs.length=ps.length:=by(intros;rename_i h;repeat (first | (rw[h.1];rfl) | obtain⟨_,h⟩:=h)))(Sc:bq N ps (ak st):=by exact OT):aH P w K mg base x (k+1) (aG S K):=by
 obtain⟨f,fd,F,hm,hb⟩:=D;exact h9 F Sc hm hb len λNK A outer s H E qs T=>N5 f NK A outer s H E qs T Sc.nd
variable {ns:Hs}
theorem qy {bs:List Bool}{us:Hw}(r:Vals (bs.map V.bl) us){v:Value}(h:us.toArray[j]?=some v):v= .bool (bs.getD j true):=by
 induction bs generalizing us j with
 | nil=>cases r;simp at h
 | cons b r' ih=>
   cases r with
   | cons h1 t=>
     cases j with
     | zero=>simp at h;rw[← h];exact h1
     | succ j=>exact ih t (by simpa using h)
theorem all_range (bs:List Bool):((IL bs.length).all λj=>bs.getD j true)=bs.all id:=by
 rw[HG,IZ,IZ];constructor
 ·intro h b hb;obtain⟨j,hj,rfl⟩:=List.mem_iff_getElem.mp hb;have:=h j (Jb.mpr hj);simpa[HY,Ib hj] using this
 ·intro h j hj;have hj:=Jb.mp hj;simpa[HY,Ib hj] using h _ (Jm hj)
theorem any_range (bs:List Bool):((IL bs.length).any λj=>bs.getD j true)=bs.any id:=by
 rw[HG,Jz,Jz];constructor
 ·rintro⟨j,hj,h⟩;have hj:=Jb.mp hj;exact⟨_,Jm hj,by simpa[HY,Ib hj] using h⟩
 ·rintro⟨b,hb,h⟩;obtain⟨j,hj,rfl⟩:=List.mem_iff_getElem.mp hb;exact⟨j,Jb.mpr hj,by simpa[HY,Ib hj] using h⟩
theorem xN (hc:X.calm=true):dD X (.builtin "all") (λxs H Q=>∃(p:Addr)(bs:List Bool),xs=[.ref p]/\bp X.K H p (bs.map V.bl)/\Q (.bl (bs.all id)) H):=by
 intro NI s σ H xs us Q I r h;obtain⟨p,bs,rfl,hq,q⟩:=h;obtain⟨u,rfl,rx⟩:=vals1 r;cases rx
 obtain⟨NJ,r',pl,hz⟩:=I.list hq;have N2:p≠s.heap.objs.size:=λe=>by obtain⟨o,ho,_⟩:=pl.isList;exact Ny (Mo ho) (by rw[e];exact JP _)
 refine call_all_walk (Lb pl.isList ?_);refine⟨s.heap.objs.size,_,[s.heap.objs.size],NJ.toArray.size,_,_,λj=>bs.getD j true,rfl,Walks.list (A:=X.A.in1) (show X.A.in1.handled=none from I.ok.hd hc) s.heap.objs.size p N2 NJ.toArray,?_,λj v s Q E hv hQ=>?_,λh' tk hk=>?_⟩
 ·refine⟨⟨_,Mp _ rfl,rfl,rfl⟩,?_⟩;obtain⟨o,ho,c,n,d⟩:=pl.isList;exact⟨o,Mn _ ho,c,n,d⟩
 ·rw[qy r' hv];exact Kq hQ
 ·have e:NJ.toArray.size=bs.length:=by rw[Ig,← r'.length,HU]
  rw[e,all_range];exact⟨.bl _,H,I.kept λb o e=>hk b o (λz=>Ny (Mo e) (by rw[HX.mp z];exact JP _)) (Mn _ e),rfl,q⟩
theorem xa (hc:X.calm=true):dD X (.builtin "any") (λxs H Q=>∃(p:Addr)(bs:List Bool),xs=[.ref p]/\bp X.K H p (bs.map V.bl)/\Q (.bl (bs.any id)) H):=by
 intro NI s σ H xs us Q I r h;obtain⟨p,bs,rfl,hq,q⟩:=h;obtain⟨u,rfl,rx⟩:=vals1 r;cases rx
 obtain⟨NJ,r',pl,hz⟩:=I.list hq;have N2:p≠s.heap.objs.size:=λe=>by obtain⟨o,ho,_⟩:=pl.isList;exact Ny (Mo ho) (by rw[e];exact JP _)
 refine call_any_walk (Lb pl.isList ?_);refine⟨s.heap.objs.size,_,[s.heap.objs.size],NJ.toArray.size,_,_,λj=>bs.getD j true,rfl,Walks.list (A:=X.A.in1) (show X.A.in1.handled=none from I.ok.hd hc) s.heap.objs.size p N2 NJ.toArray,?_,λj v s Q E hv hQ=>?_,λh' tk hk=>?_⟩
 ·refine⟨⟨_,Mp _ rfl,rfl,rfl⟩,?_⟩;obtain⟨o,ho,c,n,d⟩:=pl.isList;exact⟨o,Mn _ ho,c,n,d⟩
 ·rw[qy r' hv];exact Kq hQ
 ·have e:NJ.toArray.size=bs.length:=by rw[Ig,← r'.length,HU]
  rw[e,any_range];exact⟨.bl _,H,I.kept λb o e=>hk b o (λz=>Ny (Mo e) (by rw[HX.mp z];exact JP _)) (Mn _ e),rfl,q⟩
theorem gZ {K:MO}{R:Hp}:∀{vs:List V}{xs:List Bool},PySem.Paired (aY.R K R) vs xs->vs=xs.map V.bl
 | _,_,.nil=>rfl
 | _,_,.cons h t=>by rw[Iu,← gZ t];exact congrArg (· ::_) h
theorem sQ {id:String}{r:List V->Hp->VK->Prop}{y:α}{z:β}(hc:dD X (.builtin id) r)(hm:X.mg x=none)(hv:Kz x=some (.builtin id))(ha:EV X a Γ ra y Γ1)(h:∀(R H:Hp) v Q,ay R H->ra.R X.K R v y->(∀w,rb.R X.K R w z->Q w H)->r [v] H Q)(hs:Kf [a] X.env=[(false,eval a X.env)]:=by rfl)(hg:Gl X x:=by rfl)(hn:x≠"__name__":=by decide)(Om:N3 x:=by decide):
 EV X (.Call (.Name x p) [a] [] pos) Γ rb z Γ1:=by
 intro σ H0 R0 H R E Q q;exact eS (c5 hc hg hm hv (aZ aQ bG hs) hn Om hs) (ha σ H0 R0 H R E _ λv H1 R1 E1 s1 e1=>h R1 H1 v _ E1.sub e1 λw hw=>q w H1 R1 E1 s1 hw)
theorem B8 {bs:List Bool}(hm:X.mg "all"=none)(ha:EV X a Γ (ag aY) bs Γ1)(hs:Kf [a] X.env=[(false,eval a X.env)]:=by rfl)(hc:X.calm=true:=by rfl)(hg:Gl X "all":=by rfl):EV X (.Call (.Name "all" p) [a] [] pos) Γ aY (bs.all id) Γ1:=
 sQ (xN hc) hm boot_all ha (λR H v Q s ⟨p,vs,e,hp,pp,_⟩ q=>⟨p,bs,by rw[e],by rw[← gZ pp];exact bp.of (s _ _ hp),q _ rfl⟩) hs hg
theorem Ap {bs:List Bool}(hm:X.mg "any"=none)(ha:EV X a Γ (ag aY) bs Γ1)(hs:Kf [a] X.env=[(false,eval a X.env)]:=by rfl)(hc:X.calm=true:=by rfl)(hg:Gl X "any":=by rfl):EV X (.Call (.Name "any" p) [a] [] pos) Γ aY (bs.any id) Γ1:=
 sQ (xa hc) hm boot_any ha (λR H v Q s ⟨p,vs,e,hp,pp,_⟩ q=>⟨p,bs,by rw[e],by rw[← gZ pp];exact bp.of (s _ _ hp),q _ rfl⟩) hs hg
theorem zx {b:Bool}(hm:X.mg "int"=none)(ha:EV X a Γ aY b Γ1)(hs:Kf [a] X.env=[(false,eval a X.env)]:=by rfl)(hg:Gl X "int":=by rfl):EV X (.Call (.Name "int" p) [a] [] pos) Γ ai (if b then 1 else 0) Γ1:=by
 intro σ H0 R0 H R E Q q;exact eS (js uq hg hm PyProof.Rows.boot_int (aZ aQ bG hs) (by decide) (by decide) hs) (ha σ H0 R0 H R E _ λv H1 R1 E1 s1 e1=>.inr ⟨b,by rw[show v=V.bl b from e1],q _ H1 R1 E1 s1 rfl⟩)
theorem v7 (hc:X.calm=true):dD X (.builtin "min") (λxs H Q=>∃(p:Addr)(ns:Hs),xs=[.ref p]/\bp X.K H p (ns.map V.int)/\ns≠[]/\∀M,M∈ns->(∀a∈ns,M<=a)->Q (.int M) H):=by
 intro NI s σ H xs us Q I r h;obtain⟨p,ns,rfl,hq,N2,q⟩:=h;obtain⟨u,rfl,rx⟩:=vals1 r;cases rx
 obtain⟨NJ,r',pl,hz⟩:=I.list hq;have hi:=intsAre_of r';have N2:0<ns.length:=List.length_pos_iff.mpr N2;have hl:=pl.isList;obtain⟨xs,e⟩:=hi.allInts.items;have P8:ns=xs.toList.map (·.1):=by rw[← hi.numsOf,← nums_intItems,← e]
 have hsz:0<xs.size:=by
  have h3:=N2;rw[P8,HU,Hz] at h3;exact h3
 rw[e] at hl;refine min_intList (I.ok.hd hc) hl hsz λv h' tk hv hk=>?_;obtain⟨t,rfl⟩:=intItems_at hv;obtain⟨h1,h2⟩:=argBest_lt (numAt xs) (xs.size-1);refine⟨.int _,H,I.kept hk,⟨t,rfl⟩,q _ ?_ λa ha=>?_⟩
 ·rw[P8,numAt_eq];exact getD_mem (by rw[HU,Hz];omega)
 ·rw[P8] at ha;obtain⟨j,hj,rfl⟩:=mem_getD ha;rw[HU,Hz] at hj;rw[← numAt_eq];exact h2 j (by omega)
def least:Hs->Int
 | []=>0
 | [x]=>x
 | x::y::r=>min x (least (y::r))
theorem pZ:∀{ns:Hs}{M:Int},M∈ns->(∀a∈ns,M<=a)->least ns=M:=by
 have key:∀(ns:Hs),ns≠[]->least ns∈ns/\∀a∈ns,least ns<=a:=by
  intro ns
  induction ns with
  | nil=>intro h;exact Ny rfl h
  | cons x r ih=>
    intro _;cases r with
    | nil=>simp[least]
    | cons y r=>
      obtain⟨h1,h2⟩:=ih (by simp);show min x (least (y::r))∈_/\_;refine⟨?_,λa ha=>?_⟩
      ·rcases Int.le_total x (least (y::r)) with h | h
       ·rw[Int.min_eq_left h];exact Ic
       ·rw[Int.min_eq_right h];exact Ia _ h1
      ·show min x (least (y::r))<=a;rcases Ih.mp ha with rfl | ha
       ·exact Int.min_le_left _ _
       ·exact Int.le_trans (Int.min_le_right _ _) (h2 a ha)
 intro ns M h1 h2;obtain⟨h3,h4⟩:=key ns (λe=>by rw[e] at h1;cases h1)
 exact Int.le_antisymm (h4 M h1) (h2 _ h3)
theorem y4 (hm:X.mg "min"=none)(ha:EV X a Γ (ag ai) ns Γ1)(N2:ns≠[])(hs:Kf [a] X.env=[(false,eval a X.env)]:=by rfl)(hc:X.calm=true:=by rfl)(hg:Gl X "min":=by rfl):EV X (.Call (.Name "min" p) [a] [] pos) Γ ai (least ns) Γ1:=
 sQ (v7 hc) hm PyProof.Rows.boot_min ha (λR H v Q s ⟨p,vs,e,hp,pp,_⟩ q=>⟨p,ns,by rw[e],by rw[← j9 pp];exact bp.of (s _ _ hp),N2,λM h1 h2=>by rw[← pZ h1 h2];exact q _ rfl⟩) hs hg
theorem zL {x y:Int}(hm:X.mg "min"=none)(ha:HA X [a,b] Γ [⟨ai,x⟩,⟨ai,y⟩] Γ1)(hs:Kf [a,b] X.env=(false,eval a X.env)::Kf [b] X.env:=by rfl)(hc:X.calm=true:=by rfl)(hg:Gl X "min":=by rfl)(N8:(Ko pos (Kf [b] X.env)).any (·.1)=false:=by rfl):EV X (.Call (.Name "min" p) [a,b] [] pos) Γ ai (if y<x then y else x) Γ1:=by
 intro σ H0 R0 H R E Q q;refine eS (c5 (wq hc) hg hm PyProof.Rows.boot_min kE (by decide) (by decide) hs N8) (ha σ H0 R0 H R E _ λvs H1 R1 E1 s1 p1=>?_);cases p1 with
 | cons a1 t=>cases t with
   | cons a2 t2=>cases t2;cases a1;cases a2;exact⟨x,y,rfl,q _ H1 R1 E1 s1 rfl⟩
def Src (K:MO)(J:It)(R1:Hp){α:Type}(r:Rep α)(xs:List α):Prop:=
 ∀(H' R':Hp),ay R1 R'->ay R' H'->∀i:Nat,(∀x,xs[i]?=some x->J.go i H'/\∀v H2,J.Rr i H' v H2->∃R2,Ext H' R' H2 R2/\r.R K R2 v x)/\(xs.length<=i->J.stop i H')
variable {scope:Scope}{fr:Ht}{ix:List Nat}{R1:Hp}
section
variable {tg:Expr}{iter:Expr}{bf:α->Ga->Ga}{elt:Expr}{ifs:Hx}{cl:List (Str×Addr)}{p:α->Bool}{f:α->β}
def IV (X:Cx)(tg iter:Expr)(Γ:Ga){α:Type}(r:Rep α)(xs:List α)(Γ1:Ga):Prop:=
 ∃wi,PI X tg iter wi/\∀(σ:St)(H0 R0 H R:Hp),aA X.K σ H0 R0 H R Γ->∀Rq:It->Hp->Prop,(∀J H1 R1,aA X.K σ H0 R0 H1 R1 Γ1->ay R R1->xs.length<=Ke->Src X.K J R1 r xs->Rq J H1)->wi σ H Rq
theorem cZ (h:EV X iter Γ (ag r) xs Γ1):IV X tg iter Γ r xs Γ1:=by
 refine⟨_,Ad aQ,λσ H0 R0 H R E Rq q=>h σ H0 R0 H R E _ λv H1 R1 E1 s1 e1=>?_⟩;obtain⟨a,vs,rfl,ha,pp,z⟩:=e1;refine⟨a,rfl,⟨vs,bp.of (E1.sub _ _ ha)⟩,q _ H1 R1 E1 s1 z λH' R' sR sH i=>⟨λx hx=>?_,λhi=>?_⟩⟩
 ·have hq:bp X.K H' a vs:=bp.of (sH _ _ (sR _ _ ha));obtain⟨v,hv,hr⟩:=dz pp hx;refine⟨⟨vs,v,hq,hv⟩,λv' H2 hy=>?_⟩;obtain⟨rfl,hy⟩:=hy;have:=hy vs hq;rw[hv] at this;cases this
  exact⟨R',Ext.refl sH,r.mono sR hr⟩
 ·exact⟨vs,bp.of (sH _ _ (sR _ _ ha)),by rw[pp.length];exact hi⟩
def ups (lo:Int)(n:Nat):Hs:=(IL n).map λ(k:Nat)=>lo+(k:Int)
theorem cL (lo:Int)(n:Nat):(ups lo n).length=n:=by unfold ups;rw[HU,Ja]
theorem iB {lo:Int}{n:Nat}{x:Int}(h:(ups lo n)[i]?=some x):i<n/\x=lo+(i:Int):=by
 have hi:i<n:=by have:=(HW.mp h).1;rwa [cL] at this
 refine⟨hi,?_⟩;unfold ups at h;rw[Ii,Jl hi] at h;exact(Option.some.inj h).symm
theorem zi (lo:Int)(n:Nat):Src K (yq lo n) R1 ai (ups lo n):=λH' R' sR sH i=>⟨λx hx=>by
 obtain⟨h1,rfl⟩:=iB hx;refine⟨h1,λv H2 hy=>?_⟩;obtain⟨rfl,rfl⟩:=hy;exact⟨R',Ext.refl sH,rfl⟩,λhi=>by rw[cL] at hi;exact hi⟩
theorem eF (hm:X.mg "range"=none)(ha:EV X a Γ ai n Γ1)(hn: -(2 ^ 62)<=n/\n<=1000000)(hs1:Kf [a] X.env=[(false,eval a X.env)]:=by rfl)(hg:Gl X "range":=by rfl):IV X tg (.Call (.Name "range" p1) [a] [] p2) Γ ai (ups 0 n.toNat) Γ1:=by
 refine⟨_,wk hg hm (aZ aQ bG hs1) hs1,λσ H0 R0 H R E Rq q=>ha σ H0 R0 H R E _ λv H1 R1 E1 s1 e1=>?_⟩;exact⟨n,by rw[show v=V.int n from e1],hn.1,by omega,q _ H1 R1 E1 s1 (by rw[cL];exact JJ (show n.toNat<=1000000 by omega) (by decide)) (zi 0 n.toNat)⟩
theorem dj (I:Nat->Ga->Prop)(hit:IV X tg iter Γ r xs Γ1)(hb:BG X tg r bf)(h0:I 0 Γ1)(OW:∀(i:Nat)(x:α)(Γ:Ga),xs[i]?=some x->I i Γ->WS X body (bf x Γ) (I (i+1)) T)(OQ:∀Γ:Ga,I xs.length Γ->N Γ)(hc:X.calm=true:=by rfl)(hp:Lz (model X.prog X.w) X.A X.env X.xe:=by exact Lz.never)(hs:∀x,KC iter X.env x=pure x:=by intro _;rfl):W1 X (.For tg iter body [] pos) Γ N T:=λσ H0 R0 H R E D dn dr=>by
 obtain⟨wi,hi,hit⟩:=hit;refine sS (Bo hp hc hi pgS dQ hs) (hit σ H0 R0 H R E _ λJ H1 R1 E1 s1 hz src=>?_);refine⟨λi m σ' H'=>m=xs.length-i/\i<=xs.length/\∃R' Γ',aA X.K σ' H0 R0 H' R' Γ'/\ay R1 R'/\I i Γ',⟨_,rfl,JM _,R1,Γ1,E1,ay.refl _,h0⟩,?_⟩;rintro i m σ' H' ⟨rfl,hle,R',Γ',E',s',hI⟩;obtain⟨sgo,PK⟩:=src H' R' s' E'.sub i;by_cases Oo:i<xs.length
 ·obtain⟨go,yl⟩:=sgo _ (Ib Oo);refine .inr ⟨go,λσ' H'=>i+1<=xs.length/\∃R' Γ',aA X.K σ' H0 R0 H' R' Γ'/\ay R1 R'/\I (i+1) Γ',λσ2 H2 h=>⟨xs.length-(i+1),by omega,rfl,h.1,h.2⟩,λv H2 hy=>?_⟩;obtain⟨R2,x2,hr⟩:=yl v H2 hy;refine hb σ' H0 R0 H2 R2 Γ' v _ (E'.grow x2) hr _ λσ2 E2=>?_;exact OW i _ Γ' (Ib Oo) hI σ2 H0 R0 H2 R2 E2 _ (λσ3 H3 R3 Γ3 E3 s3 h3=>⟨Oo,R3,Γ3,E3,s'.trans (x2.r.trans s3),h3⟩) dr
 ·have e:i=xs.length:=by omega
  subst e;exact .inl ⟨PK (JI _),dn σ' H' R' Γ' E' (s1.trans s') (OQ Γ' hI)⟩
def sY:Option Ent->Ent
 | some (.im r x)=>.im r x
 | _=>.no
def dI (own:Ht)(ix:List Nat)(Γ:Ga):Ga:=HZ own.length .no++ix.map λi=>sY Γ[i]?
theorem xj (E:aA K σ H0 R0 H R Γ)(own:Ht)(ix:List Nat):aA K (eZ own ix σ) H R H R (dI own ix Γ):=by
 have Ob:∀(i:Nat)(e:Ent)(o:Option V),(dI own ix Γ)[i]?=some e->e.fp o=[]:=λi e o q=>by
  unfold dI at q;rcases Ij.mp (Iw q) with z | z
  ·obtain⟨_,rfl⟩:=JH.mp z;rfl
  ·obtain⟨k,_,rfl⟩:=Io.mp z;unfold sY;split<;>rfl
 refine⟨Ext.refl E.sub,λi e q=>?_,λi e a q w=>Ny w (by rw[Ob i e _ q];exact Il),λi j e e' a q _ w=>Ny w (by rw[Ob i e _ q];exact Il),by unfold dI eZ;simp⟩;unfold dI at q;unfold eZ;by_cases hi:i<own.length
 ·rw[IF (by simpa using hi),IW] at q;rw[ND hi] at q;cases q;trivial
 ·rw[IE (by simpa using hi),Iz,Ii] at q;rw[IE (by simpa using hi),Iz,Ii];cases ek:ix[i-own.length]? with
  | none=>rw[ek] at q;cases q
  | some k=>
    rw[ek] at q;have q':sY Γ[k]?=e:=Option.some.inj q;subst q';show(sY Γ[k]?).ok K H R (σ[k]?).join;cases eg:Γ[k]? with
    | none=>trivial
    | some e=>
      cases e with
      | im r x=>exact E.ent k _ eg
      | no=>trivial
      | mu r x=>trivial
      | di x=>trivial
      | ob x=>trivial
theorem nO {own:Ht}{J:It}{H1:Hp}(E1:aA X.K σ H0 R0 H1 R1 Γ1)(src:Src X.K J R1 ra xs)(hz:xs.length<=Ke)(hb:∀(C:Addr)(s:Kc)(H:Hp)(ex:Hv),BG (bE X scope cl C (own++fr) s H ex) tg ra bf)(hw:∀x,Wk (bf x (dI own ix Γ1)) (dI own ix Γ1))(ht:∀(C:Addr)(s:Kc)(H:Hp)(ex:Hv) x,x∈xs->TF (bE X scope cl C (own++fr) s H ex) ifs (bf x (dI own ix Γ1)) (p x) (bf x (dI own ix Γ1)))(he:∀(C:Addr)(s:Kc)(H:Hp)(ex:Hv) x,x∈xs->p x=true->EV (bE X scope cl C (own++fr) s H ex) elt (bf x (dI own ix Γ1)) rb (f x) (bf x (dI own ix Γ1)))(q:∀a vs H' R',Ext H1 R1 H' R'->H' a=none->PySem.Paired (rb.R X.K R') vs ((xs.filter p).map f)->Q (.ref a) (upd H' a (.lst vs))):
 ∃W:Nat->Nat->List V->St->Hp->Prop,(∃m,W 0 m [] (eZ own ix σ) H1)/\∀i m ys σ' H',W i m ys σ' H'->
  ys.length<=Ke/\((J.stop i H'/\∀p,H' p=none->Q (.ref p) (upd H' p (.lst ys)))∨
  (J.go i H'/\∀x H2,J.Rr i H' x H2->(λv σ H Q=>∀C s Hh ex,mK (bE X scope cl C (own++fr) s Hh ex) tg v σ H Q:TG) x σ' H2 λσ2 H3=>(λσ H Q=>∀C s Hh ex,p7 (bE X scope cl C (own++fr) s Hh ex) ifs σ H Q:TT) σ2 H3 λb H4=>
    if b=true then(λσ H Q=>∀C s Hh ex,fD (bE X scope cl C (own++fr) s Hh ex) elt σ H Q:TE) σ2 H4 λv H5=>∃m',m'<m/\W (i+1) m' (ys++[v]) σ2 H5 else∃m',m'<m/\W (i+1) m' ys σ2 H4)):=by
 refine⟨λi m ys σ' H'=>m=xs.length-i/\i<=xs.length/\∃R',aA X.K σ' H1 R1 H' R' (dI own ix Γ1)/\PySem.Paired (rb.R X.K R') ys (((xs.take i).filter p).map f),⟨_,rfl,JM _,R1,xj E1 own ix,.nil⟩,?_⟩;rintro i m ys σ' H' ⟨rfl,hle,R',E',pp⟩;have hys:ys.length<=Ke:=by
  rw[pp.length,HU];refine JJ (IA _ _) (JJ ?_ hz);rw[Im];omega
 obtain⟨sgo,PK⟩:=src H' R' E'.ext.r E'.sub i;refine⟨hys,?_⟩;by_cases Oo:i<xs.length
 ·obtain⟨go,yl⟩:=sgo _ (Ib Oo);have R8:xs[i]∈xs:=Jm Oo;have tk:(xs.take (i+1))=xs.take i++[xs[i]]:=by rw[IK,Ib Oo];rfl
  refine .inr ⟨go,λv H2 hy C s Hh ex=>?_⟩;obtain⟨R2,x2,hr⟩:=yl v H2 hy;refine hb C s Hh ex σ' H1 R1 H2 R2 _ v _ (E'.grow x2) hr _ λσ2 E2=>?_;intro C s Hh ex;refine ht C s Hh ex _ R8 σ2 H1 R1 H2 R2 E2 _ λH4 R4 E4 s4=>?_;cases hpx:p xs[i] with
  | false=>
    rw[Nz HE];refine⟨xs.length-(i+1),by omega,rfl,Oo,R4,E4.weak (hw _),?_⟩;rw[tk,Js,List.filter_cons,hpx,Nz HE,List.filter_nil,Ip];exact Paired.map (λ_ _=>rb.mono (x2.r.trans s4)) pp
  | true=>
    rw[ND rfl];intro C s Hh ex;refine he C s Hh ex _ R8 hpx σ2 H1 R1 H4 R4 E4 _ λw H5 R5 E5 s5 e5=>?_;refine⟨xs.length-(i+1),by omega,rfl,Oo,R5,E5.weak (hw _),?_⟩;rw[tk,Js,List.filter_cons,hpx,ND rfl,List.filter_nil,IC];exact c7 (Paired.map (λ_ _=>rb.mono (x2.r.trans (s4.trans s5))) pp) (.cons e5 .nil)
 ·have e:i=xs.length:=by omega
  subst e;rw[Je] at pp;exact .inl ⟨PK (JI _),λa ha=>q a ys H' R' E'.ext ha pp⟩
theorem cy {own:Ht}(S:dU X scope cl own fr ix)(hit:IV X tg iter Γ ra xs Γ1)(hb:∀(C:Addr)(s:Kc)(H:Hp)(ex:Hv),BG (bE X scope cl C (own++fr) s H ex) tg ra bf)(hw:∀x,Wk (bf x (dI own ix Γ1)) (dI own ix Γ1))(ht:∀(C:Addr)(s:Kc)(H:Hp)(ex:Hv) x,x∈xs->TF (bE X scope cl C (own++fr) s H ex) ifs (bf x (dI own ix Γ1)) (p x) (bf x (dI own ix Γ1)))(he:∀(C:Addr)(s:Kc)(H:Hp)(ex:Hv) x,x∈xs->p x=true->EV (bE X scope cl C (own++fr) s H ex) elt (bf x (dI own ix Γ1)) rb (f x) (bf x (dI own ix Γ1)))(hc:X.calm=true:=by rfl)(hs:∀x,KC iter X.env x=pure x:=by intro _;rfl):aO X (.ListComp elt [⟨tg,iter,ifs,0⟩] scope pos) Γ rb ((xs.filter p).map f) Γ1:=by
 intro σ H0 R0 H R E Q q;obtain⟨wi,hi,hit⟩:=hit;refine eS (yT (g:=λv σ H Q=>∀C s Hh ex,mK (bE X scope cl C (own++fr) s Hh ex) tg v σ H Q) (tc:=λσ H Q=>∀C s Hh ex,p7 (bE X scope cl C (own++fr) s Hh ex) ifs σ H Q) (te:=λσ H Q=>∀C s Hh ex,fD (bE X scope cl C (own++fr) s Hh ex) elt σ H Q) hc S hi
  (λC s H ex=>⟨λNI s1 σ H v u Q I r h=>h C s _ ex NI s1 u I r,λNI s1 σ H Q I h=>h C s _ ex NI s1 I,λNI s1 σ H Q I h=>h C s _ ex NI s1 I⟩) hs) ?_
 refine hit σ H0 R0 H R E _ λJ H1 R1 E1 s1 hz src=>nO E1 src hz hb hw ht he λa vs H' R' xx ha pp=>?_;have E2:=E1.grow xx;exact q a vs _ R' (E2.grow (Ext.dq E2.sub ha _)) (s1.trans xx.r) aD (E2.sub.free ha) (E2.ext.h.free ha) (E2.off ha) pp (by
  rw[HU];exact JJ (IA _ _) hz)
theorem lj (i:Nat){py PL:Pos}{own:Ht}(S:dU X scope cl own fr ix)(hit:IV X tg iter Γ ra xs Γ1)(hb:∀(C:Addr)(s:Kc)(H:Hp)(ex:Hv),BG (bE X scope cl C (own++fr) s H ex) tg ra bf)(hw:∀x,Wk (bf x (dI own ix Γ1)) (dI own ix Γ1))(ht:∀(C:Addr)(s:Kc)(H:Hp)(ex:Hv) x,x∈xs->TF (bE X scope cl C (own++fr) s H ex) ifs (bf x (dI own ix Γ1)) (p x) (bf x (dI own ix Γ1)))(he:∀(C:Addr)(s:Kc)(H:Hp)(ex:Hv) x,x∈xs->p x=true->EV (bE X scope cl C (own++fr) s H ex) elt (bf x (dI own ix Γ1)) rb (f x) (bf x (dI own ix Γ1)))(h:N (Γ1.set i (.mu rb ((xs.filter p).map f))))(OU:Km (.ListComp elt [⟨tg,iter,ifs,0⟩] scope pos) (some (.Name y py)) PL.line X.env=pure true:=by rfl)(hN:X.N.Nodup:=by first | assumption | decide)(hi':X.N[i]?=some y:=by rfl)(hx:autoParam (Loc X.env.scope y) Pw)(hc:X.calm=true:=by rfl)(hs:∀x,KC iter X.env x=pure x:=by intro _;rfl)(hf:autoParam (X.fn y=true∨X.env.scope.names.lookup y=some .local) Pu):
 W1 X (.Assign [.Name y py] (.ListComp elt [⟨tg,iter,ifs,0⟩] scope pos) PL) Γ N T:=λσ H0 R0 H R E D dn dr=>by
 obtain⟨wi,hi,hit⟩:=hit;refine sS (sV (i:=i) (g:=λv σ H Q=>∀C s Hh ex,mK (bE X scope cl C (own++fr) s Hh ex) tg v σ H Q) (tc:=λσ H Q=>∀C s Hh ex,p7 (bE X scope cl C (own++fr) s Hh ex) ifs σ H Q) (te:=λσ H Q=>∀C s Hh ex,fD (bE X scope cl C (own++fr) s Hh ex) elt σ H Q) OU hN hi' hx hc S hi
  (λC s H ex=>⟨λNI s1 σ H v u Q I r h=>h C s _ ex NI s1 u I r,λNI s1 σ H Q I h=>h C s _ ex NI s1 I,λNI s1 σ H Q I h=>h C s _ ex NI s1 I⟩) hs hf) ?_
 refine hit σ H0 R0 H R E _ λJ H1 R1 E1 s1 hz src=>nO (Q:=λv H'=>D.nx (σ.set i (some v)) H') E1 src hz hb hw ht he λa vs H' R' xx ha pp=>?_;have E2:=E1.grow xx;exact dn _ _ R' _ ((E2.grow (Ext.dq E2.sub ha _)).tO (u:=.lst vs) (en:=.mu rb ((xs.filter p).map f)) i ⟨a,vs,rfl,aD,E2.sub.free ha,pp⟩ (E2.ext.h.free ha) λj e _ q w=>E2.off ha j e q w) (s1.trans xx.r) h
end
variable {NI:Hr}{s:Kc}
section
variable {tp:Pos}
theorem jS {h':Heap}{t':Nat}{fp:Hv}(I:Inv X NI σ H s)(k:∀b o,b∉fp->s.heap.get? b=some o->h'.get? b=some o)(hf:∀b∈fp,ib X NI H b):Inv X NI σ H {s with heap:=h',toks:=t'}:=by
 have RE:∀b u,H b=some u->b∉fp:=λb u e z=>by rw[(hf b z).1] at e;cases e
 refine I.step (g':=s.gens) (d':=s.drawn) (ch:=fp) (λb hb=>⟨(hf b hb).2.2.2.1,(hf b hb).2.1,(hf b hb).2.2.2.2.1,(hf b hb).2.2.2.2.2⟩) (λb o _ _ hc e _=>k b o hc e) (λb o _ _ hc e _=>⟨o.slots,k b o hc e⟩) (λ_ _ _ _ n=>n)
  (λb o hc e=>⟨o,k b o hc e⟩) (λ_ _ e=>e) (λ_ _ _ e=>e) (λb ps e=>⟨#[],by rw[e];simp⟩) (λm hm=>?_) (λb u e=>?_) I.bare
 ·obtain⟨o,es,ep,ho,r⟩:=hm;exact⟨o,es,ep,k _ o (λz=>(hf _ z).2.1 rfl) ho,r⟩
 ·refine(I.NN b u e).fC (λc v hc q=>k c v ?_ q) (λ_ q=>q) λ_ _ q=>q;rcases hc with z | z
  ·rw[z];exact RE b u e
  ·exact RE c _ z
theorem adopt {a:Addr}{o:HO}(I:Inv X NI σ H s)(hf:ib X NI H a)(hy:X.s₀.heap.objs.size<=a)(new:bK X.prog X.w (upd H a o) s.heap a o):Inv X NI σ (upd H a o) s:=by
 have ne:∀{b:Addr}{u:HO},H b=some u->b≠a:=λe=>cu e hf.1;have ne0:∀{b:Addr}{u:Obj},X.s₀.heap.get? b=some u->b≠a:=λe z=>Ny (JK (Mo e) hy) (by rw[z];exact JP _);refine⟨I.ok,I.os,I.bare,⟨I.base.keep,I.base.slot,λb u e n hx=>by rw[aB (ne0 e)];exact I.base.free b u e n hx,I.base.there,λb xs e=>?_,λb u v e=>?_,λb ps e=>?_⟩,I.loc,I.cell,?_,λx c e=>?_,λp hp=>?_,λb u e=>?_,I.len⟩
 ·have q:=I.base.N9 b xs e;rw[aB (ne q)];exact q
 ·have q:=I.base.N7 b u v e;rw[aB (ne q)];exact q
 ·obtain⟨m,q⟩:=I.base.Oa b ps e;exact⟨m,by rw[aB (ne q)];exact q⟩
 ·rw[aB (JX hf.2.1)];exact I.free
 ·rw[aB (hf.2.2.2.2.1 x c e)];exact I.NZ x c e
 ·obtain⟨e,n,r⟩:=I.pin p hp;exact⟨e,by rw[aB (hf.2.2.2.2.2 p hp)];exact n,r⟩
 ·by_cases hb:b=a
  ·subst hb;rw[aD] at e;cases e;exact new
  ·rw[aB hb] at e;exact(I.NN b u e).fC (λc v _ q=>q) (λc q=>by rw[aB (ne q)];exact q) λc xs q=>by rw[aB (ne q)];exact q
def Fl (K:MO)(a:Addr):It:=
 ⟨λi H=>∃xs x,bp K H a xs/\xs[i]?=some x,λi H v H'=>∃p x,H p=none/\v= .ref p/\H'=upd H p (.tup [.int i,x])/\∀xs,bp K H a xs->xs[i]?=some x,λi H=>∃xs,bp K H a xs/\xs.length<=i⟩
theorem vj {k:Nat}(a e it:Addr)(hei:e≠it):Turn P w K (.Tuple es k tp) (Fl K a) [e,it] e (λi h=>(∃old,IsEnum h e it i old)/\h.IsListIter it a i) where
 mem:=by simp
 obj:=λi h st b hb=>by
  obtain⟨⟨old,he⟩,o,ho,hc,hd⟩:=st;rcases Ih.mp hb with rfl | hb
  ·exact⟨_,he,λv z=>by cases z⟩
  ·have e2:b=it:=by simpa using hb
   subst e2;exact⟨o,ho,λv z=>by rw[hd] at z;cases z⟩
 keep:=λi h h' st kk=>⟨st.1.elim λold he=>⟨old,kk e (by simp) _ he⟩,st.2.at λo x=>kk it (by simp) o x⟩
 item:=by
  intro X hP hw hK hc i NI s σ H E I hf st hg;subst hP hw hK;obtain⟨⟨old,he⟩,hit⟩:=st;obtain⟨xs,x,hq,hx⟩:=hg;obtain⟨NJ,r,pl,hz⟩:=I.list hq;obtain⟨u,hu,rx⟩:=r.get hx;have hn:H s.heap.objs.size=none:=I.NN.fresh (JI _);refine wpAny_pyNext_enum_item he hit pl.isList (x:=u) (by simpa using hu) hei λh' ho hit' hT hsz hk=>?_;refine⟨_,rfl,?_⟩;refine wpAny_letOwnedTupleGo_enum (s:={s with heap:=h',toks:=s.toks+1}) ho λh2 Q1 OJ=>?_;have hk2:∀b o,b∉[e,it]->s.heap.get? b=some o->h2.get? b=some o:=λb o hb q=>by
   have Qb:b≠e:=λz=>hb (by simp[z]);exact OJ.extBut b o Qb (hk b o Qb (λz=>hb (by simp[z])) q)
  have I1:Inv X NI σ H {s with heap:=h2,toks:=s.toks+1}:=jS I hk2 hf;have hel:e≠s.heap.objs.size:=JL (Mo he);have Ro:h2.get? s.heap.objs.size=some {cls:=.type "tuple",data:=.seq #[.int i s.toks,u]}:=(OJ.2 _ (JX hel)).trans hT;have I2:Inv X NI σ (upd H s.heap.objs.size (.tup [.int i,x])) {s with heap:=h2,toks:=s.toks+1}:=
   adopt I1 (I.gi (JI _) hn) (I.sz) ⟨by show 2<=Ke;decide,[.int i s.toks,u],.cons ⟨_,rfl⟩ (.cons rx .nil),⟨_,Ro,rfl,_,rfl⟩⟩
  refine⟨.ref s.heap.objs.size,_,I2,rfl,⟨s.heap.objs.size,x,hn,rfl,rfl,λys hy=>?_⟩,⟨⟨u,by simpa using Q1⟩,hit'.at λo y=>(OJ.2 it (JX hei)).trans y⟩,λb hb=>?_⟩
  ·rw[I.iZ hy hq];exact hx
  ·have Oo:b<s.heap.objs.size:=by
    rcases Ih.mp hb with rfl | hb
    ·exact Mo he
    ·have e2:b=it:=by simpa using hb
     subst e2;obtain⟨o,ho,_⟩:=hit;exact Mo ho
   rw[aB (JL Oo)];exact(hf b hb).1
 done:=by
  intro X hP hw hK hc i NI s σ H E I hf st hg;subst hP hw hK;obtain⟨⟨old,he⟩,hit⟩:=st;obtain⟨xs,hq,hx⟩:=hg;obtain⟨NJ,r,pl,hz⟩:=I.list hq;refine wpAny_pyNext_enum_end (I.ok.hd hc) he hit pl.isList (by have:=r.length;simp;omega) λh' hk=>⟨rfl,?_⟩;exact jS (t':=s.toks) I (λb o hb q=>hk b o (λz=>hb (by simp[z])) q) hf
 self:=λ_ _ _ _ _ st h=>st.1.elim λold he=>wpAny_pyIter_enum he h
def D3 (K:MO)(ta:TA):TI:=λσ H R=>ta σ H λvs H1=>∃a xs,vs=[.ref a]/\bp K H1 a xs/\R (Fl K a) H1
theorem y3 {ta:TA}{k:Nat}(hg:Gl X "enumerate")(hm:X.mg "enumerate"=none)(ha:PA X [a] ta)(hs:Kf [a] X.env=[(false,eval a X.env)]:=by rfl):PI X (.Tuple es k tp) (.Call (.Name "enumerate" p) [a] [] pos) (D3 X.K ta):=by
 intro NI s σ H R I h;refine Call_ (gc I hg hm boot_enumerate (J6 (aJ (ha pos NI s σ H _ I h) λus s1 ⟨vs,H1,I1,r1,q1⟩=>?_) hs rfl));obtain⟨l,xs,e,hq,q⟩:=q1;subst e;cases r1 with
 | cons r rr=>
   cases rr
   cases r
   obtain⟨NJ,r',pl,hz⟩:=I1.list hq;refine call_enumerate_list pl.isList λh' he hit hsz hk=>?_;refine wpAny_pyIter_enum he ?_;have I2:Inv X NI σ H1 {s1 with heap:=h'}:=I1.kept (t':=s1.toks) hk;have f0:H1 s1.heap.objs.size=none:=I1.NN.fresh (JI _);have f1:H1 (s1.heap.objs.size+1)=none:=I1.NN.fresh (JR _);refine⟨s1.heap.objs.size+1,[s1.heap.objs.size+1,s1.heap.objs.size],_,_,H1,rfl,I2,vj l (s1.heap.objs.size+1) s1.heap.objs.size (JU (JQ _)),⟨⟨.none,he⟩,hit⟩,λb hb=>?_,q⟩;rcases Ih.mp hb with rfl | hb
   ·exact I1.gi (JR _) f1
   ·have e2:b=s1.heap.objs.size:=by simpa using hb
    subst e2;exact I1.gi (JI _) f0
def nums (xs:List α):List (Int×α):=(xs.zipIdx).map λp=>((p.2:Int),p.1)
theorem cK (xs:List α):(nums xs).length=xs.length:=by unfold nums;rw[HU,List.length_zipIdx]
theorem jR {y:Int×α}(h:(nums xs)[i]?=some y):y.1=(i:Int)/\xs[i]?=some y.2:=by
 unfold nums at h;rw[Ii,List.getElem?_zipIdx] at h;cases e:xs[i]? with
 | none=>rw[e] at h;cases h
 | some x=>rw[e] at h;cases h;exact⟨by simp,rfl⟩
theorem gH {k:Nat}(hm:X.mg "enumerate"=none)(ha:EV X a Γ (ag r) xs Γ1)(hs:Kf [a] X.env=[(false,eval a X.env)]:=by rfl)(hg:Gl X "enumerate":=by rfl):
 IV X (.Tuple es k tp) (.Call (.Name "enumerate" p) [a] [] pos) Γ (de ai r) (nums xs) Γ1:=by
 refine⟨_,y3 hg hm (aZ aQ bG hs) hs,λσ H0 R0 H R E Rq q=>ha σ H0 R0 H R E _ λv H1 R1 E1 s1 e1=>?_⟩;obtain⟨a,vs,rfl,hp,pp,z⟩:=e1;refine⟨a,vs,rfl,bp.of (E1.sub _ _ hp),q _ H1 R1 E1 s1 (by rw[cK];exact z) λH' R' sR sH i=>⟨λy hy=>?_,λhi=>?_⟩⟩
 ·have hq:bp X.K H' a vs:=bp.of (sH _ _ (sR _ _ hp));obtain⟨e1,e2⟩:=jR hy;obtain⟨v,hv,hr⟩:=dz pp e2;refine⟨⟨vs,v,hq,hv⟩,λv' H2 RL=>?_⟩;obtain⟨p,x,RR,rfl,rfl,hy⟩:=RL;have:=hy vs hq;rw[hv] at this;cases this
  have s2:ay R' (upd R' p (.tup [.int i,v])):=ay.fresh (sH.free RR) _;exact⟨upd R' p (.tup [.int i,v]),Ext.fresh sH RR _,p,_,_,rfl,aD,by rw[e1];rfl,r.mono s2 (r.mono sR hr)⟩
 ·exact⟨vs,bp.of (sH _ _ (sR _ _ hp)),by rw[pp.length,← cK xs];exact hi⟩
theorem qX:dD X (.builtin "isinstance") (λxs H Q=>∃x c t b,xs=[x,.ty c]/\eC X.K H x t/\M4 X.K t (.type c)=some b/\Q (.bl b) H):=by
 intro NI s σ H xs us Q I r h;obtain⟨x,c,t,b,rfl,ty,e,q⟩:=h;obtain⟨u,u2,rfl,r1,r2⟩:=vals2 r;cases (show u2=MN c from r2)
 exact vX I r1 ty e λtk=>⟨.bl b,H,I.tok tk,rfl,q⟩
theorem nH {x:α}{c:String}{t:Value}{b:Bool}(hm:X.mg "isinstance"=none)(R6:X.mg y=none)(hvy:Kz y=some (.type c))(he:EV X e Γ r x Γ1)(ty:∀(R H:Hp) v,ay R H->r.R X.K R v x->eC X.K H v t)(ht:∀K:MO,M4 K t (.type c)=some b:=by intro;rfl)(hs:Kf [e,.Name y p2] X.env=(false,eval e X.env)::Kf [.Name y p2] X.env:=by rfl)(hg:Gl X "isinstance":=by rfl)(Sf:Gl X y:=by rfl)(hny:y≠"__name__":=by decide)(Sk:N3 y:=by decide):EV X (.Call (.Name "isinstance" p) [e,.Name y p2] [] pos) Γ aY b Γ1:=by
 intro σ H0 R0 H R E Q q;refine eS (c5 qX hg hm J8 (aZ aQ (aZ (se (v:=.ty c) Sf R6 hvy rfl hny Sk) bG rfl) hs) (by decide) (by decide) hs rfl) (he σ H0 R0 H R E _ λv H1 R1 E1 s1 e1=>?_);exact⟨v,c,t,b,rfl,ty R1 H1 v E1.sub e1,ht _,q _ H1 R1 E1 s1 rfl⟩
theorem ty_int {x:Int}(R H:Hp)(v:V)(_:ay R H)(h:ai.R K R v x):eC K H v (.type "int"):=by cases h;exact .int _
theorem ny:dD X (.type "range") (λxs H Q=>∃n:Int,xs=[.int n]/\∀p,H p=none->Q (.ref p) (upd H p (.Qw 0 n))):=by
 intro NI s σ H xs us Q I r h;obtain⟨n,rfl,q⟩:=h;obtain⟨u,rfl,t,rfl⟩:=vals1 r;refine call_range_1 ?_;exact⟨.ref s.heap.objs.size,_,I.laid (o:=.Qw 0 n) (λb o e=>Mn _ e) (JI _) ⟨_,_,_,Mp _ rfl⟩,rfl,q _ (I.NN.fresh (JI _))⟩
theorem qG (hc:X.calm=true):dD X (.type "list") (λxs H Q=>∃(p:Addr)(m n:Int),xs=[.ref p]/\H p=some (.Qw m n)/\ -1000000<=m/\m<=1000000/\ -1000000<=n/\n<=1000000/\∀d,H d=none->Q (.ref d) (upd H d (.lst ((ups m (n-m).toNat).map V.int)))):=by
 intro NI s σ H xs us Q I r h;obtain⟨p,m,n,rfl,hp,m1,m2,n1,n2,q⟩:=h;obtain⟨u,rfl,rx⟩:=vals1 r;cases rx
 obtain⟨t,t2,t3,ho⟩:=I.NN p _ hp;have hsz:Ln.Range.rangeSize m n 1=(((n-m).toNat:Nat):Int):=by rw[rangeSize_one];split<;>omega
 refine call_list_range (I.ok.hd hc) ho (small_one (by omega) (by omega) (by omega) (by omega)) hsz (by omega) λh' tk acc c' hk hS Sw=>?_;have vals:Vals ((ups m (n-m).toNat).map V.int) acc.toList:=by
  have key:∀(k:Nat)(NJ:Hw)(lo:Int),NJ.length=k->(∀(j:Nat) v,NJ[j]?=some v->∃t,v= .int (lo+(j:Int)*1) t)->Vals ((ups lo k).map V.int) NJ:=by
   intro k
   induction k with
   | zero=>intro NJ lo hl _;cases NJ with
     | nil=>exact .nil
     | cons _ _=>cases hl
   | succ k ih=>
     intro NJ lo hl hv;cases NJ with
     | nil=>cases hl
     | cons v r=>
       have e:ups lo (k+1)=lo::ups (lo+1) k:=by
        unfold ups;rw[List.range_succ_eq_map,Iu,IS];congr 1
        ·simp
        ·apply Jp;intro a _;simp;omega
       rw[e,Iu];obtain⟨t,e0⟩:=hv 0 v rfl;refine .cons ⟨t,by rw[e0];simp⟩ (ih r (lo+1) (by simpa using hl) λj v hj=>?_);obtain⟨t,ej⟩:=hv (j+1) v (by simpa using hj);exact⟨t,by rw[ej];congr 1;push_cast;omega⟩
  refine key _ _ m (by rw[Hz];exact Sw.1) λj v hj=>Sw.2 j v (by simpa using hj)
 exact⟨.ref _,_,I.laid (a:=s.heap.objs.size) (o:=.lst ((ups m (n-m).toNat).map V.int)) hk (JI _) ⟨by rw[HU,cL];exact JJ (show(n-m).toNat<=2000000 by omega) (by decide),acc.toList,c',vals,by rw[hS]⟩,rfl,q _ (I.NN.fresh (JI _))⟩
end
def mG (scope:Scope)(env:Env):List (Str×Addr):=(scope.names.filterMap λp=>if p.2== .free then(env.cells.lookup p.1).map (λc=>(p.1,c)) else none).reverse
theorem lD {env:Env}:∀(names:List (Str×KZ))(acc:List (Str×Addr)),(∀y∈names,y.2= .free->∃c,env.cells.lookup y.1=some c)->
 (forIn names acc λ(x:Str×KZ)(r:List (Str×Addr))=>if(x.2==KZ.free)=true then do let a ← cellOf env x.1;pure (HQ ((x.1,a)::r)) else pure (HQ r):Sem (List (Str×Addr)))
  =pure ((names.filterMap λp=>if p.2== .free then(env.cells.lookup p.1).map (λc=>(p.1,c)) else none).reverse++acc)
 | [],acc,_=>rfl
 | (n,k)::r,acc,h=>by
   have ih:=lD (env:=env) r;rw[JF,Iv];cases hk:(k==KZ.free) with
   | false=>
     simp only[hk,HL,if_false];rw[pure_bind];exact ih acc λy hy=>h y (Ia _ hy)
   | true=>
     obtain⟨c,hc⟩:=h (n,k) Ic (eq_of_beq hk);have OL:cellOf env n=pure c:=by unfold cellOf;rw[hc]
     simp only[hk,if_true,hc,J0,OL];rw[pure_bind,pure_bind];show forIn r ((n,c)::acc) _=_;rw[ih ((n,c)::acc) λy hy=>h y (Ia _ hy)];simp
theorem sI {own:Ht}(hk:scope.kind= .function)(hn:∀y∈scope.names,y.2≠ .cell)(hl:∀y∈scope.names,y.2= .local->scope.names.lookup y.1=some .local)(hc:∀x,X.env.scope.names.lookup x=some .cell->∃c,X.env.cells.lookup x=some c)(hf:∀y∈scope.names,y.2= .free->X.env.scope.names.lookup y.1=some .cell)(QZ:∀x∈fr,scope.names.lookup x=some .free)(hlen:fr.length=ix.length)(Ow:∀(k i:Nat)(x:Str),ix[k]?=some i->fr[k]?=some x->X.N[i]?=some x):dU X scope (mG scope X.env) own fr ix:=by
 have free:∀y∈scope.names,y.2= .free->∃c,X.env.cells.lookup y.1=some c:=λy hy e=>hc _ (hf y hy e);refine⟨?_,λx c e=>?_,hk,hn,hl,λx e=>?_,QZ,hlen,λk i x e1 e2=>⟨Ow k i x e1 e2,hf (x,.free) (Kr (QZ x (Iw e2))) rfl⟩⟩
 ·have:=lD (env:=X.env) scope.names [] free;rw[Ip] at this;have e:closureFor scope X.env=((forIn scope.names [] λ(x:Str×KZ)(r:List (Str×Addr))=>if(x.2==KZ.free)=true then do let a ← cellOf X.env x.1;pure (HQ ((x.1,a)::r)) else pure (HQ r):Sem (List (Str×Addr))) >>=λcs=>pure cs):=rfl;rw[e,this,pure_bind];rfl
 ·have m:=Kr e;unfold mG at m;obtain⟨p,_,hp⟩:=Jr.mp (mem_reverse.mp m);split at hp
  ·cases q:X.env.cells.lookup p.1 with
   | none=>rw[q] at hp;cases hp
   | some c'=>rw[q] at hp;cases hp;exact q
  ·cases hp
 ·have m:=Kr e;obtain⟨c,QE⟩:=free _ m rfl;have m2:(x,c)∈mG scope X.env:=by
   unfold mG;refine mem_reverse.mpr (Jr.mpr ⟨(x,.free),m,?_⟩);simp[QE]
  cases q:(mG scope X.env).lookup x with
  | some c'=>exact⟨c',rfl⟩
  | none=>
    rw[List.lookup_eq_none_iff] at q;exact Ny (q _ m2) (by simp)
def vY (scope so:Scope)(N0 fr:Ht)(ix:List Nat):Bool:=
 decide (scope.kind= .function)&&scope.names.all (λy=>decide (y.2≠ .cell)&&(decide (y.2≠ .local) ||decide (scope.names.lookup y.1=some .local))&&(decide (y.2≠ .free) ||decide (so.names.lookup y.1=some .cell)))
  &&fr.all (λx=>decide (scope.names.lookup x=some .free))&&decide (fr.length=ix.length)&&(IL ix.length).all λk=>match ix[k]?,fr[k]? with | some i,some x=>decide (N0[i]?=some x) | _,_=>true
theorem bY {so:Scope}{N0 own:Ht}(hso:X.env.scope=so)(hN0:X.N=N0)(hc:∀x,X.env.scope.names.lookup x=some .cell->∃c,X.env.cells.lookup x=some c)(h:vY scope so N0 fr ix=true):dU X scope (mG scope X.env) own fr ix:=by
 unfold vY at h;simp only[HF,Bool.or_eq_true,decide_eq_true_eq,IZ] at h;obtain⟨⟨⟨⟨h1,h2⟩,h3⟩,h4⟩,h5⟩:=h;refine sI h1 (λy hy=>(h2 y hy).1.1) (λy hy e=>(h2 y hy).1.2.resolve_left λz=>z e) hc (λy hy e=>by rw[hso];exact(h2 y hy).2.resolve_left λz=>z e) h3 h4 λk i x e1 e2=>?_;have hk:k<ix.length:=(HW.mp e1).1;have:=h5 k (Jb.mpr hk);rw[e1,e2] at this;rw[hN0];simpa using this
theorem zo (i:Nat){k:Nat}{Pd:α->Prop}(C:aH X.prog X.w X.K X.mg X.base x k (aG S X.K))(hr:bz k X.A)(ha:HA X (e::es) Γ ps Γ1)(hS:S X.K ps (bM X.K r Pd))(h:∀z,Pd z->N (Γ1.set i (.im r z)))(hg:Gl X x:=by rfl)(Om:N3 x:=by decide)(he:Kf (e::es) X.env=(false,eval e X.env)::Kf es X.env:=by rfl)(N8:(Ko p2 (Kf es X.env)).any (·.1)=false:=by rfl)(hN:X.N.Nodup:=by first | assumption | decide)(hi:X.N[i]?=some y:=by rfl)(hx:autoParam (Loc X.env.scope y) Pw)(hs:Km (.Call (.Name x p) (e::es) [] p2) (some (.Name y p1)) pos.line X.env=pure false:=by rfl)(hf:autoParam (X.fn y=true∨X.env.scope.names.lookup y=some .local) Pu):
 W1 X (.Assign [.Name y p1] (.Call (.Name x p) (e::es) [] p2) pos) Γ N T:=λσ H0 R0 H R E D dn dr=>
 sS (gQ hN hi hx aQ hs hf) (pM C hr ha hS E (λH1 R1 v H' R' E1 s1 xx t=>by
  obtain⟨z,e1,hz⟩:=t;exact dn _ H' R' _ ((E1.grow xx).set i e1) (s1.trans xx.r) (h z hz)) hg Om he N8)
theorem zr:cP X (KO .Mult) (rI LO λi j=>.int (i*j)):=sf λ_ _ _ _ _ _ _ hc q=>mul_int q hc
theorem iq {x y:Int}(ha:EV X a Γ ai x Γ1)(hb:EV X b Γ1 ai y Γ2)(h:LO x y):EV X (.BinOp a .Mult b pos) Γ ai (x*y) Γ2:=gE zr ha hb λR v u H Q e1 e2 q=>⟨x,y,e1,e2,h,q _ rfl⟩
theorem aA.tJ (E:aA K σ H0 R0 H R Γ){e0:Ent}(hi:Γ[i]?=some e0)(ho:en.ok K H R (σ[i]?).join)(Ot:∀b∈en.fp (σ[i]?).join,H0 b=none/\∀(j:Nat)(e:Ent),j≠i->Γ[j]?=some e->b∉e.fp (σ[j]?).join):aA K σ H0 R0 H R (Γ.set i en):=by
 refine⟨E.ext,λj e q=>?_,λj e b q w=>?_,λj k e e' b q q' w w'=>?_,by rw[Jc];exact E.len⟩
 ·rcases set_at q with⟨rfl,rfl,_⟩ | ⟨hj,q1⟩
  ·exact ho
  ·exact E.ent j e q1
 ·rcases set_at q with⟨rfl,rfl,_⟩ | ⟨hj,q1⟩
  ·exact(Ot b w).1
  ·exact E.nw j e b q1 w
 ·rcases set_at q with⟨rfl,rfl,_⟩ | ⟨hj,q1⟩
  ·rcases set_at q' with⟨rfl,rfl,_⟩ | ⟨hk,O4⟩
   ·rfl
   ·exact Ny w' ((Ot b w).2 k e' hk O4)
  ·rcases set_at q' with⟨rfl,rfl,_⟩ | ⟨hk,O4⟩
   ·exact Ny w ((Ot b w').2 j e hj q1)
   ·exact E.ds _ _ _ _ b q1 O4 w w'
def oY:Ent->Ent
 | .im r x=>.im r x
 | _=>.no
theorem aA.OG {K:MO}{σ:St}{H0 R0 H R:Hp}(E:aA K σ H0 R0 H R Γ):aA K σ H H H H (Γ.map oY):=by
 have Ob:∀(i:Nat)(e:Ent)(o:Option V),(Γ.map oY)[i]?=some e->e.fp o=[]:=λi e o q=>by
  rw[Ii] at q;cases h:Γ[i]? with
  | none=>rw[h] at q;cases q
  | some e'=>rw[h] at q;cases q;cases e'<;>rfl
 refine⟨Ext.refl (ay.refl _),λi e q=>?_,λi e a q w=>Ny w (by rw[Ob i e _ q];exact Il),λi j e e' a q _ w=>Ny w (by rw[Ob i e _ q];exact Il),by rw[HU];exact E.len⟩;rw[Ii] at q;cases h:Γ[i]? with
 | none=>rw[h] at q;cases q
 | some e'=>
   rw[h] at q;cases q
   have:=E.ent i e' h;cases e' with
   | im r x=>obtain⟨v,e,hr⟩:=this;exact⟨v,e,r.mono E.sub hr⟩
   | no=>trivial
   | mu r x=>trivial
   | di x=>trivial
   | ob x=>trivial
theorem Bv {qual:Str}{N ps:Ht}{k:Nat}(F:cY K x qual st f fd)(Sc:bq N ps (ak st))(len:∀qs T,S K qs T->qs.length=ps.length)(N5:∀(NK:Value)(A:Kj)(outer:List Env)(s:Kc)(H:Hp)(E:XK)(qs:List Pk)(T:RT),bz k (A.deeper (J4 qual (ak st) s.heap.objs.size f NK))->S K qs T->
  WS (aT cW P w K mg base N qual (ak st) f NK A outer s H E).bV (ba st) (eh qs N.length) (λ_=>False) T):ck P w K mg base cW (k+1) f fd ps (aG S K):=by
 refine F.ok Sc (λvs H Q E h=>?_) (λNK A outer s H vs Q E hr h=>?_)
 ·obtain⟨R,qs,T,_,p,hS,_⟩:=h;rw[p.length];exact len qs T hS
 ·obtain⟨R,qs,T,sR,p,hS,q⟩:=h;have hl:qs.length<=N.length:=by
   rw[len qs T hS];have:=congrArg List.length Sc.pre;rw[Im] at this;omega
  exact⟨_,dQ,N5 NK A outer s H E qs T hr hS (L2.start N vs) H R H R (eK sR p hl) {nx:=λ_ H'=>Q .NS H',rt:=Q} (λ_ _ _ _ _ _ f=>f.elim) λv H' R' xx t=>q v H' R' xx t⟩
theorem BA {h:Heap}{ps:Ht}{oc:Value}{od an:Option Addr}{OB:Array Hu}{kV doc pm NK ct:Value}(KX:K.In h)(G:h.Ns Ki mg)(a:MP K Ki x=some (some (.ref f)))(l:K.lookup f=some ⟨oc,od,.func (MW x x (cS st) (ba st) (ak st) .none kV doc pm an NK ct),OB⟩)(c:M5 K NK x=true)(k:MT K (.ref f)=true)(b:∀(kV doc pm:Value)(an:Option Addr)(NK ct:Value)(us:Hw),us.length=ps.length->LP (MW x x (cS st) (ba st) (ak st) .none kV doc pm an NK ct) ⟨us,[]⟩=pure (ps.zip us)):Def K mg x st ps:=
 ⟨f,_,eY l c k,MU KX G a,(eY l c k).binds b⟩
open PySem.Builtin.Int (intBits)
theorem qW (h:PySem.W.WData.layableAll [.list (ns.map .int)]=true):∀n∈ns,intBits n<=2 ^ 20:=λn hn=>by
 have h1:=PySem.W.layableW_arg h _ (HX.mpr rfl);have h2:=PySem.W.layableW_item h1 (.int n) (Io.mpr ⟨n,hn,rfl⟩);exact PySem.PyData.bits_of_layable h2
end Fc
namespace Att
open PySem PySem.W PySem.Calls PyProof.Rows
open PySem.Builtin.Int (intBits)
theorem pT {l:OpenLaw}{n:Nat}{q:Kh}{loose:Ht}{XP:(Hq)->Heap->Prop}{YP:World->Heap->Prop}{d:DefRec}(hn:l.most=some n)(Sm:d.params.defaults=[])(call:∀(w:World)(s₀ s₁:Kc)(mg mb:Hq)(fa:Addr)(o:Obj)(pm cd doc:Value)(a:Addr)(vs:Hw)(ns:Hs),
  Ground q loose [] XP w s₀ mg mb s₁.heap->YP w s₁.heap->
  s₁.heap.get? fa=some o->o.data= .func (docDef d.name d.params d.body d.scope pm cd doc)->s₁.heap.CodeRec cd d.name->mg d.name=some (.ref fa)->
  s₁.heap.get? a=some {cls:=.type "list",data:=.seq vs.toArray}->J9 vs ns->ns.length<=n->(∀m∈ns,intBits m<=2 ^ 20)->s₁.gens= #[]->
  Ll (model l.prog w) Lu (.call (.ref fa) ⟨[.ref a],[]⟩) (λr s'=>r= .ok (.ret (.bool true))/\OldK s₁.heap s'.heap/\s'.os=s₁.os/\J7 s'.gens) s₁):
 WalkO q loose XP YP l.row.toRowW d [] (λf vs=>PySem.call f vs):=by
 intro w s₀ s₁ mg mb G Y fa o pm cd doc dV kV ho hd NV hD R7 hg args vals as Ql hlay OF hwl hlo;obtain rfl:dV= .none:=Dflts.none hD Sm;obtain rfl:kV= .none:=Dflts.noKw hD;obtain⟨a,vs,ns,rfl,rfl,PX,hints,hlen⟩:=uY hn Ql hwl;refine enter_call (K6 (call w s₀ s₁ mg mb fa o pm cd doc a vs ns G Y ho (fd_plain hd) NV R7 PX hints hlen (Fc.qW hlay) hg) λr s' hq=>?_);obtain⟨rfl,h2,h3,h4⟩:=hq;exact⟨.inl ⟨.bool true,.bool true,[],rfl,λ_=>rfl,.bool true,vi l _,λ_=>⟨List.Pairwise.nil,λ_ hm=>(nomatch hm)⟩⟩,h2,h3,h4⟩
end Att
namespace L2
open PySem PySem.Spec PyProof.Rows
open PySem.Builtin.Int (intBits)
theorem wQ {l:Nm}{n k:Nat}{q:Kh}{loose:Ht}{XP:(Hq)->Heap->Prop}{YP:World->Heap->Prop}{d:DefRec}{K:Params->MO}{CX:World->h7}{sp:World->Sp}{x:Str}(hn:l.most=some n)(RZ:n<=Ke)(Sm:d.params.defaults=[])(hr:bz k Lu)(hY:∀(w:World)(h:Heap),YP w h->(K w.params).In h)(F:∀(w:World)(mg:Hq)(fa:Addr)(h:Heap),(K w.params).In h->h.Ns Ki mg->mg d.name=some (.ref fa)->
  ∃fd:Kn,(∀(s:Kc)(u:Value),LL s fd ⟨[u],[]⟩ [(x,u)])/\
   ∀base:Heap,(K w.params).In base->base.Ns Ki mg->ck l.prog w (K w.params) mg base (CX w) k fa fd [x] (sp w))(Pm:∀(w:World)(H:Hp)(a:Addr)(ns:Hs),ns.length<=n->(∀m∈ns,intBits m<=2 ^ 20)->wB H->bp (K w.params) H a (ns.map V.int)->sp w [.ref a] H (λv _=>v= .bl true) λ_ _ _=>False)(hCX:∀(w:World)(H:Hp)(s:Kc)(e:Value)(s':Kc),CX w [] H s (λ_ _ _=>False) e s'->False):
 PySem.W.WalkO q loose XP YP l.row.toRowW d [] (λf vs=>PySem.call f vs):=by
 refine Att.pT hn Sm λw s₀ s₁ mg mb fa o pm cd doc a vs ns G Y ho hd NV R7 PX hints hlen O0 hg=>?_;have KX:=hY w _ Y;obtain⟨fd,hb,hF⟩:=F w mg fa _ KX G.T.g R7;exact xb KX G.T.g G.T.b G.T.builtins G.T.nolimit hg PX hints (JJ hlen RZ) hr hF hb (λH hO hS=>Pm w H a ns hlen O0 hO hS) λH e s'=>hCX w H s₁ e s'
end L2
namespace Fc
open PySem PySem.Spec PySem.W PySem.Calls L2
open PyProof.Rows hiding St
variable {H H':Hp}{h':Heap}{P:Kh}{w:World}{a:Addr}
section
variable {h:Heap}
structure sj (h0 h:Heap)(H:Hp)(e T:Addr)(cls:Value):Prop where
 ex:∃oe vs oT ts a0,h.get? e=some oe/\(oe.cls=cls/\vs[0]?=some a0)/\oe.data= .fields vs/\vs[1]?=some (.ref T)/\T≠e/\h.get? T=some oT/\oT.data= .fields ts/\ts[3]?=some .none
 ne:h0.get? e=none
 nT:h0.get? T=none
 fe:H e=none
 fT:H T=none
theorem iH {h b0 h0:Heap}{fs:Hv}:∀{l:List Env},h.FunFrames b0 l->(∀b∈bA l,b∈fs)->h.FunFrames (MV h0 fs) l
 | [],_,_=>trivial
 | env::rest,hl,hs=>by
   obtain⟨hk,⟨L,o,hf,hn,ho,hd⟩,hr⟩:=hl;refine⟨hk,⟨L,o,hf,MZ fs (hs L ?_),ho,hd⟩,iH hr λb hb=>hs b ?_⟩
   ·show L∈(env::rest).filterMap (·.frame);rw[Iv,hf];exact Ic
   ·show b∈(env::rest).filterMap (·.frame);rw[Iv,hf];exact Ia _ hb
theorem Un.shrink {fs fs' ex:Hv}(u:Un fs ex H H' h h')(hs:∀b o,h.get? b=some o->b∈fs->b∈fs'):Un fs' ex H H' h h':=
 ⟨λb o q n hb he=>u.keep b o q n (λz=>hb (hs b o q z)) he,λb o q n _ he=>u.any q n he,u.free,u.there,u.N9,u.N7,u.Oa⟩
theorem bK.there {o:HO}(x:bK P w H h a o):∃ob,h.get? a=some ob:=by
 cases o with
 | lst xs=>obtain⟨_,_,_,_,e⟩:=x;exact⟨_,e⟩
 | tup xs=>obtain⟨_,_,_,p⟩:=x;obtain⟨o,e,_⟩:=p;exact⟨o,e⟩
 | dK kvs=>obtain⟨_,_,_,_,o,_,_,e,_⟩:=x;exact⟨_,e⟩
 | dT kvs=>obtain⟨_,_,_,_,o,_,_,e,_⟩:=x;exact⟨_,e⟩
 | set S n=>obtain⟨o,_,_,_,e,_⟩:=x;exact⟨_,e⟩
 | ins C dx fs=>obtain⟨_,_,_,e,_⟩:=x;exact⟨_,e⟩
 | own y=>obtain⟨_,e⟩:=x;exact⟨_,e⟩
 | xd fs=>obtain⟨_,⟨_,_,_,e,_⟩,_⟩:=x;exact⟨_,e⟩
 | Qw lo hi=>obtain⟨_,_,_,e⟩:=x;exact⟨_,e⟩
 | OG ob u=>obtain⟨e,_⟩:=x;exact⟨_,e⟩
 | Qu ps=>exact⟨_,show h.get? a=some _ from x⟩
 | met f y=>exact⟨_,show h.get? a=some _ from x⟩
 | ext φ=>obtain⟨_,⟨_,e⟩,_⟩:=x;exact⟨_,e⟩
theorem bT.none_of (x:bT P w H h)(e:h.get? a=none):H a=none:=by
 cases q:H a with
 | none=>rfl
 | some u=>
   obtain⟨ob,r⟩:=bK.there (x a u q);rw[e] at r;cases r
theorem dC {fs:Hv}(u:Un fs [] H H' h h'){b:Addr}(e:h'.get? b=none):h.get? b=none:=by
 cases q:h.get? b with
 | none=>rfl
 | some o=>
   obtain⟨o',r⟩:=u.there b o q Il;rw[e] at r;cases r
abbrev gp:Hw:=[.type "ValueError",.type "Exception",.type "BaseException",.type "object"]
end
variable {X:Cx}{rest:List Stmt}{pos:Pos}
section
variable {Γ Γ1:Ga}
def RS (X:Cx)(H0 R0:Hp)(OI:List Stmt)(Γ:Ga):Prop:=∀(σ:St)(H R:Hp),aA X.K σ H0 R0 H R Γ->∀D:Ends,e8 X OI D σ H
theorem kF.bV {st:Stmt}{D:Ends}{σ:St}{H:Hp}(h:kF X.bV st D σ H):kF X st D σ H:=λNI s I=>
 Kl (h NI s (I.eD _)) (λ_ _ q=>q.dw) λ_ _ z=>HP z
theorem jg.bV {e:Expr}{Q:Bool->Hp->Prop}{σ:St}{H:Hp}(h:jg X.bV e σ H Q):jg X e σ H Q:=λNI s I=>
 Kl (h NI s (I.eD _)) (λ_ _ ⟨H',I',q⟩=>⟨H',I'.dw,q⟩) λ_ _ z=>HP z
theorem dY {H0 R0:Hp}{st:Stmt}{N1:Ga->Prop}(h1:W1 X.bV st Γ N1 (λ_ _ _ _=>False))(h2:∀Γ',N1 Γ'->RS X H0 R0 rest Γ'):RS X H0 R0 (st::rest) Γ:=λσ H R E D=>by
 refine λNI s I=>Kt (aJ (kF.bV (h1 σ H0 R0 H R E {nx:=λσ' H'=>e8 X rest D σ' H',rt:=λ_ _=>False,bk:=λ_ _=>False,ct:=λ_ _=>False} (λσ' H' R' Γ' E' _ n=>h2 Γ' n σ' H' R' E' D) λ_ _ _ _ z=>z) NI s I) λf s1 q=>?_);cases f with
 | next=>
   obtain⟨σ',H',I',q⟩:=q;exact q NI s1 I'
 | brk=>obtain⟨_,_,_,q⟩:=q;exact q.elim
 | cont=>obtain⟨_,_,_,q⟩:=q;exact q.elim
 | ret u=>obtain⟨_,_,_,_,_,q⟩:=q;exact q.elim
theorem oX {H0 R0:Hp}{c:Expr}{a b:List Stmt}(hc:TV X.bV c Γ true Γ1)(h:RS X H0 R0 a Γ1):RS X H0 R0 (.If c a b pos::rest) Γ:=λσ H R E D=>by
 refine λNI s I=>Kt ?_;have:=jg.bV (hc σ H0 R0 H R E (λb H'=>b=true/\∀D,e8 X a D σ H') λH' R' E' _=>⟨rfl,λD=>h σ H' R' E' D⟩) NI s I;refine PySem.wpAny_If (aJ this λb s1 ⟨H',I',hb,q⟩=>?_);subst hb;rw[ND rfl];refine aJ (q {nx:=λ_ _=>False,rt:=λ_ _=>False} NI s1 I') λf s2 z=>?_;cases f with
 | next=>obtain⟨_,_,_,z⟩:=z;exact z.elim
 | brk=>obtain⟨_,_,_,z⟩:=z;exact z.elim
 | cont=>obtain⟨_,_,_,z⟩:=z;exact z.elim
 | ret u=>obtain⟨_,_,_,_,_,z⟩:=z;exact z.elim
end
section
variable {K:MO}{mg:Hq}{base:Heap}
end
abbrev jr (X:Cx)(e:Addr)(o:Obj):Cx:={X with pn:=(e,o)::X.pn}
theorem Ok.pin (ok:X.Ok)(e:Addr)(o:Obj):(jr X e o).Ok:=
 ⟨ok.mod,ok.kind,ok.glob,ok.blt,ok.above,ok.inj,ok.has,ok.Qs,ok.hd,ok.frames,ok.Qv,ok.QF,ok.bs,ok.PD,ok.ON,ok.OH,ok.Oc,ok.P2⟩
variable {e:Addr}{o:Obj}
theorem Ok.E7 (ok:(jr X e o).Ok):X.Ok:=
 ⟨ok.mod,ok.kind,ok.glob,ok.blt,ok.above,ok.inj,ok.has,ok.Qs,ok.hd,ok.frames,ok.Qv,ok.QF,ok.bs,ok.PD,ok.ON,ok.OH,ok.Oc,ok.P2⟩
section
variable {NI:Hr}{σ:St}{s:Kc}
theorem Inv.pinned (I:Inv X NI σ H s)(h:s.heap.get? e=some o/\H e=none/\e≠X.env.locals/\e∉X.fs/\∀v,o.data≠ .cell v):Inv (jr X e o) NI σ H s:=
 ⟨Ok.pin I.ok e o,I.os,I.bare,I.base,I.loc,I.cell,I.free,I.NZ,λp hp=>by
  rcases Ih.mp hp with rfl | hp
  ·exact h
  ·exact I.pin p hp,I.NN,I.len⟩
theorem Inv.gY (I:Inv (jr X e o) NI σ H s):Inv X NI σ H s:=
 ⟨Ok.E7 I.ok,I.os,I.bare,I.base,I.loc,I.cell,I.free,I.NZ,λp hp=>I.pin p (Ia _ hp),I.NN,I.len⟩
abbrev markX (X:Cx)(v:Value):Cx:={X with A:=X.A.mark (some v),calm:=false,xe:=λ_ _=>False}
theorem Inv.marked (I:Inv X NI σ H s)(v:Value):Inv (markX X v) NI σ H s:=
 ⟨⟨I.ok.mod,I.ok.kind,I.ok.glob,I.ok.blt,I.ok.above,I.ok.inj,I.ok.has,I.ok.Qs,(λz=>by cases z),I.ok.frames,I.ok.Qv,I.ok.QF,I.ok.bs,I.ok.PD,I.ok.ON,I.ok.OH,I.ok.Oc,I.ok.P2⟩,
   I.os,I.bare,I.base,I.loc,I.cell,I.free,I.NZ,I.pin,I.NN,I.len⟩
theorem Inv.unmarked {v:Value}(c:X.calm=true->X.A.handled=none)(I:Inv (markX X v) NI σ H s):Inv X NI σ H s:=
 ⟨⟨I.ok.mod,I.ok.kind,I.ok.glob,I.ok.blt,I.ok.above,I.ok.inj,I.ok.has,I.ok.Qs,c,I.ok.frames,I.ok.Qv,I.ok.QF,I.ok.bs,I.ok.PD,I.ok.ON,I.ok.OH,I.ok.Oc,I.ok.P2⟩,
   I.os,I.bare,I.base,I.loc,I.cell,I.free,I.NZ,I.pin,I.NN,I.len⟩
theorem uP {M:Model}{A:Kj}{E:Value->Kc->Prop}{i:Nat}{x:Str}{Q:Unit->Kc->Prop}(I:Inv X NI σ H s)(hN:X.N.Nodup)(hi:X.N[i]?=some x)(hk:X.env.scope.names.lookup x=some .local)(h:∀s',Inv X NI (σ.set i none) H s'->Q () s'):wpAny M A (do bindName X.env x .none;unbindBehindTheSuite X.env x pos) Q E s:=by
 obtain⟨m,hn,hl⟩:=id I.loc;have Q3:(X.env.scope.kind== .class ||(X.env.scope.kind== .module&&X.env.locals != X.env.globals))=false:=by rw[I.ok.kind];rfl
 have P4:=I.P4;refine wpAny_nameGoes_keeps hk hn Q3 λh' v Rb hs=>?_;obtain⟨oL,_,_,hoL,_⟩:=id hn;have tracked:bT X.prog X.w H h':=λb ob e=>by
  refine(I.NN b ob e).fC (λc w' hc q=>(hs.2 c ?_).trans q) (λ_ q=>q) λ_ _ q=>q;rintro rfl;rcases hc with rfl | hc
  ·rw[I.free] at e;cases e
  ·rw[I.free] at hc;cases hc
 refine h _ ⟨I.ok,I.os,I.bare,⟨λb o e n hb hx=>?_,λb o e n hb hx=>?_,I.base.free,λb o e hx=>?_,I.base.N9,I.base.N7,I.base.Oa⟩,⟨_,Rb,λj y v' e1 e2 e3=>?_⟩,λy c e=>?_,I.free,I.NZ,λp hp=>?_,tracked,by simpa using I.len⟩
 ·exact(hs.2 b (JL (JK (Mo e) I.ok.above))).trans (I.base.keep b o e n hb hx)
 ·obtain⟨sl,e1⟩:=I.base.slot b o e n hb hx;exact⟨sl,(hs.2 b (JL (JK (Mo e) I.ok.above))).trans e1⟩
 ·obtain⟨o',e1⟩:=I.base.there b o e hx;exact⟨o',(hs.2 b (JL (JK (Mo e) I.ok.above))).trans e1⟩
 ·by_cases hj:j=i
  ·subst hj;rw[List.getElem?_set] at e2;split at e2
   ·split at e2<;>cases e2
   ·rename_i z;exact Ny rfl z
  ·rw[IJ (JX hj)] at e2;obtain⟨u',r',q⟩:=hl j y v' e1 e2 e3;refine⟨u',r',?_⟩;rcases q with⟨k,e⟩ | ⟨k,c,e,z⟩
   ·refine .inl ⟨k,?_⟩;have:y≠x:=λe=>hj (kJ hN e1 (e▸hi));simp[this,e]
   ·exact .inr ⟨k,c,e,z.sameBut hs (P4 y c e)⟩
 ·obtain⟨w',z⟩:=I.cell y c e;exact⟨w',z.sameBut hs (P4 y c e)⟩
 ·obtain⟨e,n,ne,nf,d⟩:=I.pin p hp;exact⟨(hs.2 p.1 ne).trans e,n,ne,nf,d⟩
end
theorem jD.bV {X:Cx}{es:Hx}{Q:List V->Hp->Prop}{σ:St}{H:Hp}(h:jD X.bV es σ H Q)(E:Value->Kc->Prop):∀(pos:Pos)(NI:Hr)(s:Kc),Inv X NI σ H s->wpAny (model X.prog X.w) X.A (spliced (Ko pos (Kf es X.env))) (AP X NI σ Q) E s:=λpos NI s I=>
 Kl (h pos NI s (I.eD _)) (λ_ _ ⟨vs,H',I',r,q⟩=>⟨vs,H',I'.dw,r,q⟩) λ_ _ z=>HP z
theorem pP {fs:Hv}{H1:Hp}{h1 h2:Heap}{T:Addr}{cls:Value}(u:Un fs [] H1 H' h1 h')(NN:bT P w H' h')(Of:sj h1 h' H' e T cls)(hf:∀b∈fs,H' b=none)(st:(MV h' (e::T::fs)).StaysIn h2)(up:∀b o,h'.get? b=some o->b∈fs->∃sl,h2.get? b=some {o with slots:=sl}):Un fs [] H1 H' h1 h2/\bT P w H' h2:=by
 have keep:∀b o,h'.get? b=some o->b∉fs->b≠e->b≠T->h2.get? b=some o:=λb o q hb n1 n2=>st b o (M8 _ q λz=>by
  rcases Ih.mp z with z | z
  ·exact n1 z
  ·rcases Ih.mp z with z | z
   ·exact n2 z
   ·exact hb z)
 have n1:∀b o,h1.get? b=some o->b≠e:=λb o q z=>by rw[z,Of.ne] at q;cases q
 have n2:∀b o,h1.get? b=some o->b≠T:=λb o q z=>by rw[z,Of.nT] at q;cases q
 refine⟨⟨λb o q n hb hx=>keep b o (u.keep b o q n hb hx) hb (n1 b o q) (n2 b o q),λb o q n hb hx=>?_,u.free,λb o q hx=>?_,u.N9,u.N7,u.Oa⟩,λb x q=>?_⟩
 ·obtain⟨sl,r⟩:=u.slot b o q n hb hx;obtain⟨P6,r'⟩:=up b _ r hb;exact⟨P6,r'⟩
 ·obtain⟨o',r⟩:=u.there b o q hx;by_cases hb:b∈fs
  ·obtain⟨P6,r'⟩:=up b _ r hb;exact⟨_,r'⟩
  ·exact⟨_,keep b o' r hb (n1 b o q) (n2 b o q)⟩
 ·refine(NN b x q).fC (λc v hc r=>?_) (λ_ r=>r) λ_ _ r=>r;have Pz:H' c≠none:=by
   rcases hc with rfl | hc
   ·rw[q];exact JY _
   ·rw[hc];exact JY _
  exact keep c v r (λz=>Pz (hf c z)) (λz=>Pz (z▸Of.fe)) λz=>Pz (z▸Of.fT)
theorem gT {h h' b0 h0:Heap}{fs:Hv}:∀{l:List Env},h.FunFrames b0 l->(∀b∈bA l,∀o,h.get? b=some o->∃sl,h'.get? b=some {o with slots:=sl})->(∀b∈bA l,b∈fs)->h'.FunFrames (MV h0 fs) l
 | [],_,_,_=>trivial
 | env::rest,hl,Pp,hs=>by
   obtain⟨hk,⟨L,o,hf,hn,ho,hd⟩,hr⟩:=hl;have hL:L∈bA (env::rest):=by
    show L∈(env::rest).filterMap (·.frame);rw[Iv,hf];exact Ic
   have hT:∀b∈bA rest,b∈bA (env::rest):=λb hb=>by
    show b∈(env::rest).filterMap (·.frame);rw[Iv,hf];exact Ia _ hb
   obtain⟨sl,e⟩:=Pp L hL o ho;exact⟨hk,⟨L,_,hf,MZ fs (hs L hL),e,hd⟩,gT hr (λb hb=>Pp b (hT b hb)) λb hb=>hs b (hT b hb)⟩
end Fc
namespace Fc
open PySem PySem.Spec PySem.W PySem.Calls L2
open PyProof.Rows hiding St
open PySem PySem.Spec PySem.W PySem.Calls PySem.Builtin.ObjectAttr PySem.Builtin.Getset_descriptor L2
def lI (x D:Addr)(h:Heap):Prop:=∃ox,h.get? x=some ox/\ox.cls= .ref D
theorem lI.ty {M:Model}{h:Heap}{x D:Addr}(p:lI x D h):Looks M h (typeOf (.ref x)) (.ref D):=by
 obtain⟨ox,h1,h2⟩:=p;exact h2▸(Looks.ld h1).andThen .now
def cU (K:Frag)(D:Addr):Bool:=(Np K (.ref D) "__getattribute__"==some (some (.builtin "BaseException.__getattribute__")))&&(Np K (.ref D) "__getattr__"==some none)&&(Np K (.ref D) "__class__"==some (some (.builtin "object.__class__")))&&(specialIn K (.builtin "object.__class__") "__get__"==some (some (.builtin "getset_descriptor.__get__")))
 &&(takesIn K (.builtin "object.__class__")==some true)&&(mroIn K D (.type "object")==some true)&&(subIn K (.ref D) (.type "BaseException")==some true)&&(clsIn K D).isSome
section
variable {K:Frag}{D x:Addr}{prog:Kh}{w:World}{A:Kj}{E:Value->Kc->Prop}{s:Kc}
theorem uG {Q:Hu->Kc->Prop}(e:cU K D=true)(X:K.In s.heap)(p:lI x D s.heap)(h:Q (some (.ref D)) {s with toks:=s.toks+1}):wpAny (model prog w) A (getAttr? (.ref x) "__class__") Q E s:=by
 unfold cU at e;simp only[HF,beq_iff_eq] at e;obtain⟨⟨⟨⟨⟨⟨⟨hga,hgk⟩,ha⟩,hn⟩,RN⟩,hm⟩,Oq⟩,hc⟩:=e;obtain⟨hh,g,d,t,os⟩:=s;have X:K.In hh:=X;have p:lI x D hh:=p;have L0:=p.ty (M:=model prog w);have L1:=Nd (M:=model prog w) X hga;have L2:=Nd (M:=model prog w) X hgk;have LB:Looks (model prog w) hh (isSubtype (.ref D) (.type "BaseException")) true:=looks_subIn X Oq;have F1:Looks (model prog w) hh (find (.ref x) (.ref D) "__class__") (.bind (.builtin "getset_descriptor.__get__") (.builtin "object.__class__")):=by
  refine(Nd X ha).andThen ((show Looks _ hh (getOf (some (.builtin "object.__class__"))) (some (.builtin "getset_descriptor.__get__")) from looks_specialIn X hn).andThen ?_);exact(show Looks _ hh (dataDescriptor? (some (.builtin "object.__class__")) (some (.builtin "getset_descriptor.__get__"))) (some (.builtin "getset_descriptor.__get__",.builtin "object.__class__")) from(looks_takesIn X RN).andThen .now).andThen (Looks.tag .now)
 have M1:=looks_mroIn (M:=model prog w) X hm;have hx2:(MG "BaseException.__getattribute__"==MG "object.__getattribute__")=false:=by decide +kernel
 have QB:(onTheHeap (MF D)&&MG "BaseException.__getattribute__"==MG "object.__getattribute__")=false:=by rw[hx2];rfl
 unfold getAttr? getAttrBy? getAttrBy;refine Kb (wpAny_mkText (Kb (Lf (Ku (Kb (L0.at (Kb (L1.at ?_))))))));dsimp only;rw[QB];simp only[HL,if_false];unfold getAttrByItsOwn hookBefore;have f3:=Mh.ga.bind (.ref x);refine Kb (L2.at ?_);refine Kb (Lf (Ku ?_));show wpAny _ _ (Lm _ _ _) _ _ _;unfold Lm;refine Kb (wpAny_of_eq f3 ?_);have hkd:builtinKind "BaseException.__getattribute__"=some .slot:=by decide +kernel
 have Pc:splitId "BaseException.__getattribute__"=some ("BaseException","__getattribute__"):=by decide +kernel
 have Su:=PySem.F.args_bexc_ga (.ref x) (.str "__class__" t);refine K9 (K0 Mh.ga.plain PySem.F.entry_bexc_ga ?_);show wpAny _ _ (Lg "BaseException.__getattribute__" ⟨[.ref x,.str "__class__" t],[]⟩) _ _ _;simp only[Lg,hkd,Pc];refine Kb ?_;unfold Lr
 repeat lk
 refine wpAny_run ?_;refine K0 KF.slot_gs.plain KF.entry_gs (KF.slot_gs.check _ _ _ _ _ _ _ _ KF.type_class (KF.args_gs _ _ _) ?_);unfold Ln.«getset_descriptor.__get__» descrGet;rw[dga_obj];refine Kb (Kg ?_);unfold descrGetter descrCheckInstance descrNameAndClass Lr;simp only[KF.owner_class]
 repeat lk
 refine⟨Md _ (by decide +kernel),codeAny_builtin KF.entry_class ?_⟩;unfold Ln.«object.__class__» shownTypeOf
 repeat lk
 exact h
theorem xB (e:cU K D=true):KitX K (.ref x) (.ref D) (lI x D) where
 ty:=λ_ _ _ p=>p.ty
 it:=λ_ _ X _=>by
  unfold cU at e;rw[HF] at e;have hc:=e.2;unfold clsIn at hc;split at hc
  ·rename_i c' d' cd' P6 ho;intro A' Q' E' s' k q;unfold isType loadHead;exact Kb (LJ (k _ _ (X _ _ ho)) (Kg q))
  ·cases hc
 ne:=λh tp dd NJ n sl X htp=>by
  unfold cU at e;rw[HF] at e;have hc:=e.2;refine Bool.eq_false_iff.mpr λq=>?_;have z:D=tp:=MF.inj (beq_iff_eq.mp q);subst z;unfold clsIn at hc;split at hc
  ·rename_i c' d' cd' P6 ho;have z:=(X _ _ ho).symm.trans htp;cases z
  ·cases hc
 ca:=λX p k=>uG e X p k
end
section
variable {X:Cx}{Γ Γ1:Ga}{ea D:Addr}{oe:Obj}
end
end Fc
namespace Fc
open PySem PySem.Spec PySem.W PySem.Calls L2
open PyProof.Rows hiding St
variable {X:Cx}{Γ Γ1:Ga}{e:Expr}{pos:Pos}{rest:List Stmt}{x:Str}{p1:Pos}
section
variable {H0 R0:Hp}
def RX (X:Cx)(H0 R0:Hp)(e:Expr)(Γ:Ga):Prop:=∀(σ:St)(H R:Hp),aA X.K σ H0 R0 H R Γ->∀Q:VK,fD X e σ H Q
theorem z5 (h:RX X H0 R0 e Γ)(OU:Km e none pos.line X.env=pure false:=by rfl):RS X H0 R0 (.Expr e pos::rest) Γ:=λσ H R E D=>
 n5 (gX sD dQ) (sS (iQ aQ OU) (h σ H R E _))
theorem vh (i:Nat)(h:RX X H0 R0 e Γ)(hN:X.N.Nodup:=by first | assumption | decide)(hi:X.N[i]?=some x:=by rfl)(hx:autoParam (Loc X.env.scope x) Pw)(hs:Km e (some (.Name x p1)) pos.line X.env=pure false:=by rfl)(hf:autoParam (X.fn x=true∨X.env.scope.names.lookup x=some .local) Pu):RS X H0 R0 (.Assign [.Name x p1] e pos::rest) Γ:=λσ H R E D=>
 n5 (gX sD dQ) (sS (gQ hN hi hx aQ hs hf) (h σ H R E _))
end
variable {P:Kh}{w:World}{K:MO}{mg:Hq}{base:Heap}{qual:Str}{f:Addr}{s:Kc}{H R:Hp}
section
variable {N:Ht}{scope:Scope}{cd:Value}{A:Kj}{outer:List Env}{E:XK}
end
variable {NI:Hr}{σ:St}
section
variable {ea D:Addr}{oe:Obj}
end
def ae:Rep Str:=⟨λ_ _ v x=>v= .str x,λ_ h=>h⟩
theorem aq {j:Nat}:EV X (.Constant (.str x) j pos) Γ ae x Γ:=λ_ _ _ _ _ E _ q=>eS BF (q _ _ _ E (ay.refl _) rfl)
inductive PV
 | NS
 | bl (b:Bool)
 | int (i:Int)
 | str (x:Str)
 | tup (xs:List PV)
 | lst (xs:List PV)
mutual
inductive gr (H:Hp):V->PV->Prop
 | NS:gr H .NS .NS
 | bl (b:Bool):gr H (.bl b) (.bl b)
 | int (i:Int):gr H (.int i) (.int i)
 | str (x:Str):gr H (.str x) (.str x)
 | tup {a:Addr} {vs:List V} {xs:List PV}:H a=some (.tup vs)->dH H vs xs->gr H (.ref a) (.tup xs)
 | lst {a:Addr} {vs:List V} {xs:List PV}:H a=some (.lst vs)->dH H vs xs->xs.length<=Ke->gr H (.ref a) (.lst xs)
inductive dH (H:Hp):List V->List PV->Prop
 | nil:dH H [] []
 | cons {v:V} {x:PV} {vs:List V} {xs:List PV}:gr H v x->dH H vs xs->dH H (v::vs) (x::xs)
end
mutual
theorem gr.mono {H H':Hp}(s:ay H H'):∀{v:V}{x:PV},gr H v x->gr H' v x
 | _,_,.NS=>.NS
 | _,_,.bl b=>.bl b
 | _,_,.int i=>.int i
 | _,_,.str x=>.str x
 | _,_,.tup h t=>.tup (s _ _ h) (dH.mono s t)
 | _,_,.lst h t z=>.lst (s _ _ h) (dH.mono s t) z
theorem dH.mono {H H':Hp}(s:ay H H'):∀{vs:List V}{xs:List PV},dH H vs xs->dH H' vs xs
 | _,_,.nil=>.nil
 | _,_,.cons h t=>.cons (gr.mono s h) (dH.mono s t)
end
theorem dH.pair {H:Hp}:∀{vs:List V}{xs:List PV},dH H vs xs->PySem.Paired (gr H) vs xs
 | _,_,.nil=>.nil
 | _,_,.cons h t=>.cons h (dH.pair t)
theorem dH.of {H:Hp}:∀{vs:List V}{xs:List PV},PySem.Paired (gr H) vs xs->dH H vs xs
 | _,_,.nil=>.nil
 | _,_,.cons h t=>.cons h (dH.of t)
def bu:Rep PV:=⟨λ_ H v x=>gr H v x,λs h=>h.mono s⟩
variable {N:Ga->Prop}{Γ2 Γ3:Ga}{α β γ δ:Type}{T:RT}{n:Int}{vs:List V}{p2:Pos}{r:Rep α}{r':Rep β}{y:β}
section
variable {xs:List PV}
theorem EV.re {x:α}(h:EV X e Γ r x Γ1)(f:∀(K:MO)(R:Hp)(v:V),r.R K R v x->r'.R K R v y):EV X e Γ r' y Γ1:=λσ H0 R0 H R E Q q=>h σ H0 R0 H R E Q λv H' R' E' s' e'=>q v H' R' E' s' (f _ _ v e')
theorem EV.pI (h:EV X e Γ ai n Γ1):EV X e Γ bu (.int n) Γ1:=h.re λK R v e=>by cases e;exact .int n
theorem EV.pS (h:EV X e Γ ae x Γ1):EV X e Γ bu (.str x) Γ1:=h.re λK R v e=>by cases e;exact .str x
theorem EV.iP (h:EV X e Γ bu (.int n) Γ1):EV X e Γ ai n Γ1:=h.re λK R v e=>by cases e;rfl
theorem EV.sP (h:EV X e Γ bu (.str x) Γ1):EV X e Γ ae x Γ1:=h.re λK R v e=>by cases e;rfl
theorem nj {es:Hx}{k:Nat}(h:EA X es Γ bu xs Γ1)(hz:xs.length<=Ke:=by show _<=Ke;decide):EV X (.Tuple es k pos) Γ bu (.tup xs) Γ1:=by
 intro σ H0 R0 H R E Q q;refine eS (vP kE) (h σ H0 R0 H R E _ λvs H1 R1 E1 s1 p1=>⟨by rw[p1.length];exact hz,λp hp=>?_⟩);have x:=Ext.fresh E1.sub hp (.tup vs);exact q _ _ _ (E1.grow x) (s1.trans x.r) (.tup aD (.of (Paired.map (λ_ _=>bu.mono x.r) p1)))
theorem c0 {a b:Expr}{i:Int}{y:PV}(ha:EV X a Γ bu (.tup xs) Γ1)(hb:EV X b Γ1 ai i Γ2)(h:cC xs i=some y)(hs:fE b:=by exact λ_ _=>rfl):EV X (.Subscript a b pos) Γ bu y Γ2:=by
 intro σ H0 R0 H R E Q q;refine eS (j4 Bm aQ aQ hs) (ha σ H0 R0 H R E _ λv H1 R1 E1 s1 e1=>hb σ H0 R0 H1 R1 E1 _ λu H2 R2 E2 s2 e2=>?_);cases bu.mono (K:=X.K) s2 e1 with
 | tup ha pp=>
   obtain⟨w,e3,e4⟩:=gz pp.pair h;exact⟨_,_,i,w,rfl,e2,du.of (E2.sub _ _ ha),e3,q w H2 R2 E2 (s1.trans s2) e4⟩
theorem u9 (p:PySem.Paired (gr H) vs xs)(l h:Option Int):PySem.Paired (gr H) (ic vs l h) (cut xs l h):=by
 unfold ic cut;rw[p.length];exact fW _ (ig _ p)
theorem Cr {a:Expr}{lo hi:Option Expr}{l h:Option Int}(ha:EV X a Γ bu (.tup xs) Γ)(hl:OV X lo Γ l)(hh:OV X hi Γ h)(hw:¬(HT.NQ xs.length 0 l=0/\HT.NQ xs.length xs.length h=xs.length)):EV X (.Subscript a (.Slice lo hi none p2) pos) Γ bu (.tup (cut xs l h)) Γ:=by
 intro σ H0 R0 H R E Q q;obtain⟨tl,pl,kl⟩:=hl;obtain⟨th,ph,kh⟩:=hh;refine eS (kH Dg aQ pl ph) (ha σ H0 R0 H R E _ λv H1 R1 E1 s1 e1=>kl σ H0 R0 H1 R1 E1 _ λH2 R2 E2 s2=>kh σ H0 R0 H2 R2 E2 _ λH3 R3 E3 s3=>?_);cases bu.mono (K:=X.K) (s2.trans s3) e1 with
 | @tup a' Oz _ hp pp=>
   refine⟨_,_,rfl,du.of (E3.sub _ _ hp),by rw[pp.pair.length];exact hw,λd hd=>?_⟩;have x:=Ext.fresh E3.sub hd (.tup (ic Oz l h));exact q _ _ _ (E3.grow x) (s1.trans (s2.trans (s3.trans x.r))) (.tup aD (.of (Paired.map (λ_ _=>bu.mono (K:=X.K) x.r) (u9 pp.pair l h))))
theorem all_true {n:Nat}:((IL n).all λ_=>true)=true:=by simp
end
theorem EV.rep {x:α}(h:EV X e Γ r x Γ1)(c:∀(R:Hp) v,r.R X.K R v x->r'.R X.K R v y):EV X e Γ r' y Γ1:=λσ H0 R0 H R E Q q=>h σ H0 R0 H R E Q λv H' R' E' s' e'=>q v H' R' E' s' (c R' v e')
theorem paired_ints {K:MO}{R:Hp}:∀ys:Hs,PySem.Paired (ai.R K R) (ys.map V.int) ys
 | []=>.nil
 | _::r=>.cons rfl (paired_ints r)
theorem oM {a:Expr}{QK:Pos}(Rf:X.mg "list"=none)(hmr:X.mg "range"=none)(ha:EV X a Γ ai n Γ1)(hn: -1000000<=n/\n<=1000000)(hs:Kf [a] X.env=[(false,eval a X.env)]:=by rfl)(OJ:Kf [.Call (.Name "range" p2) [a] [] QK] X.env=[(false,eval (.Call (.Name "range" p2) [a] [] QK) X.env)]:=by rfl)(hc:X.calm=true:=by rfl)(hg:Gl X "list":=by rfl)(hgr:Gl X "range":=by rfl):aO X (.Call (.Name "list" p1) [.Call (.Name "range" p2) [a] [] QK] [] pos) Γ ai (ups 0 n.toNat) Γ1:=by
 intro σ H0 R0 H R E Q q;refine eS (js (qG hc) hg Rf PyProof.Rows.boot_list (aZ (js ny hgr hmr boot_range (aZ aQ bG hs) (by decide) (by decide) hs) bG OJ) (by decide) (by decide) OJ) (ha σ H0 R0 H R E _ λv H1 R1 E1 s1 e1=>⟨n,by rw[show v=V.int n from e1],λp hp=>?_⟩);refine⟨p,0,n,rfl,aD,by decide,by decide,hn.1,hn.2,λd hd=>?_⟩;have E2:=E1.grow (Ext.dq E1.sub hp (.Qw 0 n));rw[Int.sub_zero];exact q d _ _ R1 (E2.grow (Ext.dq E2.sub hd _)) s1 aD (E2.sub.free hd) (E2.ext.h.free hd) (E2.off hd) (paired_ints _) (by rw[cL];exact JJ (show n.toNat<=1000000 by omega) (by decide))
section
variable {F:Hy}
theorem i9:∀xs:List Bool,(xs.map V.bl).all fh=true
 | []=>rfl
 | _::r=>by rw[Iu,JE,i9 r];rfl
def cw (F:Hy):List (Int×V):=F.map λp=>(p.1,.int p.2)
def bQ (F:Hy)(k:Int):Option Int:=(F.find? λp=>decide (p.1=k)).map (·.2)
def dF (F:Hy)(k v:Int):Hy:=if(bQ F k).isSome then F.map (λp=>if p.1=k then(p.1,v) else p) else F++[(k,v)]
theorem iz:∀(F:Hy)(k:Int),cx (bR (cw F)) (Nv k:Key)=(bQ F k).map V.int
 | [],_=>rfl
 | p::r,k=>by
   have ih:=iz r k;by_cases e:p.1=k
   ·have e':(Nv p.1:Key)=Nv k:=by rw[e]
    have h1:cx (bR (cw (p::r))) (Nv k:Key)=some (.int p.2):=cG (p:=((Nv p.1:Key),V.int p.2)) e';rw[h1];unfold bQ;rw[IX,decide_eq_true e];rfl
   ·have e':¬(Nv p.1:Key)=Nv k:=λz=>e (Nv.inj z);have h1:cx (bR (cw (p::r))) (Nv k:Key)=cx (bR (cw r)) (Nv k:Key):=cH (p:=((Nv p.1:Key),V.int p.2)) e';rw[h1,ih];unfold bQ;rw[IX,NH e]
theorem lL (F:Hy)(k v:Int):putK (bR (cw F)) (Nv k:Key) (.int v)=bR (cw (dF F k v)):=by
 unfold putK dF;rw[dS,iz];have e:((bQ F k).map V.int).isSome=(bQ F k).isSome:=by cases bQ F k<;>rfl
 rw[e];split
 ·unfold bR cw;simp only[IS];apply Jp;intro p _;simp only[Function.comp];by_cases h:p.1=k
  ·rw[ND (by rw[h]),ND h]
  ·rw[Nz (λz=>h (Nv.inj z)),Nz h]
 ·unfold bR cw;rw[IC,IC];rfl
def nU:Rep Hy:=⟨λ_ H v F=>∃a,v= .ref a/\H a=some (.dK (bR (cw F))),λs ⟨a,e,q⟩=>⟨a,e,s _ _ q⟩⟩
theorem jK {a b:Expr}{k y:Int}(hu:X.A.units+1<cLine)(ha:EV X a Γ nU F Γ1)(hb:EV X b Γ1 ai k Γ2)(h:bQ F k=some y)(hs:xP b:=by exact λ_ _=>rfl):EV X (.Subscript a b pos) Γ ai y Γ2:=by
 intro σ H0 R0 H R E Q q;refine eS (zC hu aQ aQ hs) (ha σ H0 R0 H R E _ λv H1 R1 E1 s1 e1=>hb σ H0 R0 H1 R1 E1 _ λu H2 R2 E2 s2 e2=>?_);obtain⟨p,rfl,hp⟩:=nU.mono s2 e1;cases e2
 have g:=eR.k (k:=Nv k) (E2.sub _ _ hp);rw[iz,h] at g;exact⟨p,_,rfl,g,q _ H2 R2 E2 (s1.trans s2) rfl⟩
theorem qv (F:Hy)(k v:Int):(dF F k v).length<=F.length+1:=by
 unfold dF;split
 ·rw[HU];omega
 ·rw[HV];simp
theorem AY (i:Nat){ke ve:Expr}{k v:Int}(hu:X.A.units+1<cLine)(hk:EV X ke Γ ai k Γ)(PH:EV X ve Γ ai v Γ)(hΓ:Γ[i]?=some (.di (cw F)))(hz:F.length<Ke)(h:N (Γ.set i (.di (cw (dF F k v)))))(hN:X.N[i]?=some x:=by rfl)(RM:autoParam (dc X.env.scope x) OA)(hd:N3 x:=by decide)(NV:Ov x:=by decide)(hs:Km ve (some (.Subscript (.Name x p1) ke p2)) pos.line X.env=pure false:=by rfl):W1 X (.Assign [.Subscript (.Name x p1) ke p2] ve pos) Γ N T:=λσ H0 R0 H R E D dn dr=>by
 refine sS (mC hu (bD hN RM hd NV) aQ aQ hs) (PH σ H0 R0 H R E _ λu0 H0' R0' E0 s0 e0=>?_);obtain⟨a,ea,ha,hR⟩:=E0.ent i _ hΓ;refine⟨.ref a,at_of ea,hk σ H0 R0 H0' R0' E0 _ λu H1 R1 E1 s1 e1=>?_⟩;obtain⟨a',OS,Pq,Ou⟩:=E1.ent i _ hΓ;rw[ea] at OS;cases OS
 cases e1
 cases e0
 refine⟨a,_,rfl,kQ.k (k:=Nv k) Pq (by unfold bR cw;rw[HU,HU];exact hz),?_⟩;rw[lL];exact dn σ _ R1 _ (E1.upd (en:=.di (cw (dF F k v))) hΓ rfl ea Ou ⟨a,rfl,aD,Ou⟩) (s0.trans s1) h
theorem rV (i:Nat){P:Hy->Prop}(hΓ:Γ[i]?=some (.di (cw F)))(h:P F)(hN:X.N[i]?=some x:=by rfl)(hv:autoParam (dc X.env.scope x) OA)(hd:N3 x:=by decide)(NV:Ov x:=by decide):W1 X (.Return (some (.Name x p1)) pos) Γ N (bM X.K nU P):=λσ H0 R0 H R E D dn dr=>by
 obtain⟨a,ea,ha,hR⟩:=E.ent i _ hΓ;have h0:H0 a=none:=E.new i _ a hΓ rfl ea;refine sS (lx (bD hN hv hd NV)) ⟨.ref a,at_of ea,dr _ H (upd R a (.dK (bR (cw F)))) ⟨E.ext.h,E.ext.r.trans (ay.fresh hR _),λb o qb=>?_,λb hb=>?_⟩ ⟨F,⟨a,rfl,aD⟩,h⟩⟩
 ·by_cases hb:b=a
  ·subst hb;rw[aD] at qb;cases qb;exact ha
  ·rw[aB hb] at qb;exact E.ext.s b o qb
 ·rw[aB (show b≠a from λe=>hb (by rw[e];exact h0))];exact E.ext.old b hb
theorem aA.G0 {H0 R0 H' R':Hp}{Γf:Ga}(E:aA K σ H0 R0 H R Γ)(E':aA K σ H H H' R' Γf):aA K σ H0 R0 H' R Γ:=
 E.grow ⟨E'.ext.h,ay.refl _,E.sub.trans E'.ext.h,λ_ _=>rfl⟩
theorem TV.OG {Γf:Ga}(hF:∀(σ:St)(H0 R0 H R:Hp),aA X.K σ H0 R0 H R Γ->aA X.K σ H H H H Γf){e:Expr}{b:Bool}(h:TV X e Γf b Γf):TV X e Γ b Γ:=λσ H0 R0 H R E Q q=>
 h σ H H H H (hF σ H0 R0 H R E) Q λH' R' E' s'=>q H' R (E.G0 E') (ay.refl _)
def c9:Rep Unit:=⟨λ_ _ v _=>v= .NS,λ_ h=>h⟩
end
variable {S:cB}{st:Stmt}
theorem As {fd:Kn}{N ps:Ht}{k:Nat}(F:cY K x qual st f fd)(Sc:bq N ps (ak st))(hm:mg x=some (.ref f))(hb:Binds K fd ps [])(len:∀qs T,S K qs T->qs.length=ps.length)(N5:∀(NK:Value)(A:Kj)(outer:List Env)(s:Kc)(H:Hp)(E:XK)(qs:List Pk)(T:RT),bz k (A.deeper (J4 qual (ak st) s.heap.objs.size f NK))->S K qs T->(∀H0 H' R',T H0 .NS H' R')/\
  WS (aT cW P w K mg base N qual (ak st) f NK A outer s H E).bV (ba st) (eh qs N.length) (λ_=>True) T):aH P w K mg base x (k+1) (aG S K):=by
 refine⟨f,fd,ps,?_,hm,F.kp,hb⟩;refine F.ok Sc (λvs H Q E h=>?_) (λNK A outer s H vs Q E hr h=>?_)
 ·obtain⟨R,qs,T,_,p,hS,_⟩:=h;rw[p.length];exact len qs T hS
 ·obtain⟨R,qs,T,sR,p,hS,q⟩:=h;have hl:qs.length<=N.length:=by
   rw[len qs T hS];have:=congrArg List.length Sc.pre;rw[Im] at this;omega
  obtain⟨h1,h2⟩:=N5 NK A outer s H E qs T hr hS;exact⟨_,dQ,h2 (L2.start N vs) H R H R (eK sR p hl) {nx:=λ_ H'=>Q .NS H',rt:=Q} (λσ' H' R' Γ' E' _ _=>q .NS H' R' E'.ext (h1 _ _ _)) λv H' R' xx t=>q v H' R' xx t⟩
theorem Ai {N ps:Ht}{k:Nat}(D:Def K mg x st ps)(N5:∀(f:Addr)(NK:Value)(A:Kj)(outer:List Env)(s:Kc)(H:Hp)(E:XK)(qs:List Pk)(T:RT),N.Nodup->bz k (A.deeper (J4 x (ak st) s.heap.objs.size f NK))->S K qs T->(∀H0 H' R',T H0 .NS H' R')/\
  WS (aT cW P w K mg base N x (ak st) f NK A outer s H E).bV (ba st) (eh qs N.length) (λ_=>True) T)(len:∀qs T,S K qs T->qs.length=ps.length:=by(intros;rename_i h;repeat (first | (rw[h.1];rfl) | obtain⟨_,h⟩:=h)))(Sc:bq N ps (ak st):=by exact OT):aH P w K mg base x (k+1) (aG S K):=by
 obtain⟨f,fd,F,hm,hb⟩:=D;exact As F Sc hm hb len λNK A outer s H E qs T=>N5 f NK A outer s H E qs T Sc.nd
theorem uL {i:Nat}{xs:List α}(hΓ:Γ[i]?=some (.mu r xs))(hz:xs.length<=Ke)(σ:St)(H0 R0 H R:Hp)(E:aA X.K σ H0 R0 H R Γ):aA X.K σ H H H H ((Γ.map oY).set i (.im (ag r) xs)):=by
 obtain⟨a,vs,ea,ha,hR,pp⟩:=E.ent i _ hΓ;exact E.OG.tJ (i:=i) (e0:=.no) (by rw[Ii,hΓ];rfl) ⟨.ref a,ea,a,vs,rfl,ha,Paired.map (λ_ _=>r.mono E.sub) pp,hz⟩ λb w=>by cases w
variable {l:Hv}{b:Addr}
def jy (H:Hp)(l:Hv):Hp:=λb=>if b∈l then none else H b
theorem mU (h:b∈l):jy H l b=none:=ND h
theorem pF (h:b∉l):jy H l b=H b:=Nz h
theorem wZ :ay (jy H l) H:=λb o q=>by
 by_cases h:b∈l
 ·rw[mU h] at q;cases q
 ·rwa [pF h] at q
variable {a:Addr}
structure LK (P:Type):Type 1 where
 bx:Hv->P->Bh
 fp:∀l s,(bx l s).fp=l
 at_:∀{K H R v l s},(bx l s).R K H R v->∃a t,l=a::t/\v= .ref a
abbrev qH (R:Hp)(l:Hv):Prop:=∀b∈l,R b=none
theorem wm {P:Type}{B:LK P}{s:P}{o:Option V}(h:(Ent.ob (B.bx (a::l) s)).ok K H R o):o=some (.ref a)/\(B.bx (a::l) s).R K H R (.ref a)/\qH R (a::l):=by
 obtain⟨⟨v,e,hv⟩,hR⟩:=h;obtain⟨a',t,el,ev⟩:=B.at_ hv;cases el
 subst ev;exact⟨e,hv,λb hb=>hR b (by rw[B.fp];exact hb)⟩
theorem uS {P:Type}{B:LK P}{s:P}(h:(B.bx (a::l) s).R K H R (.ref a))(hR:qH R (a::l)):(Ent.ob (B.bx (a::l) s)).ok K H R (some (.ref a)):=
 ⟨⟨_,rfl,h⟩,λc hc=>hR c (by rw[B.fp] at hc;exact hc)⟩
theorem tP {P:Type}{B:LK P}{st:P}{ps:List Pk}{N:Ht}(s:ay R H)(hR:qH R (a::l))(hB:(B.bx (a::l) st).R K H R (.ref a))(p:hU K R vs ps)(hl:ps.length+1<=N.length):
 aA K (L2.start N (.ref a::vs)) (jy H (a::l)) R H R (.ob (B.bx (a::l) st)::eh ps (N.length-1)):=by
 obtain⟨n0,N',rfl⟩:∃n0 N',N=n0::N':=by cases N with
  | nil=>exact Ny hl (by simp)
  | cons n N'=>exact⟨n,N',rfl⟩
 have hl':ps.length<=N'.length:=by simpa using hl
 have E0:=eK (N:=N') s p hl';have es:L2.start (n0::N') (.ref a::vs)=some (.ref a)::L2.start N' vs:=by unfold L2.start;simp
 rw[es];have Ob:∀(i:Nat)(e:Ent)(o:Option V),(eh ps N'.length)[i]?=some e->e.fp o=[]:=λi e o q=>by
  unfold eh at q;rcases Ij.mp (Iw q) with z | z
  ·obtain⟨p,_,rfl⟩:=Io.mp z;rfl
  ·obtain⟨_,rfl⟩:=JH.mp z;rfl
 refine⟨⟨wZ,ay.refl _,s,λ_ _=>rfl⟩,λi e q=>?_,λi e c q w=>?_,λi j e e' c q q' w w'=>?_,?_⟩
 ·cases i with
  | zero=>simp at q;subst q;exact uS hB hR
  | succ i=>simp at q;simpa using E0.ent i e q
 ·cases i with
  | zero=>
    simp at q;subst q;have w:c∈(B.bx (a::l) st).fp:=w;rw[B.fp] at w;exact mU w
  | succ i=>simp at q;rw[Ob i e _ q] at w;cases w
 ·cases i with
  | succ i=>simp at q;rw[Ob i e _ q] at w;cases w
  | zero=>
    cases j with
    | zero=>rfl
    | succ j=>simp at q';rw[Ob j e' _ q'] at w';cases w'
 ·have:=E0.len;simp[this]
structure bh (K:MO)(C:Addr)(ns:Ht):Prop where
 cl:n6 K C
 no:∀f∈ns,hW K C f
end Fc
namespace Fc.DP
open PySem PySem.Spec
variable {prog:Kh}{w:World}{A:Kj}{E:Value->Kc->Prop}
section
variable {h:Heap}{g:Array Lv}{d:Drawn}{t:Nat}{os:OsState}{a:Addr}{o:Obj}
end
variable {K:Type}
section
variable  [DecidableEq K]{knd:KeyKind prog w K}{R:Result->Kc->Prop}{I:Addr}{fp wr:Hv}{G:Array Lv->Array Lv->Prop}{n:Nat}{P:Nat->Value->Prop}{St:Nat->Kc->Prop}
end
section
variable  [DecidableEq K]{knd:KeyKind prog w K}{s:Kc}
end
end Fc.DP
namespace Fc
open PySem PySem.Spec PySem.W PySem.Calls L2
open PyProof.Rows hiding St
variable {X:Cx}{N:Ga->Prop}{T:RT}
section
variable {Γ Γ1 Γ2 Γ3:Ga}{α β γ δ:Type}
end
variable {xs:Ht}{pos:Pos}
section
variable {Γ Γ1 Γ2 Γ3:Ga}{α β γ δ:Type}
variable {x y:Str}
theorem iE:decide (V.str x=V.str y)=decide (x=y):=by
 by_cases h:x=y
 ·subst h;simp
 ·rw[NH h,NH λz=>h (by injection z)]
theorem bW:df X .Eq ae ae x y (decide (x=y)):=⟨_,xZ,λR H v u Q _ e1 e2 q=>by
 cases e1;cases e2
 exact⟨rfl,by rw[iE];exact q⟩⟩
theorem jY:df X .NotEq ae ae x y (!decide (x=y)):=⟨_,yH,λR H v u Q _ e1 e2 q=>by
 cases e1;cases e2
 exact⟨rfl,by rw[iE];exact q⟩⟩
def qw:Rep Ht:=⟨λK R v xs=>∃a,v= .ref a/\du K R a (xs.map V.str),λs ⟨a,e,h⟩=>⟨a,e,by
 rcases h with h | h
 ·exact .inl (h.imp (λq=>s _ _ q) λ⟨o,q⟩=>⟨o,s _ _ q⟩)
 ·exact .inr h⟩⟩
theorem i7 (x:Str):∀xs:Ht,rN (.str x) (xs.map V.str)=decide (x∈xs)
 | []=>rfl
 | y::r=>by
   have h:=i7 x r;unfold rN at h ⊢;rw[Iu,Jo,h];have e:kr (V.str y) (V.str x)=decide (x=y):=by
    show(y==x)=_;by_cases h:x=y
    ·subst h;simp
    ·rw[NH h];exact beq_eq_false_iff_ne.mpr (JX h)
   rw[e];by_cases h1:x=y<;>simp[h1]
theorem h8:∀xs:Ht,(xs.map V.str).all fh=true
 | []=>rfl
 | _::r=>by rw[Iu,JE,h8 r];rfl
theorem gA :df X .In ae qw x xs (decide (x∈xs)):=⟨_,jN,λR H v u Q s e1 e2 q=>by
 cases e1
 obtain⟨a,rfl,h⟩:=e2;exact⟨a,_,rfl,.inr (h.imp (λh=>h.imp (λq=>s _ _ q) λ⟨o,q⟩=>⟨o,s _ _ q⟩) id),rfl,h8 xs,by rw[Nz HE,i7];exact q⟩⟩
def nt (K:MO)(mg:Hq)(x:Str)(xs:Ht):Prop:=∃a o NJ n,mg x=some (.ref a)/\K.lookup a=some o/\o.cls= .type "tuple"/\o.data= .seq NJ n/\NJ.size<=Ke/\Vals (xs.map V.str) NJ.toList
theorem dP (hm:nt X.K X.mg x xs)(hg:Gl X x:=by rfl)(hd:N3 x:=by decide):EV X (.Name x pos) Γ qw xs Γ:=by
 obtain⟨a,o,NJ,n,h1,h2⟩:=hm;exact λ_ _ _ _ _ E _ q=>eS (fQ (v:=.ref a) hg h1 rfl hd) (q (.ref a) _ _ E (ay.refl _) ⟨a,rfl,.inr ⟨o,NJ,n,h2⟩⟩)
end
def jb (P:Kh)(w:World)(K:MO)(mg:Hq)(x:Str)(D:List (Str×Ht)):Prop:=
 ∃a o vs,mg x=some (.ref a)/\K.lookup a=some o/\o.IsDictOf (bH P w) vs/\(a==Kv)=false/\
  PySem.Paired (λ(d:Str×Ht)(p:Key×Value)=>p.1=Nw d.1/\∃b o NJ n,p.2= .ref b/\K.lookup b=some o/\o.cls= .type "tuple"/\o.data= .seq NJ n/\NJ.size<=Ke/\Vals (d.2.map V.str) NJ.toList) D vs
def ft:List (Str×Ht)->Str->Option Ht
 | [],_=>none
 | (k,v)::r,x=>if k=x then some v else ft r x
theorem oQ {K:MO}{x:Str}:∀{D:List (Str×Ht)}{vs:List (Key×Value)},PySem.Paired (λ(d:Str×Ht)(p:Key×Value)=>p.1=Nw d.1/\∃b o NJ n,p.2= .ref b/\K.lookup b=some o/\o.cls= .type "tuple"/\o.data= .seq NJ n/\NJ.size<=Ke/\Vals (d.2.map V.str) NJ.toList) D vs->
 (ft D x=none/\KG vs (Nw x:Key)=none)∨∃ys b,ft D x=some ys/\KG vs (Nw x:Key)=some (.ref b)/\∃o NJ n,K.lookup b=some o/\o.cls= .type "tuple"/\o.data= .seq NJ n/\NJ.size<=Ke/\Vals (ys.map V.str) NJ.toList
 | _,_,.nil=>.inl ⟨rfl,rfl⟩
 | _,_,.cons (a:=d) (b:=p) h t=>by
   obtain⟨k,v⟩:=d;obtain⟨q,u⟩:=p;obtain⟨e1,b,o,NJ,n,e2,h3⟩:=h;have e1:q=Nw k:=e1;have e2:u=MF b:=e2;subst e1;subst e2;rw[ft];unfold KG;rw[IX];by_cases e:k=x
   ·subst e;rw[ND rfl];exact .inr ⟨v,b,rfl,by simp,o,NJ,n,h3⟩
   ·rw[Nz e];have:decide ((Nw k:Key)=Nw x)=false:=NH λz=>e (Nw.inj z);simp only[this];exact oQ t
section
variable {Γ Γ1 Γ2 Γ3:Ga}{α β γ δ:Type}
theorem vW {e:Expr}{x:Str}{p1:Pos}{D:List (Str×Ht)}{k:Str}(hD:jb X.prog X.w X.K X.mg x D)(he:EV X e Γ ae k Γ1)(hg:Gl X x:=by rfl)(hd:N3 x:=by decide):TV X (.Compare e [.NotIn] [.Name x p1] pos) Γ (!(ft D k).isSome) Γ1:=by
 intro σ H0 R0 H R E Q q;obtain⟨a,o,vs,hm,hk,hdo,hs,hp⟩:=hD;have pc:PC X .NotIn e (.Name x p1) (λσ H Q=>fD X e σ H λy H1=>y= .str k/\Q (.bl (!(ft D k).isSome)) H1):=by
  intro NI s σ H Q I h;refine aJ (h NI s I) λiv s1 ⟨y,H1,I1,ry,ey,q1⟩=>aJ (fQ (v:=.ref a) hg hm rfl hd NI s1 σ H1 (λv H2=>v= .ref a/\H2=H1) I1 ⟨rfl,rfl⟩) λu s2 ⟨y2,H2,I2,ry2,e3,e4⟩=>?_;subst ey;subst e3;subst e4;obtain rfl:u=MF a:=ry2;have dd:s2.heap.DictOf (bH X.prog X.w) a vs:=Mw.mpr ⟨o,I2.cO a o hk,hdo⟩;refine wpAny_notIn_of (gw (k:=Nw k) ry) hs dd.mapOf ?_;rcases oQ (x:=k) hp with⟨h1,h2⟩ | ⟨ys,b,h1,h2,_⟩
  ·rw[h2];rw[h1] at q1;exact⟨.bl _,_,I2.tok _,rfl,q1⟩
  ·rw[h2];rw[h1] at q1;exact⟨.bl _,_,I2.tok _,rfl,q1⟩
 refine tS (jF pc (by with_unfolding_all rfl)) (he σ H0 R0 H R E _ λv H1 R1 E1 s1 e1=>⟨e1,_,rfl,q H1 R1 E1 s1⟩)
end
end Fc
namespace Fc.ZT
open PySem PySem.Spec PyProof.Rows
variable {prog:Kh}{w:World}{A:Kj}{E:Value->Kc->Prop}{s:Kc}{NJ:Array Value}{Q:Value->Kc->Prop}
structure Dr (prog:Kh)(w:World)(A:Kj)(i l:Addr)(NJ:Array Value)(St:Nat->Heap->Prop):Prop where
 up:∀{k:Nat}{h h':Heap},St k h->(∀b,b=i∨b=l->∀o,h.get? b=some o->h'.get? b=some o)->St k h'
 there:∀{k:Nat}{h:Heap},St k h->i<h.objs.size
 item:∀{k:Nat}{x:Value}{s:Kc}{Q:Value->Kc->Prop}{E:Value->Kc->Prop},St k s.heap->NJ[k]?=some x->(∀h',St (k+1) h'->Ms i s.heap h'->Q x {s with heap:=h'})->wpAny (model prog w) A (Ln.SmallTypes.nextOf (.ref i)) Q E s
 done:∀{k:Nat}{s:Kc}{Q:Value->Kc->Prop}{E:Value->Kc->Prop},St k s.heap->NJ[k]?=none->(∀h' e,Heap.ExtBut i s.heap h'->(∃o,h'.get? e=some o/\o.cls= .type "StopIteration")->E (.ref e) {s with heap:=h'})->wpAny (model prog w) A (Ln.SmallTypes.nextOf (.ref i)) Q E s
theorem wI {i l:Addr}(hh:A.handled=none)(N2:i≠l):Dr prog w A i l NJ (λk h=>h.IsTupleIter i l k/\h.IsTuple l NJ) where
 up:=λ⟨⟨o,ho,r⟩,⟨o',OO,r'⟩⟩ hk=>⟨⟨o,hk _ (.inl rfl) o ho,r⟩,⟨o',hk _ (.inr rfl) o' OO,r'⟩⟩
 there:=λ⟨⟨o,ho,_⟩,_⟩=>Mo ho
 item:=λ{k x s Q E} ⟨hit,ht⟩ hx hQ=>by
  obtain⟨o,ho,hc,hd⟩:=id hit;obtain⟨ol,hol,_,nl,hdl⟩:=id ht;unfold Ln.SmallTypes.nextOf;refine Kb (Kw (name:=ME "__next__") hit.typeIs Mg
   (KR Mg hit.typeIs F.entry_tuple_iterator_next ?_ (F.args_tuple_iterator_next_1 _)))
  show wpAny _ _ (field (.ref i) 0 >>=_) _ _ s;refine Kb (Ks ho hd (x:=.ref l) rfl ?_);refine wpAny_ite ?_;rw[Nz (show¬((MF l==MH)=true) from HE)];show wpAny _ _ (field (.ref i) 1 >>=_) _ _ s;refine Kb (Ks ho hd (x:=.int k 0) rfl ?_);show wpAny _ _ (seqItems? (.ref l) >>=_) _ _ s;refine Kb (KH hol hdl ?_);simp only[Int.toNat_natCast,hx];have hs:=Ms.update s.heap i (λo=>o.mapFields λa=>a.setIfInBounds 1 (Lw (k+1)));refine Kb (wpAny_setField ho hd (by simp) (Kg ⟨x,rfl,Kg (hQ _ ⟨?_,ht.extBut (Ms.update ..).extBut (JX N2)⟩ (Ms.update ..))⟩));exact⟨_,Mr _ ho (Obj.isFreed_of_fields (Obj.data_mapFields hd _)),(Obj.cls_mapFields ..).trans hc,by rw[Obj.data_mapFields hd];simp[Lw]⟩
 done:=λ{k s Q E} ⟨hit,ht⟩ hx hE=>by
  obtain⟨o,ho,hc,hd⟩:=id hit;obtain⟨ol,hol,_,nl,hdl⟩:=id ht;unfold Ln.SmallTypes.nextOf;refine Kb (Kw (name:=ME "__next__") hit.typeIs Mg
   (KR Mg hit.typeIs F.entry_tuple_iterator_next ?_ (F.args_tuple_iterator_next_1 _)))
  show wpAny _ _ (field (.ref i) 0 >>=_) _ _ s;refine Kb (Ks ho hd (x:=.ref l) rfl ?_);refine wpAny_ite ?_;rw[Nz (show¬((MF l==MH)=true) from HE)];show wpAny _ _ (field (.ref i) 1 >>=_) _ _ s;refine Kb (Ks ho hd (x:=.int k 0) rfl ?_);show wpAny _ _ (seqItems? (.ref l) >>=_) _ _ s;refine Kb (KH hol hdl ?_);simp only[Int.toNat_natCast,hx];refine Kb (Lj (Kb (wpAny_setField ho hd (by simp) ?_)));show wpAny _ _ (newExc (.type "StopIteration") [] >>=_) _ _ _;refine Kb ?_;simp only[newExc,newTuple];refine Kb (KD ?_ (by size_fits));refine Kb (m:=firstArgMember _ _) (wpAny_of_eq (a:=MH) (by first | rfl | (simp only[firstArgMember];rfl)) ?_);refine KD ?_ (by size_fits);simp only[raiseNew];refine Kb (wpAny_handled ?_)
  first | rw[show A.in1.handled=none from hh] | rw[hh]
  refine Kb (Kg (wpAny_throw ?_));exact hE _ _ (((Ms.update ..).extBut.push _).push _) ⟨_,Mp _ rfl,rfl⟩
section
variable {z TI TO i1 i2 l1 l2:Addr}{k1 k2:Nat}{xs ys:Array Value}{x y a b:Value}{S1 S2:Nat->Heap->Prop}
theorem up1 {i l c:Addr}{St:Nat->Heap->Prop}(d:Dr prog w A i l NJ St){k:Nat}{h h':Heap}(hs:St k h)(e:Heap.ExtBut c h h')(h1:i≠c)(h2:l≠c):St k h':=d.up hs λb hb o q=>e b o (by rcases hb with rfl | rfl<;>assumption) q
theorem yY (D:LQ z TI TO i1 i2 l1 l2)(d1:Dr prog w A i1 l1 xs S1)(d2:Dr prog w A i2 l2 ys S2)(hz:IsZip s.heap z TI TO .none)(O2:KA s.heap TI (.ref i1) (.ref i2))(O8:KA s.heap TO a b)(h1:S1 k1 s.heap)(h2:S2 k2 s.heap)(hx:xs[k1]?=some x)(hy:ys[k2]?=some y)(hQ:∀h',IsZip h' z TI TO (Lw s.heap.objs.size)->KA h' TO x y->S1 (k1+1) h'->S2 (k2+1) h'->KA h' s.heap.objs.size x y->(∀c o,c≠z->c≠TO->c≠i1->c≠i2->s.heap.get? c=some o->h'.get? c=some o)->Q (.ref s.heap.objs.size) {s with heap:=h'}):
 wpAny (model prog w) A (Ln.«zip.__next__» ⟨[.ref z],[]⟩) (λfin s'=>∃v,fin= .done (.ret v)/\Q v s') E s:=by
 show wpAny _ _ (field (.ref z) 2 >>=_) _ _ _;refine Kb (Ks hz rfl (x:=.bool false) rfl ?_);show wpAny _ _ (field (.ref z) 3 >>=_) _ _ _;refine Kb (Ks hz rfl (x:=.ref TI) rfl (Kb (KH O2 rfl ?_)));show wpAny _ _ (Ln.SmallTypes.ownedTupleIsFree (.ref z) >>=_) _ _ _;refine Kb ?_;unfold Ln.SmallTypes.ownedTupleIsFree;refine Kb (Ks hz rfl (x:=.none) rfl (Kg ?_));simp only[if_true];refine Kb (Lj (Kb (Ks hz rfl (x:=.ref TO) rfl (Kb (KJ hz (by simp) λha QA PU=>?_)))));replace QA:IsZip ha z TI TO .ellipsis:=QA;refine Kb ?_;simp only[List.zipIdx_cons,List.zipIdx_nil,JF,forIn_nil];refine Kb (Kb (Lp ?_));show wpAny _ _ (Ln.SmallTypes.nextOf (.ref i1) >>=_) _ _ _;have g1:S1 k1 ha:=up1 d1 h1 PU.extBut D.i1z D.l1z;have g2:S2 k2 ha:=up1 d2 h2 PU.extBut D.i2z D.l2z;refine Kb (d1.item g1 hx λhb n1 Oq=>Kg ?_);have tb:KA hb TO a b:=Oq.extBut _ _ D.TOi1 (PU.extBut _ _ D.TOz O8);refine Kb (KH tb rfl (Kb (Lk tb λhc tc Pn=>?_)));replace tc:KA hc TO x b:=tc;refine Kb (wpAny_letGo (Kg ?_));refine Kb (Kb (Lp ?_));show wpAny _ _ (Ln.SmallTypes.nextOf (.ref i2) >>=_) _ _ _;have g2c:S2 k2 hc:=up1 d2 (up1 d2 g2 Oq.extBut D.i12.symm D.l2i1) Pn.extBut D.TOi2.symm D.l2TO;refine Kb (d2.item g2c hy λhd n2 QD=>Kg ?_);have td:KA hd TO x b:=QD.extBut _ _ D.TOi2 tc;refine Kb (KH td rfl (Kb (Lk td λhe te QC=>?_)));replace te:KA he TO x y:=te;refine Kb (wpAny_letGo (Kg (Kg ?_)));refine Kb (KH te rfl (Kb (wpAny_newTuple ?_)));have hsz:he.objs.size=s.heap.objs.size:=by rw[QC.1,QD.1,Pn.1,Oq.1,PU.1]
 have ze:IsZip he z TI TO .ellipsis:=QC.extBut _ _ D.TOz.symm (QD.extBut _ _ D.i2z.symm (Pn.extBut _ _ D.TOz.symm (Oq.extBut _ _ D.i1z.symm QA)));have ke:∀c o,c≠z->c≠TO->c≠i1->c≠i2->s.heap.get? c=some o->he.get? c=some o:=λc o c1 c2 c3 c4 e=>
  QC.extBut _ _ c2 (QD.extBut _ _ c4 (Pn.extBut _ _ c2 (Oq.extBut _ _ c3 (PU.extBut _ _ c1 e))))
 have m1:S1 (k1+1) he:=up1 d1 (up1 d1 (up1 d1 n1 Pn.extBut D.TOi1.symm D.l1TO) QD.extBut D.i12 D.l1i2) QC.extBut D.TOi1.symm D.l1TO;have m2:S2 (k2+1) he:=up1 d2 n2 QC.extBut D.TOi2.symm D.l2TO;have RJ:z<he.objs.size:=Mo ze;show wpAny _ _ (Ln.SmallTypes.ownedTupleHandOut (.ref z) (.ref he.objs.size) >>=_) _ _ _;refine Kb ?_;unfold Ln.SmallTypes.ownedTupleHandOut;have zf:IsZip (he.push {cls:=.type "tuple",data:=.seq #[x,y]}) z TI TO .ellipsis:=Mn _ ze;refine Kb (KJ zf (by simp) λhg zg hsg=>?_);replace zg:IsZip hg z TI TO (Lw he.objs.size):=zg;refine KJ zg (by simp) λhj zj hsj=>?_;replace zj:IsZip hj z TI TO (Lw he.objs.size):=zj;have up:∀c o,c≠z->he.get? c=some o->hj.get? c=some o:=λc o c1 e=>hsj.extBut _ _ c1 (hsg.extBut _ _ c1 (Mn _ e));have tj:KA hj he.objs.size x y:=hsj.extBut _ _ (JU RJ) (hsg.extBut _ _ (JU RJ) (Mp _ rfl));rw[hsz] at zj tj;refine Kg ⟨_,rfl,?_⟩;show Q (.ref he.objs.size) _;rw[hsz];exact hQ hj zj (up _ _ D.TOz te) (d1.up m1 λc hc o e=>up c o (hc.elim (λq=>by rw[q];exact D.i1z) λq=>by rw[q];exact D.l1z) e) (d2.up m2 λc hc o e=>up c o (hc.elim (λq=>by rw[q];exact D.i2z) λq=>by rw[q];exact D.l2z) e) tj λc o c1 c2 c3 c4 e=>up c o c1 (ke c o c1 c2 c3 c4 e)
theorem BZ {Q:PySem.Fin->Kc->Prop}(D:LQ z TI TO i1 i2 l1 l2)(d1:Dr prog w A i1 l1 xs S1)(d2:Dr prog w A i2 l2 ys S2)(hz:IsZip s.heap z TI TO .none)(O2:KA s.heap TI (.ref i1) (.ref i2))(O8:KA s.heap TO a b)(h1:S1 k1 s.heap)(h2:S2 k2 s.heap)(OQ:xs[k1]?=none∨ys[k2]?=none)(hE:∀h' e,(∀c o,c≠z->c≠TO->c≠i1->c≠i2->s.heap.get? c=some o->h'.get? c=some o)->(∃o,h'.get? e=some o/\o.cls= .type "StopIteration")->E (.ref e) {s with heap:=h'}):
 wpAny (model prog w) A (Ln.«zip.__next__» ⟨[.ref z],[]⟩) Q E s:=by
 show wpAny _ _ (field (.ref z) 2 >>=_) _ _ _;refine Kb (Ks hz rfl (x:=.bool false) rfl ?_);show wpAny _ _ (field (.ref z) 3 >>=_) _ _ _;refine Kb (Ks hz rfl (x:=.ref TI) rfl (Kb (KH O2 rfl ?_)));show wpAny _ _ (Ln.SmallTypes.ownedTupleIsFree (.ref z) >>=_) _ _ _;refine Kb ?_;unfold Ln.SmallTypes.ownedTupleIsFree;refine Kb (Ks hz rfl (x:=.none) rfl (Kg ?_));simp only[if_true];refine Kb (Lj (Kb (Ks hz rfl (x:=.ref TO) rfl (Kb (KJ hz (by simp) λha QA PU=>?_)))));replace QA:IsZip ha z TI TO .ellipsis:=QA;refine Kb ?_;simp only[List.zipIdx_cons,List.zipIdx_nil,JF,forIn_nil];refine Kb (Kb (Lp ?_));show wpAny _ _ (Ln.SmallTypes.nextOf (.ref i1) >>=_) _ _ _;have g1:S1 k1 ha:=up1 d1 h1 PU.extBut D.i1z D.l1z;have g2:S2 k2 ha:=up1 d2 h2 PU.extBut D.i2z D.l2z;cases hx:xs[k1]? with
 | none=>
   refine Kb (d1.done g1 hx λhb e Oq he=>?_);obtain⟨oe,QT,So⟩:=he;have zb:IsZip hb z TI TO .ellipsis:=Oq _ _ D.i1z.symm QA;have hez:e≠z:=λq=>by subst q;rw[zb] at QT;cases QT;simp at So
   exact KJ zb (by simp) λhc _ Pn=>hE hc e (λc o c1 _ c3 _ q=>Pn.extBut _ _ c1 (Oq _ _ c3 (PU.extBut _ _ c1 q))) ⟨oe,Pn.extBut _ _ hez QT,So⟩
 | some x=>
   have hy:ys[k2]?=none:=by rcases OQ with q | q;rw[hx] at q;cases q;exact q
   refine Kb (d1.item g1 hx λhb n1 Oq=>Kg ?_);have tb:KA hb TO a b:=Oq.extBut _ _ D.TOi1 (PU.extBut _ _ D.TOz O8);refine Kb (KH tb rfl (Kb (Lk tb λhc tc Pn=>?_)));refine Kb (wpAny_letGo (Kg ?_));refine Kb (Kb (Lp ?_));show wpAny _ _ (Ln.SmallTypes.nextOf (.ref i2) >>=_) _ _ _;have g2c:S2 k2 hc:=up1 d2 (up1 d2 g2 Oq.extBut D.i12.symm D.l2i1) Pn.extBut D.TOi2.symm D.l2TO;refine Kb (d2.done g2c hy λhd e QD he=>?_);obtain⟨oe,QT,So⟩:=he;have zd:IsZip hd z TI TO .ellipsis:=QD _ _ D.i2z.symm (Pn.extBut _ _ D.TOz.symm (Oq.extBut _ _ D.i1z.symm QA));have hez:e≠z:=λq=>by subst q;rw[zd] at QT;cases QT;simp at So
   exact KJ zd (by simp) λhe _ QC=>hE he e (λc o c1 c2 c3 c4 q=>QC.extBut _ _ c1 (QD _ _ c4 (Pn.extBut _ _ c2 (Oq.extBut _ _ c3 (PU.extBut _ _ c1 q))))) ⟨oe,QC.extBut _ _ hez QT,So⟩
theorem zH {Q:Hu->Kc->Prop}(D:LQ z TI TO i1 i2 l1 l2)(d1:Dr prog w A.in1 i1 l1 xs S1)(d2:Dr prog w A.in1 i2 l2 ys S2)(hz:IsZip s.heap z TI TO .none)(O2:KA s.heap TI (.ref i1) (.ref i2))(O8:KA s.heap TO a b)(h1:S1 k1 s.heap)(h2:S2 k2 s.heap)(hx:xs[k1]?=some x)(hy:ys[k2]?=some y)(hQ:∀h',IsZip h' z TI TO (Lw s.heap.objs.size)->KA h' TO x y->S1 (k1+1) h'->S2 (k2+1) h'->KA h' s.heap.objs.size x y->(∀c o,c≠z->c≠TO->c≠i1->c≠i2->s.heap.get? c=some o->h'.get? c=some o)->Q (some (.ref s.heap.objs.size)) {s with heap:=h'}):
 wpAny (model prog w) A (LH (.ref z)) Q E s:=by
 have hT:s.TypeIs (.ref z) "zip":=⟨_,hz,rfl⟩;unfold LH;exact Kb (Lf (Kw (name:=ME "__next__") hT Mi (KR Mi hT F.entry_zip_next (yY D d1 d2 hz O2 O8 h1 h2 hx hy λh' a1 a2 a3 a4 a5 a6=>Kg (hQ h' a1 a2 a3 a4 a5 a6)) (F.args_zip_next_1 _))))
theorem Bw {Q:Hu->Kc->Prop}(D:LQ z TI TO i1 i2 l1 l2)(d1:Dr prog w A.in1 i1 l1 xs S1)(d2:Dr prog w A.in1 i2 l2 ys S2)(hz:IsZip s.heap z TI TO .none)(O2:KA s.heap TI (.ref i1) (.ref i2))(O8:KA s.heap TO a b)(h1:S1 k1 s.heap)(h2:S2 k2 s.heap)(OQ:xs[k1]?=none∨ys[k2]?=none)(hQ:∀h',(∀c o,c≠z->c≠TO->c≠i1->c≠i2->s.heap.get? c=some o->h'.get? c=some o)->Q none {s with heap:=h'}):wpAny (model prog w) A (LH (.ref z)) Q E s:=by
 have hT:s.TypeIs (.ref z) "zip":=⟨_,hz,rfl⟩;unfold LH;refine Kb (Lf (Kw (name:=ME "__next__") hT Mi (KR Mi hT F.entry_zip_next (BZ D d1 d2 hz O2 O8 h1 h2 OQ λh' e hk he=>?_) (F.args_zip_next_1 _))));obtain⟨o,ho,hc⟩:=he;exact Kb (wpAny_isInstance (T:="StopIteration") (b:=true) ⟨o,ho,hc⟩ isSubtype_stop (Kg (hQ _ hk)))
end
theorem zl {i l:Addr}(hh:A.handled=none)(N2:i≠l):Dr prog w A i l NJ (λk h=>h.IsListIter i l k/\h.IsList l NJ) where
 up:=λ⟨⟨o,ho,r⟩,⟨o',OO,r'⟩⟩ hk=>⟨⟨o,hk _ (.inl rfl) o ho,r⟩,⟨o',hk _ (.inr rfl) o' OO,r'⟩⟩
 there:=λ⟨⟨o,ho,_⟩,_⟩=>Mo ho
 item:=λ{k x s Q E} ⟨hit,ht⟩ hx hQ=>wpAny_nextOf_list_item hit ht hx λh' h1 h2=>hQ h' ⟨h1,ht.extBut h2.extBut (JX N2)⟩ h2
 done:=λ{k s Q E} ⟨hit,ht⟩ hx hE=>wpAny_nextOf_list_end hh hit ht hx λh' e h1 h2=>hE h' e h1 h2
abbrev iI (c:String)(l:Addr):Obj:={cls:=.type c,data:=.fields #[.ref l,.int 0 0]}
def o9 (c:String)(h:Heap)(a l:Addr)(i:Nat):Prop:=∃o,h.get? a=some o/\o.cls= .type c/\o.data= .fields #[.ref l,.int i 0]
structure Kd (prog:Kh)(w:World)(it:String)(Is:Heap->Addr->Array Value->Prop):Prop where
 nm:it="list_iterator"∨it="tuple_iterator"
 cl:∀{h:Heap}{a:Addr}{NJ:Array Value},Is h a NJ->∃o,h.get? a=some o/\(o.cls= .type "list"∨o.cls= .type "tuple")
 up:∀{h:Heap}{a:Addr}{NJ:Array Value}(o:Obj),Is h a NJ->Is (h.push o) a NJ
 dr:∀{A:Kj}{i l:Addr}{NJ:Array Value},A.handled=none->i≠l->Dr prog w A i l NJ (λk h=>o9 it h i l k/\Is h l NJ)
 iter:∀{A:Kj}{E:Value->Kc->Prop}{s:Kc}{l:Addr}{NJ:Array Value}{Q:Value->Kc->Prop},Is s.heap l NJ->Q (.ref s.heap.objs.size) {s with heap:=s.heap.push (iI it l)}->wpAny (model prog w) A (pyIter (.ref l)) Q E s
theorem GZ :Kd prog w "list_iterator" Heap.IsList:=⟨.inl rfl,λ⟨o,ho,hc,_⟩=>⟨o,ho,.inl hc⟩,λo h=>h.push o,λhh hn=>zl hh hn,λh q=>Lb h q⟩
theorem Gq :Kd prog w "tuple_iterator" Heap.IsTuple:=⟨.inr rfl,λ⟨o,ho,hc,_⟩=>⟨o,ho,.inr hc⟩,λo ⟨o',ho,r⟩=>⟨o',Mn _ ho,r⟩,λhh hn=>wI hh hn,λh q=>wpAny_pyIter_tuple h q⟩
section
variable {i1 i2:String}{S1 S2:Heap->Addr->Array Value->Prop}
theorem Kd.apart {h:Heap}{l c:Addr}{o:Obj}(k:Kd prog w i1 S1)(p:S1 h l NJ)(e:h.get? c=some o)(hc:o.cls= .type "zip"∨o.cls= .type "list_iterator"∨o.cls= .type "tuple_iterator"):l≠c:=λz=>by
 obtain⟨u,e',c'⟩:=k.cl p;rw[z,e] at e';cases e'
 rcases hc with q | q | q<;>rw[q] at c'<;>simp at c'
theorem vG {l1 l2:Addr}{xs ys:Array Value}(k1:∀prog w,Kd prog w i1 S1)(k2:∀prog w,Kd prog w i2 S2)(hl1:S1 s.heap l1 xs)(QY:S2 s.heap l2 ys)(h:∀h',IsZip h' (s.heap.objs.size+4) (s.heap.objs.size+2) (s.heap.objs.size+3) .none->KA h' (s.heap.objs.size+2) (.ref s.heap.objs.size) (.ref (s.heap.objs.size+1))->KA h' (s.heap.objs.size+3) .none .none->o9 i1 h' s.heap.objs.size l1 0->o9 i2 h' (s.heap.objs.size+1) l2 0->
  (∀c o,s.heap.get? c=some o->h'.get? c=some o)->Q (.ref (s.heap.objs.size+4)) {s with heap:=h'}):wpAny (model prog w) A (call (.type "zip") [.ref l1,.ref l2]) Q E s:=by
 have nz:Meets (Ln.«zip.__new__» ⟨[.type "zip",.ref l1,.ref l2],[]⟩) (λ_ R s=>S1 s.heap l1 xs/\S2 s.heap l2 ys/\R (.ok (.ret (.ref (s.heap.objs.size+4)))) {s with heap:=((((s.heap.push (iI i1 l1)).push (iI i2 l2)).push {cls:=.type "tuple",data:=.seq #[.ref s.heap.objs.size,.ref (s.heap.objs.size+1)]}).push {cls:=.type "tuple",data:=.seq #[.none,.none]}).push {cls:=.type "zip",data:=.fields #[.none,.bool false,.bool false,.ref (s.heap.objs.size+2),.ref (s.heap.objs.size+3)]}}):=
  .of_wp λprog w A R s h=>by
   obtain⟨hp,g,d,tk,os⟩:=s;obtain⟨hl1,QY,h⟩:=h;have Ot:isSubtype (.type "zip") (.type "zip")=pure true:=by rw[isSubtype_type];kernel_rfl
   have hL1:S1 (Kc.heap ⟨hp,g,d,tk,os⟩) l1 xs:=hl1;have hL2:S2 (Kc.heap ⟨hp.push (iI i1 l1),g,d,tk,os⟩) l2 ys:=(k2 prog w).up _ QY
   wp_walk using(k1 prog w).iter hL1,(k2 prog w).iter hL2
   refine⟨_,rfl,?_⟩;simp only[Mq];exact h
 refine callType_new F.called_zip (by decide) (F.typeCall_zip_2 _ _) (F.newCall_zip_2 _ _) (λobj=>F.args_object_init_3 obj _ _) F.entry_zip_new nz ⟨hl1,QY,?_⟩;have at_:∀(h:Heap)(o:Obj)(n:Nat),h.objs.size=n->o.isFreed=false->(h.push o).get? n=some o:=λh o n e f=>by subst e;exact Mp _ f
 have g5:=at_ ((((s.heap.push (iI i1 l1)).push (iI i2 l2)).push {cls:=.type "tuple",data:=.seq #[.ref s.heap.objs.size,.ref (s.heap.objs.size+1)]}).push {cls:=.type "tuple",data:=.seq #[.none,.none]}) {cls:=.type "zip",data:=.fields #[.none,.bool false,.bool false,.ref (s.heap.objs.size+2),.ref (s.heap.objs.size+3)]} (s.heap.objs.size+4) (by simp[Mq]) rfl;have g4:=at_ (((s.heap.push (iI i1 l1)).push (iI i2 l2)).push {cls:=.type "tuple",data:=.seq #[.ref s.heap.objs.size,.ref (s.heap.objs.size+1)]}) {cls:=.type "tuple",data:=.seq #[.none,.none]} (s.heap.objs.size+3) (by simp[Mq]) rfl;have g3:=at_ ((s.heap.push (iI i1 l1)).push (iI i2 l2)) {cls:=.type "tuple",data:=.seq #[.ref s.heap.objs.size,.ref (s.heap.objs.size+1)]} (s.heap.objs.size+2) (by simp[Mq]) rfl;have g2:=at_ (s.heap.push (iI i1 l1)) (iI i2 l2) (s.heap.objs.size+1) (by simp[Mq]) rfl;have g1:=at_ s.heap (iI i1 l1) s.heap.objs.size rfl rfl;have p:=@Mn;exact⟨⟨_,g5,rfl⟩,h _ g5 (p _ (p _ g3)) (p _ g4) ⟨_,p _ (p _ (p _ (p _ g1))),rfl,rfl⟩ ⟨_,p _ (p _ (p _ g2)),rfl,rfl⟩ λc o x=>p _ (p _ (p _ (p _ (p _ x))))⟩
end
end Fc.ZT
namespace Fc
open PySem PySem.Spec PySem.W PySem.Calls L2
open PyProof.Rows hiding St
variable {i:Nat}{K:MO}{es:Hx}{tp:Pos}{R:Hp}{v:V}{pos:Pos}
section
variable {X:Cx}{Γ Γ1 Γ2 Γ3:Ga}{α β γ δ:Type}{N:Ga->Prop}{T:RT}
structure xr (z TI TO i1 i2:Addr):Prop where
 TIz:TI≠z
 TOz:TO≠z
 i1z:i1≠z
 i2z:i2≠z
 TITO:TI≠TO
 TIi1:TI≠i1
 TIi2:TI≠i2
 TOi1:TO≠i1
 TOi2:TO≠i2
 i12:i1≠i2
theorem kn {a b:Nat}(h:a<b∨b<a): @Ne Addr a b:=h.elim JL JU
theorem Gv (n:Nat):xr (n+4) (n+2) (n+3) n (n+1):=⟨kn (by omega),kn (by omega),kn (by omega),kn (by omega),kn (by omega),kn (by omega),kn (by omega),kn (by omega),kn (by omega),kn (by omega)⟩
structure Ky where
 it:String
 Is:Heap->Addr->Array Value->Prop
 Sq:MO->Hp->Addr->List V->Prop
 kd:∀prog w,ZT.Kd prog w it Is
 get:∀{X:Cx}{NI:Hr}{σ:St}{H:Hp}{s:Kc}{a:Addr}{xs:List V},Inv X NI σ H s->Sq X.K H a xs->∃NJ,Vals xs NJ/\Is s.heap a NJ.toArray
 inj:∀{X:Cx}{NI:Hr}{σ:St}{H:Hp}{s:Kc}{a:Addr}{xs ys:List V},Inv X NI σ H s->Sq X.K H a xs->Sq X.K H a ys->xs=ys
def F3:Ky:=⟨_,_,bp,λ_ _=>ZT.GZ,λI h=>by obtain⟨NJ,r,p,_⟩:=I.list h;exact⟨NJ,r,p.isList⟩,λI h h'=>I.iZ h h'⟩
def FP:Ky:=⟨_,_,du,λ_ _=>ZT.Gq,λI h=>by obtain⟨NJ,r,p,_⟩:=I.tuple h;exact⟨NJ,r,p⟩,λI h h'=>I.om h h'⟩
variable {k1 k2:Ky}
def Gg (k1 k2:Ky)(K:MO)(a b:Addr):It:=
 ⟨λi H=>∃xs ys x y,k1.Sq K H a xs/\k2.Sq K H b ys/\xs[i]?=some x/\ys[i]?=some y,
  λi H v H'=>∃p x y,H p=none/\v= .ref p/\H'=upd H p (.tup [x,y])/\(∀xs,k1.Sq K H a xs->xs[i]?=some x)/\∀ys,k2.Sq K H b ys->ys[i]?=some y,
  λi H=>∃xs ys,k1.Sq K H a xs/\k2.Sq K H b ys/\(xs.length<=i∨ys.length<=i)⟩
def FA (k1 k2:Ky)(z TI TO i1 i2 a b:Addr)(i:Nat)(h:Heap):Prop:=
 IsZip h z TI TO .none/\KA h TI (.ref i1) (.ref i2)/\(∃u v,KA h TO u v)/\ZT.o9 k1.it h i1 a i/\ZT.o9 k2.it h i2 b i/\a≠TO/\b≠TO
theorem F5 {P:Kh}{w:World}{h:Heap}{z TI TO i1 i2 a b:Addr}{xs ys:Array Value}(F:xr z TI TO i1 i2)(st:FA k1 k2 z TI TO i1 i2 a b i h)(pa:k1.Is h a xs)(pb:k2.Is h b ys):LQ z TI TO i1 i2 a b:=by
 obtain⟨hz,_,_,⟨o1,e1,c1,_⟩,⟨o2,e2,c2,_⟩,n1,n2⟩:=st;have q1:o1.cls= .type "list_iterator"∨o1.cls= .type "tuple_iterator":=(k1.kd P w).nm.imp (λe=>by rw[c1,e]) (λe=>by rw[c1,e]);have q2:o2.cls= .type "list_iterator"∨o2.cls= .type "tuple_iterator":=(k2.kd P w).nm.imp (λe=>by rw[c2,e]) (λe=>by rw[c2,e]);exact⟨F.TIz,F.TOz,F.i1z,F.i2z,F.TITO,F.TIi1,F.TIi2,F.TOi1,F.TOi2,F.i12,
  (k1.kd P w).apart pa hz (.inl rfl),n1,(k1.kd P w).apart pa e1 (.inr q1),(k1.kd P w).apart pa e2 (.inr q2),
  (k2.kd P w).apart pb hz (.inl rfl),n2,(k2.kd P w).apart pb e1 (.inr q1),(k2.kd P w).apart pb e2 (.inr q2)⟩
theorem xy {P:Kh}{w:World}{k:Nat}(a b z TI TO i1 i2:Addr)(F:xr z TI TO i1 i2):Turn P w K (.Tuple es k tp) (Gg k1 k2 K a b) [z,TI,TO,i1,i2] z (FA k1 k2 z TI TO i1 i2 a b) where
 mem:=by simp
 obj:=λi h st c hc=>by
  obtain⟨hz,O2,⟨u,v,O8⟩,⟨o1,e1,c1,d1⟩,⟨o2,e2,c2,d2⟩,_⟩:=st;simp only[Ih,Il,or_false] at hc;rcases hc with rfl | rfl | rfl | rfl | rfl
  ·exact⟨_,hz,λv q=>by cases q⟩
  ·exact⟨_,O2,λv q=>by cases q⟩
  ·exact⟨_,O8,λv q=>by cases q⟩
  ·exact⟨o1,e1,λv q=>by rw[d1] at q;cases q⟩
  ·exact⟨o2,e2,λv q=>by rw[d2] at q;cases q⟩
 keep:=λi h h' st kk=>by
  obtain⟨hz,O2,⟨u,v,O8⟩,h1,h2,n⟩:=st;exact⟨kk z (by simp) _ hz,kk TI (by simp) _ O2,⟨u,v,kk TO (by simp) _ O8⟩,h1.imp λo q=>⟨kk i1 (by simp) o q.1,q.2⟩,h2.imp λo q=>⟨kk i2 (by simp) o q.1,q.2⟩,n⟩
 item:=by
  intro X hP hw hK hc i NI s σ H E I hf st hg;subst hP hw hK;obtain⟨xs,ys,x,y,hq,Pe,hx,hy⟩:=hg;obtain⟨NJ,r,pl⟩:=k1.get I hq;obtain⟨its',r',Py⟩:=k2.get I Pe;obtain⟨u,hu,rx⟩:=r.get hx;obtain⟨u',hu',ry⟩:=r'.get hy;have D:=F5 (P:=X.prog) (w:=X.w) F st pl Py;have hh:=I.ok.hd hc;obtain⟨QP,O2,⟨c,d,O8⟩,h1,h2,n⟩:=st;have hn:H s.heap.objs.size=none:=I.NN.fresh (JI _);refine ZT.zH D ((k1.kd _ _).dr (A:=X.A.in1) hh (JX D.l1i1)) ((k2.kd _ _).dr (A:=X.A.in1) hh (JX D.l2i2)) QP O2 O8 ⟨h1,pl⟩ ⟨h2,Py⟩ (x:=u) (y:=u') (by simpa using hu) (by simpa using hu') λh' a1 a2 a3 a4 a5 hk=>?_;refine⟨_,rfl,?_⟩;refine wpAny_letOwnedTupleGo_zip (s:={s with heap:=h'}) a1 λh3 hz3 Ra=>?_;have lt:∀{c o},s.heap.get? c=some o->c≠s.heap.objs.size:=λe=>JL (Mo e);have hk2:∀b o,b∉[z,TI,TO,i1,i2]->s.heap.get? b=some o->h3.get? b=some o:=λb o hb q=>by
   simp only[Ih,Il,or_false,not_or] at hb;exact Ra.extBut b o hb.1 (hk b o hb.1 hb.2.2.1 hb.2.2.2.1 hb.2.2.2.2 q)
  have I1:Inv X NI σ H {s with heap:=h3,toks:=s.toks}:=jS I hk2 hf;have Ro:h3.get? s.heap.objs.size=some {cls:=.type "tuple",data:=.seq #[u,u']}:=Ra.extBut _ _ (JX (lt QP)) a5;have I2:Inv X NI σ (upd H s.heap.objs.size (.tup [x,y])) {s with heap:=h3,toks:=s.toks}:=
   adopt I1 (I.gi (JI _) hn) (I.sz) ⟨by show 2<=Ke;decide,[u,u'],.cons rx (.cons ry .nil),⟨_,Ro,rfl,_,rfl⟩⟩
  refine⟨.ref s.heap.objs.size,_,I2,rfl,⟨s.heap.objs.size,x,y,hn,rfl,rfl,λzs hzs=>?_,λzs hzs=>?_⟩,⟨hz3,?_,⟨_,_,Ra.extBut _ _ F.TOz a2⟩,a3.1.imp λo q=>⟨Ra.extBut _ _ F.i1z q.1,q.2⟩,a4.1.imp λo q=>⟨Ra.extBut _ _ F.i2z q.1,q.2⟩,n⟩,λb hb=>?_⟩
  ·rw[k1.inj I hzs hq];exact hx
  ·rw[k2.inj I hzs Pe];exact hy
  ·exact Ra.extBut _ _ F.TIz (hk _ _ F.TIz F.TITO F.TIi1 F.TIi2 O2)
  ·have Oo:b≠s.heap.objs.size:=by
    simp only[Ih,Il,or_false] at hb;rcases hb with rfl | rfl | rfl | rfl | rfl
    ·exact lt QP
    ·exact lt O2
    ·exact lt O8
    ·obtain⟨_,e,_⟩:=h1;exact lt e
    ·obtain⟨_,e,_⟩:=h2;exact lt e
   rw[aB Oo];exact(hf b hb).1
 done:=by
  intro X hP hw hK hc i NI s σ H E I hf st hg;subst hP hw hK;obtain⟨xs,ys,hq,Pe,hx⟩:=hg;obtain⟨NJ,r,pl⟩:=k1.get I hq;obtain⟨its',r',Py⟩:=k2.get I Pe;have D:=F5 (P:=X.prog) (w:=X.w) F st pl Py;have hh:=I.ok.hd hc;obtain⟨QP,O2,⟨c,d,O8⟩,h1,h2,n⟩:=st;have l1:=r.length;have l2:=r'.length;refine ZT.Bw D ((k1.kd _ _).dr (A:=X.A.in1) hh (JX D.l1i1)) ((k2.kd _ _).dr (A:=X.A.in1) hh (JX D.l2i2)) QP O2 O8 ⟨h1,pl⟩ ⟨h2,Py⟩ (hx.imp (λq=>by simp;omega) λq=>by simp;omega) λh' hk=>⟨rfl,?_⟩;refine jS (t':=s.toks) I (λb o hb q=>?_) hf;simp only[Ih,Il,or_false,not_or] at hb;exact hk b o hb.1 hb.2.2.1 hb.2.2.2.1 hb.2.2.2.2 q
 self:=λ_ _ _ _ _ st h=>wpAny_pyIter_zip st.1 h
theorem Bf {xs:List α}{ys:List β}{q:α×β}(h:(xs.zip ys)[i]?=some q):xs[i]?=some q.1/\ys[i]?=some q.2:=by
 rw[List.getElem?_zip_eq_some] at h;exact h
structure tT (k:Ky)(K:MO)(R:Hp)(v:V)(r:Rep α)(xs:List α):Prop where
 ex:∃a vs,v= .ref a/\(∀R' H,ay R R'->ay R' H->k.Sq K H a vs)/\vs.length=xs.length/\∀(i:Nat)(x:α),xs[i]?=some x->∃u,vs[i]?=some u/\r.R K R u x
theorem Fg {r:Rep α}{xs:List α}(h:(ag r).R K R v xs):tT F3 K R v r xs:=by
 obtain⟨a,vs,rfl,hp,pp,_⟩:=h;exact⟨a,vs,rfl,λR' H s s'=>bp.of (s' _ _ (s _ _ hp)),pp.length,λi x hx=>dz pp hx⟩
theorem EG {xs:Ht}(h:qw.R K R v xs):tT FP K R v ae xs:=by
 obtain⟨a,rfl,hq⟩:=h;exact⟨a,_,rfl,λR' H s s'=>hq.imp (λh=>h.imp (λq=>s' _ _ (s _ _ q)) λ⟨o,q⟩=>⟨o,s' _ _ (s _ _ q)⟩) id,by rw[HU],λi x hx=>⟨_,by rw[Ii,hx];rfl,rfl⟩⟩
def Hm (k1 k2:Ky)(K:MO)(ta:TA):TI:=λσ H R=>ta σ H λvs H1=>∃a b xs ys,vs=[.ref a,.ref b]/\k1.Sq K H1 a xs/\k2.Sq K H1 b ys/\R (Gg k1 k2 K a b) H1
theorem De {a b:Expr}{ta:TA}{p:Pos}{k:Nat}(hg:Gl X "zip")(hm:X.mg "zip"=none)(ha:PA X [a,b] ta)(hs:Kf [a,b] X.env=[(false,eval a X.env),(false,eval b X.env)])(OJ:Kf [b] X.env=[(false,eval b X.env)]):PI X (.Tuple es k tp) (.Call (.Name "zip" p) [a,b] [] pos) (Hm k1 k2 X.K ta):=by
 intro NI s σ H R I h;refine Call_ (gc I hg hm boot_zip (J6 (aJ (ha pos NI s σ H _ I h) λus s1 ⟨vs,H1,I1,r1,q1⟩=>?_) (by rw[hs,OJ]) (by rw[OJ];rfl)));obtain⟨l,l',xs,ys,e,hq,Pe,q⟩:=q1;subst e;cases r1 with
 | cons r rr=>
   cases rr with
   | cons r' rr=>
     cases rr
     cases r
     cases r'
     obtain⟨NJ,_,pl⟩:=k1.get I1 hq;obtain⟨its',_,Py⟩:=k2.get I1 Pe;have ll:l<s1.heap.objs.size:=by obtain⟨o,e,_⟩:=(k1.kd X.prog X.w).cl pl;exact Mo e
     have ll':l'<s1.heap.objs.size:=by obtain⟨o,e,_⟩:=(k2.kd X.prog X.w).cl Py;exact Mo e
     refine ZT.vG k1.kd k2.kd pl Py λh' a1 a2 a3 a4 a5 hk=>?_;refine wpAny_pyIter_zip a1 ?_;have I2:Inv X NI σ H1 {s1 with heap:=h'}:=I1.kept (t':=s1.toks) hk;have ff:∀b,s1.heap.objs.size<=b->ib X NI H1 b:=λb hb=>I1.gi hb (I1.NN.fresh hb);refine⟨s1.heap.objs.size+4,[s1.heap.objs.size+4,s1.heap.objs.size+2,s1.heap.objs.size+3,s1.heap.objs.size,s1.heap.objs.size+1],_,_,H1,rfl,I2,xy (k1:=k1) (k2:=k2) l l' _ _ _ _ _ (Gv _),⟨a1,a2,⟨_,_,a3⟩,a4,a5,JL (JK ll (JS _ 3)),JL (JK ll' (JS _ 3))⟩,λb hb=>?_,q⟩;simp only[Ih,Il,or_false] at hb;rcases hb with rfl | rfl | rfl | rfl | rfl
     ·exact ff _ (JS _ 4)
     ·exact ff _ (JS _ 2)
     ·exact ff _ (JS _ 3)
     ·exact ff _ (JI _)
     ·exact ff _ (JS _ 1)
theorem Aj {a b:Expr}{p:Pos}{k:Nat}{q1:Rep γ}{q2:Rep δ}{x1:γ}{x2:δ}{r:Rep α}{r':Rep β}{xs:List α}{ys:List β}(hm:X.mg "zip"=none)(ha:EV X a Γ q1 x1 Γ1)(hb:EV X b Γ1 q2 x2 Γ2)(f1:∀{R:Hp}{v:V},q1.R X.K R v x1->tT k1 X.K R v r xs)(f2:∀{R:Hp}{v:V},q2.R X.K R v x2->tT k2 X.K R v r' ys)(hz:∀{R:Hp}{v v':V},q1.R X.K R v x1->q2.R X.K R v' x2->xs.length<=Ke∨ys.length<=Ke)(hs:Kf [a,b] X.env=[(false,eval a X.env),(false,eval b X.env)]:=by rfl)(OJ:Kf [b] X.env=[(false,eval b X.env)]:=by rfl)(hg:Gl X "zip":=by rfl):
 IV X (.Tuple es k tp) (.Call (.Name "zip" p) [a,b] [] pos) Γ (de r r') (xs.zip ys) Γ2:=by
 refine⟨_,De (k1:=k1) (k2:=k2) hg hm (aZ aQ (aZ aQ bG OJ) (by rw[hs,OJ])) hs OJ,λσ H0 R0 H R E Rq q=>ha σ H0 R0 H R E _ λv H1 R1 E1 s1 e1=>hb σ H0 R0 H1 R1 E1 _ λv' H2 R2 E2 s2 e2=>?_⟩;have e1:=q1.mono (K:=X.K) s2 e1;have z:(xs.zip ys).length<=Ke:=by
  rw[length_zip];exact(hz e1 e2).elim (JJ (Nat.min_le_left _ _)) (JJ (JW _ _))
 obtain⟨a,vs,rfl,sa,la,pa⟩:=f1 e1;obtain⟨b,Oz,rfl,sb,lb,pb⟩:=f2 e2;refine⟨a,b,vs,Oz,rfl,sa _ _ (ay.refl _) E2.sub,sb _ _ (ay.refl _) E2.sub,q _ H2 R2 E2 (s1.trans s2) z λH' R' sR sH i=>⟨λy hy=>?_,λhi=>?_⟩⟩
 ·have hq:=sa _ _ sR sH;have Pe:=sb _ _ sR sH;obtain⟨e1,e2⟩:=Bf hy;obtain⟨v,hv,hr⟩:=pa _ _ e1;obtain⟨v',PH,OK⟩:=pb _ _ e2;refine⟨⟨vs,Oz,v,v',hq,Pe,hv,PH⟩,λv2 H3 RL=>?_⟩;obtain⟨p,x,x',RR,rfl,rfl,hy,hy'⟩:=RL;have t1:=hy _ hq;have t2:=hy' _ Pe;rw[hv] at t1;rw[PH] at t2;cases t1
  cases t2
  have s3:ay R' (upd R' p (.tup [v,v'])):=ay.fresh (sH.free RR) _;exact⟨upd R' p (.tup [v,v']),Ext.fresh sH RR _,p,_,_,rfl,aD,r.mono s3 (r.mono sR hr),r'.mono s3 (r'.mono sR OK)⟩
 ·refine⟨vs,Oz,sa _ _ sR sH,sb _ _ sR sH,?_⟩;rw[length_zip] at hi;omega
theorem Aa {a b:Expr}{p:Pos}{k:Nat}{ys:Ht}{r:Rep α}{xs:List α}(hm:X.mg "zip"=none)(ha:EV X a Γ qw ys Γ1)(hb:EV X b Γ1 (ag r) xs Γ2)(hs:Kf [a,b] X.env=[(false,eval a X.env),(false,eval b X.env)]:=by rfl)(OJ:Kf [b] X.env=[(false,eval b X.env)]:=by rfl)(hg:Gl X "zip":=by rfl):
 IV X (.Tuple es k tp) (.Call (.Name "zip" p) [a,b] [] pos) Γ (de ae r) (ys.zip xs) Γ2:=Aj (k1:=FP) (k2:=F3) hm ha hb EG Fg (λ_ ⟨_,_,_,_,_,z⟩=>.inr z) hs OJ hg
end
end Fc
namespace HT
open PySem PySem.Spec PyProof.Rows
section
variable {prog:Kh}{w:World}{A:Kj}{E:Value->Kc->Prop}{s:Kc}
theorem kb {t sl:Addr}{items:Array Value}{vl vu:Value}{lo hi:Option Int}{Q:Value->Kc->Prop}(ht:IsTup s.heap t items)(hs:s.heap.IsSliceOf sl vl vu .none)(pl:Li vl lo)(pu:Li vu hi)(hw:NQ items.size 0 lo=0/\NQ items.size items.size hi=items.size)(h:Q (.ref t) s):wpAny (model prog w) A (La (.ref t) (.ref sl)) Q E s:=by
 obtain⟨os,QS,hcs,Sl⟩:=id hs;have hTs:s.TypeIs (.ref sl) "slice":=⟨os,QS,hcs⟩;unfold La
 try with_reducible refine Ku ?_
 first | refine Kb (Kg ?_) | skip
 refine Kb (wpAny_sequenceKey ht.typeIs (by decide) ?_);refine Kb (Kw (name:=ME "__getitem__") ht.typeIs J5
  (KR J5 ht.typeIs entry_tuple_getitem ?_ (args_tuple_getitem _ _)))
 show wpAny _ _ (Ln.Tuple.tupleItemsOf (.ref t) >>=_) _ _ s;refine Kb (tupleItemsOf_ ht ?_);refine Kb (Lx hTs ?_);rw[ND (by decide)];refine Kb (gM hs pl pu ?_);have hyes:(((NQ items.size 0 lo:Nat):Int)==0&&(1:Int)==1&&(NQ items.size items.size hi-NQ items.size 0 lo)==items.size)=true:=by
  rw[hw.1,hw.2];simp
 show wpAny _ _ (if(((NQ items.size 0 lo:Nat):Int)==0&&(1:Int)==1&&(NQ items.size items.size hi-NQ items.size 0 lo)==items.size)=true then _ else _) _ _ s;rw[ND hyes];refine Kb ?_;unfold Ln.Tuple.tupleIsExact;refine Kb (Lx ht.typeIs (Kg ?_));rw[ND (by decide)];exact Kb (Lj (Kg ⟨_,rfl,Kg h⟩))
end
end HT
namespace Fc
open PySem PySem.Spec PySem.W PySem.Calls L2
open PyProof.Rows hiding St
variable {X:Cx}{Γ Γ1 Γ2 Γ3:Ga}{N:Ga->Prop}{T:RT}{a:Expr}{pos p2:Pos}{xs:List PV}{b:Expr}{x y:Str}{H:Hp}{s:Kc}{R:Hp}
section
variable {α β γ δ:Type}
def GA (K:MO):V->Option Int->Option Int->Hp->VK->Prop:=λx lo hi H Q=>∃a xs,x= .ref a/\du K H a xs/\
 (HT.NQ xs.length 0 lo=0/\HT.NQ xs.length xs.length hi=xs.length)/\Q x H
theorem AQ:xS X (GA X.K):=by
 intro NI s σ H x v vl vu lo hi sl Q I rx hs pl pu h;obtain⟨a,xs,rfl,hx,hw,q⟩:=h;cases rx
 obtain⟨NJ,r,ht,hz⟩:=I.tuple hx;have hlen:NJ.toArray.size=xs.length:=by rw[Ig];exact r.length.symm
 refine⟨"tuple",_,J5.lookup,ht.typeIs,?_⟩;exact HT.kb ht hs pl pu (by rw[hlen];exact hw) ⟨.ref a,H,I,rfl,q⟩
theorem B9 {lo hi:Option Expr}{l h:Option Int}(ha:EV X a Γ bu (.tup xs) Γ)(hl:OV X lo Γ l)(hh:OV X hi Γ h)(hw:HT.NQ xs.length 0 l=0/\HT.NQ xs.length xs.length h=xs.length):EV X (.Subscript a (.Slice lo hi none p2) pos) Γ bu (.tup xs) Γ:=by
 intro σ H0 R0 H R E Q q;obtain⟨tl,pl,kl⟩:=hl;obtain⟨th,ph,kh⟩:=hh;refine eS (kH AQ aQ pl ph) (ha σ H0 R0 H R E _ λv H1 R1 E1 s1 e1=>kl σ H0 R0 H1 R1 E1 _ λH2 R2 E2 s2=>kh σ H0 R0 H2 R2 E2 _ λH3 R3 E3 s3=>?_);cases bu.mono (K:=X.K) (s2.trans s3) e1 with
 | @tup a' Oz _ hp pp=>
   exact⟨_,_,rfl,du.of (E3.sub _ _ hp),by rw[pp.pair.length];exact hw,q _ _ _ E3 (s1.trans (s2.trans s3)) (.tup hp pp)⟩
theorem B7 {lo hi:Option Expr}{l h:Option Int}(ha:EV X a Γ bu (.tup xs) Γ)(hl:OV X lo Γ l)(hh:OV X hi Γ h):EV X (.Subscript a (.Slice lo hi none p2) pos) Γ bu (.tup (cut xs l h)) Γ:=by
 by_cases hw:HT.NQ xs.length 0 l=0/\HT.NQ xs.length xs.length h=xs.length
 ·have e:cut xs l h=xs:=by
   unfold cut;rw[hw.1,hw.2];simp
  rw[e];exact B9 ha hl hh hw
 ·exact Cr ha hl hh hw
theorem sv (ha:EV X a Γ ae x Γ1)(hb:EV X b Γ1 ae y Γ2)(hz:x.length+y.length<=Ke):EV X (.BinOp a .Add b pos) Γ ae (x++y) Γ2:=gE sZ ha hb λR v u H Q e1 e2 q=>⟨x,y,e1,e2,hz,q _ rfl⟩
theorem mO {p:Pos}(hm:X.mg "len"=none)(ha:EV X a Γ ae x Γ1)(hz:x.length<=Ke)(hs:Kf [a] X.env=[(false,eval a X.env)]:=by rfl)(hg:Gl X "len":=by rfl):EV X (.Call (.Name "len" p) [a] [] pos) Γ ai (x.length:Int) Γ1:=by
 intro σ H0 R0 H R E Q q;refine eS (c5 qm hg hm KW (aZ aQ bG hs) (by decide) (by decide) hs) (ha σ H0 R0 H R E _ λv H1 R1 E1 s1 e1=>?_);cases e1
 exact⟨x,rfl,hz,q _ H1 R1 E1 s1 rfl⟩
theorem Ah {p:Addr}{a b:HO}:upd (upd H p a) p b=upd H p b:=by
 funext c;by_cases h:c=p
 ·subst h;rw[aD,aD]
 ·rw[aB h,aB h,aB h]
theorem En {NI:Hr}{σ:St}(I:Inv X NI σ H s)(sub:ay R H)(hu:X.A.units<cLine){r:Rep α}{r':Rep β}{xs:List α}{v u:V}{vv uu:Value}(rv:RelV v vv)(ru:RelV u uu)(h1:(ag r).R X.K R v xs)(h2:(ag r').R X.K R u []):
 SeqAt.RcAt X.A s vv uu xs.isEmpty/\SeqAt.RcNeAt X.A s vv uu (!xs.isEmpty):=by
 obtain⟨a1,v1,rfl,e1,p1,_⟩:=h1;obtain⟨a2,v2,rfl,e2,p2,_⟩:=h2;cases rv;cases ru
 obtain⟨us,hv,pl,_⟩:=I.list (bp.of (sub _ _ e1));obtain⟨us',hw,Py,_⟩:=I.list (bp.of (sub _ _ e2));have n2:us'.toArray.size=0:=by rw[Ig,← hw.length,p2.length];rfl
 have n1:us.toArray.size=xs.length:=by rw[Ig,← hv.length,p1.length]
 cases xs with
 | nil=>
   have n1:us.toArray.size=0:=n1;have k1:=SeqAt.RcAt.lists (A:=X.A) (e:=λ_=>true) pl.isList Py.isList (by rw[n1,n2]) hu λj h1 h2=>Ny h2 (by omega);have k2:=SeqAt.RcNeAt.lists (A:=X.A) (e:=λ_=>true) pl.isList Py.isList (by rw[n1,n2]) hu λj h1 h2=>Ny h2 (by omega);rw[all_true] at k1 k2;exact⟨k1,k2⟩
 | cons a b=>
   have ne:(us.toArray.size != us'.toArray.size)=true:=by rw[n1,n2];rfl
   exact⟨SeqAt.RcAt.lists_lengths pl.isList Py.isList ne hu,SeqAt.RcNeAt.lists_lengths pl.isList Py.isList ne hu⟩
theorem A3 (hu:X.A.units<cLine){r:Rep α}{r':Rep β}{xs:List α}:df X .Eq (ag r) (ag r') xs [] xs.isEmpty:=
 ⟨λv u H Q=>∃R,ay R H/\(ag r).R X.K R v xs/\(ag r').R X.K R u []/\Q (.bl xs.isEmpty) H,λNI s σ H a b v u Q I rx ry ⟨R,sub,h1,h2,q⟩=>(En I sub hu rx ry h1 h2).1 _ _ _ _ ⟨.bl _,H,I,rfl,q⟩,λR H v u Q s h1 h2 q=>⟨R,s,h1,h2,q⟩⟩
end
variable {st:Stmt}
def yp (i j:Int):Prop:=0<j/\j<=1000000000000000000
theorem xq:cP X (KO .FloorDiv) (rI yp λi j=>.int (i/j)):=sf λi j _ _ _ _ _ hc q=>by
 have h1:(0:Int)<j:=hc.1;have h2:j<=1000000000000000000:=hc.2;exact floordiv_int (by omega) (by rw[Int.fdiv_eq_ediv_of_nonneg i (by omega)];exact q) (.inl (PyProof.noPylong_of_log2 (JK ((Nat.log2_lt (by omega)).mpr (show j.natAbs<2 ^ 60 by omega)) (by decide))))
theorem bL {N1:Ga->Prop}{rest:List Stmt}(h1:W1 X st Γ N1 T)(h2:∀Γ',N1 Γ'->WS X rest Γ' N T):WS X (st::rest) Γ N T:=aj λσ H0 R0 H R E D dn dr=>h1 σ H0 R0 H R E D (λσ' H' R' Γ' E' s' n=>dn σ' H' R' Γ' E' s' (h2 Γ' n)) dr
theorem gL {x y:Int}(ha:EV X a Γ ai x Γ1)(hb:EV X b Γ1 ai y Γ2)(h:yp x y):EV X (.BinOp a .FloorDiv b pos) Γ ai (x/y) Γ2:=gE xq ha hb λR v u H Q e1 e2 q=>⟨x,y,e1,e2,h,q _ rfl⟩
theorem yz {x y:Int}(h0:0<=x)(h1:x<2 ^ 63):LO x y:=.of_left (Lo (by omega) (by omega))
def fL (x:Str)(i:Nat):Str:=⟨#[x.cps.getD i 0]⟩
theorem vz {i:Int}(ha:EV X a Γ ae x Γ1)(hb:EV X b Γ1 ai i Γ2)(h0:0<=i)(h1:i<(x.length:Int))(hz:x.length<=Ke)(hs:fE b:=by exact λ_ _=>rfl):EV X (.Subscript a b pos) Γ ae (fL x i.toNat) Γ2:=by
 intro σ H0 R0 H R E Q q;refine eS (j4 Co aQ aQ hs) (ha σ H0 R0 H R E _ λv H1 R1 E1 s1 e1=>hb σ H0 R0 H1 R1 E1 _ λu H2 R2 E2 s2 e2=>?_);cases e1
 cases e2
 refine⟨x,i,x.cps.getD i.toNat 0,rfl,rfl,hz,?_,q _ H2 R2 E2 (s1.trans s2) rfl⟩;have hl:x.cps.toList.length=x.length:=by simp[Str.length]
 rw[lR h0 (by omega),Ib (by omega)];have:i.toNat<x.cps.size:=by have:x.length=x.cps.size:=rfl;omega
 simp[Array.getD,this]
section
variable {α β:Type}
theorem jZ {K:MO}{R:Hp}:∀{vs:List V}{xs:Ht},PySem.Paired (ae.R K R) vs xs->vs=xs.map V.str
 | _,_,.nil=>rfl
 | _,_,.cons h t=>by rw[Iu,← jZ t];exact congrArg (· ::_) h
theorem my {xs:Ht}:df X .In ae (ag ae) x xs (decide (x∈xs)):=⟨_,jN,λR H v u Q s e1 e2 q=>by
 cases e1
 obtain⟨a,vs,rfl,hq,p,_⟩:=e2;have e:=jZ p;subst e;exact⟨a,_,rfl,.inl (bp.of (s _ _ hq)),rfl,h8 xs,by rw[Nz HE,i7];exact q⟩⟩
end
variable {w:World}{e:Expr}{ws:Ht}
section
variable {α β γ δ:Type}
theorem pQ:∀{ws:Ht}{NJ:Hw},Vals (ws.map V.str) NJ->∃l:List (Str×Tok),NJ=LA l/\l.map (·.1)=ws
 | [],_,.nil=>⟨[],rfl,rfl⟩
 | w::ws,_,.cons h t=>by
   obtain⟨k,rfl⟩:=h;obtain⟨l,rfl,e⟩:=pQ t;exact⟨(w,k)::l,rfl,by rw[Iu,e]⟩
theorem qk:∀(l:List (Str×Tok)),Vals ((l.map (·.1)).map V.str) (LA l)
 | []=>.nil
 | (w,k)::l=>.cons ⟨k,rfl⟩ (qk l)
theorem zE:qz X "str.join" (λx xs H Q=>∃(z:Str)(a:Addr)(ws:Ht),x= .str z/\xs=[.ref a]/\H a=some (.lst (ws.map V.str))/\JoinOk z ws=true/\Q (.str (Txt.join z ws)) H):=by
 intro NI s σ H x xs v us Q I rx r h;obtain⟨z,a,ws,rfl,rfl,hH,NN,q⟩:=h;obtain⟨t,rfl⟩:=rx;obtain⟨u,rfl,ru⟩:=r.one;cases ru
 obtain⟨hz,NJ,n,r1,hl,e⟩:=I.ie hH;obtain⟨l,rfl,el⟩:=pQ r1;exact PySem.SC.join ⟨_,e,rfl,_,rfl⟩ el NN λt' k=>⟨.str _,H,I.tok _,⟨_,rfl⟩,q⟩
theorem vp {t u:Tok}{prog:Kh}{A:Kj}{E:Value->Kc->Prop}{Q:Value->Kc->Prop}(hy:(y.length==0)=false)(hsz:x.length<=Ke)(hsz2:(Txt.split x y).length<=Ke)(hq:∀(l:List (Str×Tok))(k:Nat)(n:Nat),l.map (·.1)=Txt.split x y->Q (.ref s.heap.objs.size) {s with toks:=k,heap:=s.heap.push {cls:=.type "list",data:=.seq (LA l).toArray n}}):
 wpAny (model prog w) A (call (.builtin "str.split") [.str x t,.str y u]) Q E s:=by
 cases h1:(decide (x.length<y.length) ||decide (Ln.Str.strKind x<Ln.Str.strKind y))
 ·cases hf:(Ln.Str.occurrences x y 0 x.length (x.length+1)).isEmpty
  ·have es:Txt.split x y=Ln.Str.partsBetween x (Ln.Str.occurrences x y 0 x.length (x.length+1)) y.length:=(Nz (ne_true_of_eq_false h1)).trans (Nz (ne_true_of_eq_false hf));refine KP Mm (Lq _ _ _) Ml (Mj _ _) (meets_str_split_sep x y t u h1 hy hf hsz (by rw[← es];exact hsz2)) ?_;show wants Q E _ {s with toks:=_,heap:=s.heap.push {cls:=.type "list",data:=.seq (strsFrom s.toks (Ln.Str.partsBetween x (Ln.Str.occurrences x y 0 x.length (x.length+1)) y.length)).toArray}};rw[strsFrom_eq];exact hq (numbered s.toks _) _ _ ((numbered_texts _ _).trans es.symm)
  ·exact KP Mm (Lq _ _ _) Ml (Mj _ _) (meets_str_split_not_found x y t u h1 hy hf)
    (hq [(x,t)] s.toks _ ((Nz (ne_true_of_eq_false h1)).trans (ND hf)).symm)
 ·exact KP Mm (Lq _ _ _) Ml (Mj _ _) (meets_str_split_cannot_occur x y t u h1)
   (hq [(x,t)] s.toks _ (ND h1).symm)
theorem wC:qz X "str.split" (λx xs H Q=>∃z y:Str,x= .str z/\xs=[.str y]/\(y.length==0)=false/\z.length<=Ke/\(Txt.split z y).length<=Ke/\∀a,H a=none->Q (.ref a) (upd H a (.lst ((Txt.split z y).map V.str)))):=by
 intro NI s σ H x xs v us Q I rx r h;obtain⟨z,y,rfl,rfl,hy,hz,RK,q⟩:=h;obtain⟨t,rfl⟩:=rx;obtain⟨u,rfl,ru⟩:=r.one;obtain⟨tu,rfl⟩:=ru;refine vp hy hz RK λl k n el=>?_;have I1:Inv X NI σ H {s with toks:=k,heap:=s.heap.push {cls:=.type "list",data:=.seq (LA l).toArray n}}:=I.kept (t':=k) λb o e=>Mn _ e;have hn:H s.heap.objs.size=none:=I.fresh;refine⟨.ref s.heap.objs.size,_,adopt (o:=.lst ((Txt.split z y).map V.str)) I1 (I.gi (JI _) hn) I.sz ⟨?_,LA l,n,?_,Mp _ rfl⟩,rfl,q _ hn⟩
 ·rw[HU];exact RK
 ·rw[← el];exact qk l
theorem eO {ap cp:Pos}(ha:EV X a Γ ae x Γ1)(he:EV X e Γ1 (ag ae) ws Γ2)(NN:JoinOk x ws=true)(NT:Kk a "join" X.env (eval a X.env)=eval a X.env:=by rfl)(Oe:((Ko cp (Kf [e] X.env)).all (λx=> !x.1)&&(K7 cp (KQ [] X.env)).all (λx=>x.1.isSome)
  &&decide ([e].length+([]:List Kx).length+(if([]:List Kx).isEmpty then 0 else 1)<30))=true:=by rfl)(NY:(ap.endLine==cp.line)=true:=by rfl)(hs:Kf [e] X.env=(false,eval e X.env)::Kf [] X.env:=by rfl):EV X (.Call (.Attribute a "join" ap) [e] [] cp) Γ ae (Txt.join x ws) Γ2:=by
 intro σ H0 R0 H R E Q q;refine eS (i6 PySem.F.plainAttrs_str PySem.F.slot_str_join PySem.F.type_str_join zE aQ (aZ aQ bG hs) NT Oe NY hs rfl) (ha σ H0 R0 H R E _ λv H1 R1 E1 s1 e1=>?_);cases e1
 refine⟨rfl,he σ H0 R0 H1 R1 E1 _ λu H2 R2 E2 s2 e2=>?_⟩;obtain⟨b,vs,rfl,hb,pp,hz⟩:=e2;have ev:=jZ pp;subst ev;exact⟨x,b,ws,rfl,rfl,E2.sub _ _ hb,NN,q _ H2 R2 E2 (s1.trans s2) rfl⟩
theorem kC {K:MO}{R:Hp}:∀ws:Ht,PySem.Paired (ae.R K R) (ws.map V.str) ws
 | []=>.nil
 | _::r=>.cons rfl (kC r)
theorem nY {ap cp:Pos}(ha:EV X a Γ ae x Γ1)(he:EV X e Γ1 ae y Γ2)(hy:(y.length==0)=false)(hz:x.length<=Ke)(RK:(Txt.split x y).length<=Ke)(NT:Kk a "split" X.env (eval a X.env)=eval a X.env:=by rfl)(Oe:((Ko cp (Kf [e] X.env)).all (λx=> !x.1)&&(K7 cp (KQ [] X.env)).all (λx=>x.1.isSome)
  &&decide ([e].length+([]:List Kx).length+(if([]:List Kx).isEmpty then 0 else 1)<30))=true:=by rfl)(NY:(ap.endLine==cp.line)=true:=by rfl)(hs:Kf [e] X.env=(false,eval e X.env)::Kf [] X.env:=by rfl):aO X (.Call (.Attribute a "split" ap) [e] [] cp) Γ ae (Txt.split x y) Γ2:=by
 intro σ H0 R0 H R E Q q;refine eS (i6 PySem.F.plainAttrs_str PySem.F.slot_str_split PySem.F.type_str_split wC aQ (aZ aQ bG hs) NT Oe NY hs rfl) (ha σ H0 R0 H R E _ λv H1 R1 E1 s1 e1=>?_);cases e1
 refine⟨rfl,he σ H0 R0 H1 R1 E1 _ λu H2 R2 E2 s2 e2=>?_⟩;cases e2
 exact⟨x,y,rfl,rfl,hy,hz,RK,λd hd=>q d _ _ R2 (E2.grow (Ext.dq E2.sub hd _)) (s1.trans s2) aD (E2.sub.free hd) (E2.ext.h.free hd) (E2.off hd) (kC _) RK⟩
end
variable {K:MO}{c:Nat}{P:Kh}
section
variable {tg:Expr}
theorem pL {c:Nat}:∀{a b x y:List Nat},c∉a->c∉b->a++c::x=b++c::y->a=b/\x=y
 | [],[],_,_,_,_,h=>⟨rfl,(List.cons.inj h).2⟩
 | [],d::b,_,_,_,hb,h=>Ny (List.cons.inj h).1 (λe=>hb (e▸Ic))
 | d::a,[],_,_,ha,_,h=>Ny (List.cons.inj h).1 (λe=>ha (e▸Ic))
 | d::a,e::b,x,y,ha,hb,h=>by
   obtain⟨h1,h2⟩:=List.cons.inj h;obtain⟨q1,q2⟩:=pL (λz=>ha (Ia _ z)) (λz=>hb (Ia _ z)) h2;exact⟨by rw[h1,q1],q2⟩
theorem qP {a b y:List Nat}(ha:c∉a)(h:a=b++c::y):False:=ha (by rw[h];exact Ie _ Ic)
theorem rG (x y:Str):(x++y).cps.toList=x.cps.toList++y.cps.toList:=by show(x.cps++y.cps).toList=_;simp
theorem ja (c:Nat)(x y:Str)(r:Ht):(Str.join ⟨#[c]⟩ (x::y::r)).cps.toList=x.cps.toList++c::(Str.join ⟨#[c]⟩ (y::r)).cps.toList:=by
 rw[Str.join,rG,rG];simp;intro h;cases h
theorem rA (h:x.cps.toList=y.cps.toList):x=y:=by
 cases x;cases y
 congr 1;exact Array.toList_inj.mp h
theorem qR {c:Nat}:∀{ws us:Ht},ws≠[]->us≠[]->(∀w∈ws,c∉w.cps.toList)->(∀u∈us,c∉u.cps.toList)->(Str.join ⟨#[c]⟩ ws).cps.toList=(Str.join ⟨#[c]⟩ us).cps.toList->ws=us
 | [],_,h,_,_,_,_=>Ny rfl h
 | _,[],_,h,_,_,_=>Ny rfl h
 | [x],[y],_,_,_,_,h=>by rw[show x=y from rA h]
 | [x],y::z::r,_,_,hx,_,h=>by
   rw[ja] at h;exact Ny h λh=>qP (hx x Ic) h
 | x::z::r,[y],_,_,_,hy,h=>by
   rw[ja] at h;exact Ny h.symm λh=>qP (hy y Ic) h
 | x::x2::r,y::y2::q,_,_,hx,hy,h=>by
   rw[ja,ja] at h;obtain⟨h1,h2⟩:=pL (hx x Ic) (hy y Ic) h;rw[rA h1,qR (cons_ne_nil _ _) (cons_ne_nil _ _) (λw hw=>hx w (Ia _ hw)) (λw hw=>hy w (Ia _ hw)) h2]
theorem tX (h:ws≠[])(hf:∀w∈ws,c∉w.cps.toList):Txt.split (Str.join ⟨#[c]⟩ ws) ⟨#[c]⟩=ws:=by
 refine qR (c:=c) (λe=>?_) h (StrLaws.split_free _ c) hf (by rw[StrLaws.join_split]);have:=split_pos (Str.join ⟨#[c]⟩ ws) ⟨#[c]⟩;rw[e] at this;exact Ny this (by decide)
theorem xE:(" ":Str)=⟨#[32]⟩:=by decide +kernel
theorem dZ (x:Str)(ws:Ht):Txt.join x ws=Str.join x ws:=StrLaws.glued_eq_join x ws
def FC (x:Str):It:=⟨λi _=>i<x.cps.size,λi H v H'=>H'=H/\v= .str (fL x i),λi _=>x.cps.size<=i⟩
theorem wX (x:Str)(t:Tok)(it:Addr):Turn P w K tg (FC x) [it] it (λi h=>h.IsStrIter it "str_ascii_iterator" x t i) where
 mem:=by simp
 obj:=λi h st b hb=>by
  have e:b=it:=by simpa using hb
  subst e;obtain⟨o,e,c,d⟩:=st;exact⟨o,e,λv z=>by rw[d] at z;cases z⟩
 keep:=λi h h' st k=>by
  obtain⟨o,e,r⟩:=st;exact⟨o,k it (by simp) o e,r⟩
 item:=by
  intro X hP hw hK hc i NI s σ H E I hf st hg;subst hP hw hK;obtain⟨f0,f1,f2,f3,f4,f5⟩:=hf it (by simp);have W:=Walks.strAscii (prog:=X.prog) (w:=X.w) (I.ok.hd hc) it x t;refine W.item i s _ _ hg st λv h' tk hv O3 kk=>?_;obtain⟨c,u,hx,rfl⟩:=hv;have I1:Inv X NI σ H {s with heap:=h',toks:=tk}:=I.turned (λb o hb e=>kk b o (by simpa using hb) e) f0 f1 f3 f4 f5;obtain⟨o,e,cc,d⟩:=id O3;have O7:fL x i=⟨#[c]⟩:=by unfold fL;rw[show x.cps.getD i 0=c by rw[HB,hx];rfl]
  exact⟨_,rfl,j2 (s:={s with heap:=h',toks:=tk}) e cc d (by decide) ⟨.str (fL x i),H,I1,⟨u,by rw[O7]⟩,⟨rfl,rfl⟩,O3,λb hb=>(hf b hb).1⟩⟩
 done:=by
  intro X hP hw hK hc i NI s σ H E I hf st hg;subst hP hw hK;obtain⟨f0,f1,f2,f3,f4,f5⟩:=hf it (by simp);exact wpAny_pyNext_ascii_end (I.ok.hd hc) st (by have:x.cps.size<=i:=hg;simp[this]) λh' eb=>⟨rfl,I.turned (t':=s.toks) (λb o hb e=>eb b o hb e) f0 f1 f3 f4 f5⟩
 self:=λ_ _ _ _ _ st h=>wpAny_pyIter_striter_ascii st h
def GU (tl:TE):TI:=λσ H R=>tl σ H λx H1=>∃z:Str,x= .str z/\z.cps.all (· < 128)=true/\R (FC z) H1
theorem B0 {l:Expr}{tl:TE}(hl:PE X l tl):PI X tg l (GU tl):=by
 intro NI s σ H R I h;refine aJ (hl NI s σ H _ I h) λv s1 ⟨x,H1,I1,r1,q1⟩=>?_;obtain⟨z,e,ha,q⟩:=q1;subst e;obtain⟨t,rfl⟩:=r1;refine wpAny_pyIter_ascii ha ?_;refine⟨s1.heap.objs.size,[s1.heap.objs.size],_,_,H1,rfl,I1.kept (t':=s1.toks) λb o e=>Mn _ e,wX z t _,⟨_,Mp _ rfl,rfl,rfl⟩,λb hb=>?_,q⟩;have e:b=s1.heap.objs.size:=by simpa using hb
 subst e;exact I1.gi (JI _) (I1.NN.fresh (JI _))
def je (x:Str):Ht:=(IL x.cps.size).map (fL x)
theorem vc (ha:EV X a Γ ae x Γ1)(hx:x.cps.all (· < 128)=true)(hz:x.cps.size<=Ke):IV X tg a Γ ae (je x) Γ1:=by
 refine⟨_,B0 aQ,λσ H0 R0 H R E Rq q=>ha σ H0 R0 H R E _ λv H1 R1 E1 s1 e1=>?_⟩;cases e1
 refine⟨x,rfl,hx,q _ H1 R1 E1 s1 (by unfold je;rw[HU,Ja];exact hz) λH' R' sR sH i=>⟨λy hy=>?_,λhi=>?_⟩⟩
 ·unfold je at hy;rw[Ii] at hy;obtain⟨j,hj,rfl⟩:=JZ.mp hy;obtain⟨hl,e⟩:=HW.mp hj;rw[Ja] at hl;rw[List.getElem_range] at e;subst e;refine⟨hl,λv' H2 hy=>?_⟩;obtain⟨rfl,rfl⟩:=hy;exact⟨R',Ext.refl sH,rfl⟩
 ·unfold je at hi;rw[HU,Ja] at hi;exact hi
def Rep.at_ {α:Type}(r:Rep α)(y:α):Rep Unit:=⟨λK R v _=>r.R K R v y,λs h=>r.mono s h⟩
abbrev gO:=List (Str×Rep Unit)
abbrev ef (fs:gO)(K:MO)(R:Hp)(vs:List (Str×V)):Prop:=PySem.Paired (λ(z:Str×V)(f:Str×Rep Unit)=>z.1=f.1/\f.2.R K R z.2 ()) vs fs
theorem ef.mono {fs:gO}{R':Hp}{vs:List (Str×V)}(s:ay R R')(h:ef fs K R vs):ef fs K R' vs:=Paired.map (λ_ f ⟨a,b⟩=>⟨a,f.2.mono s b⟩) h
def kG:gO->Str->Option (Rep Unit)
 | [],_=>none
 | (g,x)::r,f=>if g=f then some x else kG r f
theorem ef.get {f:Str}{r:Rep Unit}:∀{fs:gO}{vs:List (Str×V)},ef fs K R vs->kG fs f=some r->∃v,vs.lookup f=some v/\r.R K R v ()
 | _,_,.nil,h=>by cases h
 | _,_,.cons (a:=z) (b:=p) h t,hg=>by
   obtain⟨g,x⟩:=p;obtain⟨g',v⟩:=z;obtain⟨e,hv⟩:=h;have e:g'=g:=e;subst e;rw[kG] at hg;rw[IP];by_cases q:g'=f
   ·rw[ND q] at hg;cases hg;subst q
    exact⟨v,by simp,hv⟩
   ·rw[Nz q] at hg;rw[show(f==g')=false from beq_eq_false_iff_ne.mpr λz=>q z.symm];exact ef.get t hg
theorem ef.put {f:Str}{r:Rep Unit}{v:V}(hv:r.R K R v ()):∀{fs:gO}{vs:List (Str×V)},ef fs K R vs->kG fs f=none->ef (fs++[(f,r)]) K R (dG f v vs)
 | _,_,.nil,_=>.cons ⟨rfl,hv⟩ .nil
 | _,_,.cons (a:=z) (b:=p) h t,hg=>by
   obtain⟨g,x⟩:=p;obtain⟨g',u⟩:=z;obtain⟨e,hu⟩:=h;have e:g'=g:=e;subst e;rw[kG] at hg;rw[dG];by_cases q:g'=f
   ·rw[ND q] at hg;cases hg
   ·rw[Nz q] at hg ⊢;exact .cons ⟨rfl,hu⟩ (ef.put hv t hg)
def fO (C:Addr):LK gO where
 bx l fs:=⟨l,λK H R v=>∃x dx vs,l=[x,dx]/\v= .ref x/\H x=some (.ins C dx vs)/\H dx=some (.own x)/\ef fs K R vs/\x≠dx,λ{K H R0 H' R' v} e s ⟨x,dx,vs,el,ev,h1,h2,h3,nd⟩=>by
  subst el;exact⟨x,dx,vs,rfl,ev,(e x (by simp)).trans h1,(e dx (by simp)).trans h2,h3.mono s,nd⟩,λ{K H R0 v} ⟨x,dx,vs,el,ev,h1,h2,h3,nd⟩ a ha=>by
  subst el;rcases Ih.mp ha with rfl | ha
  ·rw[h1];exact JY _
  ·rw[HX.mp ha,h2];exact JY _⟩
 fp:=λ_ _=>rfl
 at_:=λ⟨x,dx,vs,el,ev,_⟩=>⟨x,[dx],el,ev⟩
end
variable {C:Addr}{f:Str}{ns:Ht}{fd:Kn}
section
variable {α β γ δ:Type}
theorem ur {x dx:Addr}{fs:gO}{o:Option V}(h:(Ent.ob ((fO C).bx [x,dx] fs)).ok K H R o):o=some (.ref x)/\qH R [x,dx]/\∃vs,H x=some (.ins C dx vs)/\H dx=some (.own x)/\ef fs K R vs/\x≠dx:=by
 obtain⟨e,hB,hR⟩:=wm (B:=fO C) h;obtain⟨x',dx',vs,el,ev,h1,h2,h3,nd⟩:=hB;cases el
 exact⟨e,hR,vs,h1,h2,h3,nd⟩
theorem i5 (i:Nat){m:Str}{p1:Pos}{x dx:Addr}{fs:gO}{r:Rep α}{y:α}(hC:bh X.K C ns)(hf:f∈ns)(hΓ:Γ[i]?=some (.ob ((fO C).bx [x,dx] fs)))(h:kG fs f=some (r.at_ y))(hN:X.N[i]?=some m:=by rfl)(hv:autoParam (dc X.env.scope m) OA)(hd:N3 m:=by decide)(NV:Ov m:=by decide)(hb:Kk (.Name m p1) f X.env (eval (.Name m p1) X.env)=eval (.Name m p1) X.env:=by rfl):EV X (.Attribute (.Name m p1) f pos) Γ r y Γ:=λσ H0 R0 H R E Q q=>by
 obtain⟨ea,hR,vs,h1,h2,h3,nd⟩:=ur (E.ent i _ hΓ);obtain⟨v,hl,PH⟩:=h3.get h;exact eS (qA (bD hN hv hd NV) hb) ⟨.ref x,at_of ea,x,C,dx,vs,v,rfl,h1,hC.cl,hC.no f hf,hl,q v H R E (ay.refl _) PH⟩
theorem fc (i:Nat){m:Str}{p1 ap:Pos}{x dx:Addr}{fs:gO}{r:Rep α}{y:α}(hC:bh X.K C ns)(hf:f∈ns)(he:EV X e Γ r y Γ1)(hΓ1:Γ1[i]?=some (.ob ((fO C).bx [x,dx] fs)))(h:kG fs f=none)(hz:fs.length<1000)(hn:N (Γ1.set i (.ob ((fO C).bx [x,dx] (fs++[(f,r.at_ y)])))))(hN:X.N[i]?=some m:=by rfl)(hv:autoParam (dc X.env.scope m) OA)(hd:N3 m:=by decide)(NV:Ov m:=by decide)(OU:Km e (some (.Attribute (.Name m p1) f ap)) pos.line X.env=pure false:=by rfl):W1 X (.Assign [.Attribute (.Name m p1) f ap] e pos) Γ N T:=λσ H0 R0 H R E D dn dr=>
 sS (v8 (bD hN hv hd NV) aQ OU) (he σ H0 R0 H R E _ λv H1 R1 E1 s1 e1=>by
  obtain⟨ea,hR,vs,h1,h2,h3,nd⟩:=ur (E1.ent i _ hΓ1);refine⟨.ref x,at_of ea,x,C,dx,vs,rfl,h1,hC.cl,hC.no f hf,by rw[h3.length];exact hz,?_⟩;refine dn σ _ R1 _ (E1.wU (en:=.ob ((fO C).bx [x,dx] (fs++[(f,r.at_ y)]))) hΓ1 (a:=x) (by show x∈[x,dx];simp) ?_ λb hb=>.inl hb) s1 hn;rw[ea];exact uS (B:=fO C) ⟨x,dx,_,rfl,rfl,aD,by rw[aB (JX nd)];exact h2,ef.put (r:=r.at_ y) e1 h3 h,nd⟩ hR)
abbrev wb:=MO->Addr->List Pk->(gO->Prop)->Prop
def rW (S:wb)(K:MO):Sp:=λvs H Q _=>∃R x dx C Oz ps Pd,vs= .ref x::Oz/\ay R H/\qH R [x,dx]/\((fO C).bx [x,dx] []).R K H R (.ref x)/\hU K R Oz ps/\S K C ps Pd/\
 ∀H' R' fs,Ext (jy H [x,dx]) R H' R'->((fO C).bx [x,dx] fs).R K H' R' (.ref x)->qH R' [x,dx]->Pd fs->Q .NS H'
variable {mg:Hq}{base:Heap}
theorem uX {S:wb}{qual:Str}{f:Addr}{N ps:Ht}{k:Nat}(F:cY K x qual st f fd)(Sc:bq N ps (ak st))(len:∀C qs Pd,S K C qs Pd->qs.length+1=ps.length)(N5:∀(NK:Value)(A:Kj)(outer:List Env)(s:Kc)(H:Hp)(E:XK)(C a dx:Addr)(qs:List Pk)(Pd:gO->Prop),bz k (A.deeper (J4 qual (ak st) s.heap.objs.size f NK))->S K C qs Pd->
  WS (aT cW P w K mg base N qual (ak st) f NK A outer s H E).bV (ba st) (.ob ((fO C).bx [a,dx] [])::eh qs (N.length-1)) (λΓ=>∃fs,Γ[0]?=some (.ob ((fO C).bx [a,dx] fs))/\Pd fs) (λ_ _ _ _=>False)):ck P w K mg base cW (k+1) f fd ps (rW S K):=by
 refine F.ok Sc (λvs H Q E h=>?_) (λNK A outer s H vs Q E hr h=>?_)
 ·obtain⟨R,a,dx,C,Oz,qs,Pd,rfl,_,_,_,p,hS,_⟩:=h;rw[Iy,p.length];exact len C qs Pd hS
 ·obtain⟨R,a,dx,C,Oz,qs,Pd,rfl,sR,hR,hB,p,hS,q⟩:=h;have hl:qs.length+1<=N.length:=by
   rw[len C qs Pd hS];have:=congrArg List.length Sc.pre;rw[Im] at this;omega
  refine⟨_,dQ,N5 NK A outer s H E C a dx qs Pd hr hS (L2.start N (.ref a::Oz)) (jy H [a,dx]) R H R (tP (B:=fO C) sR hR hB p hl) {nx:=λ_ H'=>Q .NS H',rt:=Q} (λσ' H' R' Γ' E' _ ⟨fs,hΓ,t⟩=>?_) λv H' R' xx t=>t.elim⟩;obtain⟨ea,hB',Ou⟩:=wm (B:=fO C) (E'.ent 0 _ hΓ);exact q H' R' fs E'.ext hB' Ou t
theorem rD {S:wb}{c:Str}{k:Nat}{es:Hx}{p:Pos}{ps:List Pk}{Pd:gO->Prop}{f:Addr}{pn:Ht}{rr:Rep α}{z:α}(M:Mk X.K C f)(F:ck X.prog X.w X.K X.mg X.base cW k f fd pn (rW S X.K))(hr:bz (k+1) X.A)(hm:X.mg c=some (.ref C))(hb:Binds X.K fd pn [])(ha:HA X (e::es) Γ ps Γ1)(hS:S X.K C ps Pd)(hz:∀(fs:gO)(R:Hp)(x dx:Addr)(vs:List (Str×V)),Pd fs->ef fs X.K R vs->R x=some (.ins C dx vs)->rr.R X.K R (.ref x) z)(hg:Gl X c:=by rfl)(Om:N3 c:=by decide)(he:Kf (e::es) X.env=(false,eval e X.env)::Kf es X.env:=by rfl)(N8:(Ko pos (Kf es X.env)).any (·.1)=false:=by rfl):
 EV X (.Call (.Name c p) (e::es) [] pos) Γ rr z Γ1:=λσ H0 R0 H R E Q q=>
 eS (sr M F hr hg hm hb .nil yC kE Om he N8) (ha σ H0 R0 H R E _ λvs H1 R1 E1 s1 p1 x dx hx OR N2=>by
  have hd1:∀b,jy (upd (upd H1 dx (.own x)) x (.ins C dx [])) [x,dx] b=H1 b:=λb=>by
   by_cases hb:b∈[x,dx]
   ·rw[mU hb];rcases Ih.mp hb with rfl | hb
    ·exact hx.symm
    ·rw[HX.mp hb];exact OR.symm
   ·rw[pF hb];simp at hb;rw[aB hb.1,aB hb.2]
  have hR:qH R1 [x,dx]:=λb hb=>by
   rcases Ih.mp hb with rfl | hb
   ·exact E1.sub.free hx
   ·rw[HX.mp hb];exact E1.sub.free OR
  refine⟨R1,x,dx,C,vs,ps,Pd,by rw[Ip],λb o q=>?_,hR,⟨x,dx,[],rfl,rfl,aD,by rw[aB N2,aD],.nil,JX N2⟩,p1,hS,λH' R' fs xx hB Ou hP=>⟨rfl,?_⟩⟩
  ·have b1:b≠x:=λe=>by rw[e,hR x (by simp)] at q;cases q
   have b2:b≠dx:=λe=>by rw[e,hR dx (by simp)] at q;cases q
   rw[aB b1,aB b2];exact E1.sub b o q
  ·rw[show jy (upd (upd H1 dx (.own x)) x (.ins C dx [])) [x,dx]=H1 from funext hd1] at xx;obtain⟨x',dx',ws,el,ev,h1,h2,h3,nd⟩:=hB;cases el
   have E2:=E1.grow xx;have E3:=E2.oV h2 (Ou dx (by simp)) (E1.ext.h.free OR) (E1.off OR);have sd:ay R' (upd R' dx (.own x)):=ay.fresh (Ou dx (by simp)) _;have hRx:upd R' dx (.own x) x=none:=by rw[aB nd];exact Ou x (by simp)
   have E4:=E3.oV h1 hRx (E1.ext.h.free hx) (E1.off hx);have sx:=sd.trans (ay.fresh hRx (.ins C dx ws));exact q (.ref x) H' _ E4 ((s1.trans xx.r).trans sx) (hz fs _ x dx ws hP (h3.mono sx) aD))
theorem gC {rr:Rep α}{z:α}{r:Rep β}{y:β}(hC:bh X.K C ns)(hf:f∈ns)(he:EV X e Γ rr z Γ1)(hz:∀(K:MO)(R:Hp)(v:V),rr.R K R v z->∃x dx vs u,v= .ref x/\R x=some (.ins C dx vs)/\vs.lookup f=some u/\r.R K R u y)(hb:Kk e f X.env (eval e X.env)=eval e X.env:=by rfl):EV X (.Attribute e f pos) Γ r y Γ1:=λσ H0 R0 H R E Q q=>
 eS (qA aQ hb) (he σ H0 R0 H R E _ λv H1 R1 E1 s1 e1=>by
  obtain⟨x,dx,vs,u,rfl,h1,h2,h3⟩:=hz _ _ _ e1;exact⟨x,C,dx,vs,u,rfl,E1.sub _ _ h1,hC.cl,hC.no f hf,h2,q u H1 R1 E1 s1 h3⟩)
end
section
variable {α β γ δ:Type}
variable {r:Rep α}
theorem jB {y:α}(he:EV X e Γ r y Γ1)(h:N Γ1)(OU:Km e none pos.line X.env=pure false:=by rfl):W1 X (.Expr e pos) Γ N T:=λσ H0 R0 H R E D dn dr=>
 sS (iQ aQ OU) (he σ H0 R0 H R E _ λv H1 R1 E1 s1 e1=>dn σ H1 R1 _ E1 s1 h)
theorem CK (i:Nat){p1:Pos}{a c:Int}(he:EV X e Γ ai c Γ)(hΓ:Γ[i]?=some (.im ai a))(h:N (Γ.set i (.im ai (a+c))))(hN:X.N.Nodup:=by first | assumption | decide)(hi:X.N[i]?=some x:=by rfl)(hx:autoParam (Loc X.env.scope x) Pw)(hf:autoParam (X.fn x=true∨X.env.scope.names.lookup x=some .local) Pu):
 W1 X (.AugAssign (.Name x p1) .Add e pos) Γ N T:=λσ H0 R0 H R E D dn dr=>by
 obtain⟨v,ea,hr⟩:=E.ent i _ hΓ;cases (show v=V.int a from hr)
 refine sS (BY hN hi hx aQ Cp hf) ⟨.int a,at_of ea,he σ H0 R0 H R E _ λu H2 R2 E2 s2 e2=>?_⟩;cases (show u=V.int c from e2)
 exact⟨a,c,rfl,rfl,dn _ H2 R2 _ (E2.set i (r:=ai) (x:=a+c) rfl) s2 h⟩
theorem zJ {i j:Nat}{r':Rep β}{xs:List α}{ys:List β}(hij:i≠j)(hΓ:Γ[i]?=some (.mu r xs))(hj:Γ[j]?=some (.mu r' ys))(hz:xs.length<=Ke)(hz':ys.length<=Ke)(σ:St)(H0 R0 H R:Hp)(E:aA X.K σ H0 R0 H R Γ):aA X.K σ H H H H (((Γ.map oY).set i (.im (ag r) xs)).set j (.im (ag r') ys)):=by
 obtain⟨a,vs,ea,ha,hR,pp⟩:=E.ent i _ hΓ;obtain⟨b,ws,eb,hb,hRb,pq⟩:=E.ent j _ hj;have E1:=E.OG.tJ (i:=i) (e0:=.no) (en:=.im (ag r) xs) (by rw[Ii,hΓ];rfl) ⟨.ref a,ea,a,vs,rfl,ha,Paired.map (λ_ _=>r.mono E.sub) pp,hz⟩ λb w=>by cases w
 exact E1.tJ (i:=j) (e0:=.no) (by rw[IJ hij,Ii,hj];rfl) ⟨.ref b,eb,b,ws,rfl,hb,Paired.map (λ_ _=>r'.mono E.sub) pq,hz'⟩ λb w=>by cases w
theorem vI:cP X (Kp .LtE) (λx y H Q=>∃i j,x= .str i/\y= .str j/\Q (.bl (!decide (j.cps.toList<i.cps.toList))) H):=by
 intro NI s σ H x y v u Q I rx ry h;obtain⟨i,j,rfl,rfl,q⟩:=h;obtain⟨t,rfl⟩:=rx;obtain⟨t',rfl⟩:=ry;exact PySem.P.le_str (bg I q rfl)
theorem yb :df X .LtE ae ae x y (!decide (y.cps.toList<x.cps.toList)):=⟨_,vI,λR H v u Q _ e1 e2 q=>by
 cases e1;cases e2
 exact⟨x,y,rfl,rfl,q⟩⟩
theorem jI {xs:Ht}:df X .NotIn ae (ag ae) x xs (!decide (x∈xs)):=⟨_,jC,λR H v u Q s e1 e2 q=>by
 cases e1
 obtain⟨a,vs,rfl,hq,p,_⟩:=e2;have e:=jZ p;subst e;exact⟨a,_,rfl,.inl (bp.of (s _ _ hq)),rfl,h8 xs,by rw[ND rfl,i7];exact q⟩⟩
theorem lu {xs:List α}(h:EV X e Γ (ag r) xs Γ1)(he:∀whole,K4 e X.env whole=(do let v ← whole;Ls e.pos;K2 [v] (truthy v)):=by intro _;rfl):TV X e Γ (!xs.isEmpty) Γ1:=by
 intro σ H0 R0 H R E Q q;refine tS (qh aQ he) (h σ H0 R0 H R E _ λv H1 R1 E1 s1 e1=>?_);obtain⟨a,vs,rfl,ha,pp,_⟩:=e1;refine⟨!xs.isEmpty,.inl ⟨vs,bp.of (E1.sub _ _ ha),?_⟩,q H1 R1 E1 s1⟩;cases pp<;>rfl
end
end Fc
namespace Fc
open PySem PySem.Spec PySem.W PySem.Calls L2
open PyProof.Rows hiding St
open PySem
variable {A:Kj}{E:Value->Kc->Prop}{hdct:Bool}{sn:Ht}{ab:Bool}{col:Option Bool}{dd:Option Addr}{newId:String}{mN:Hq}{rest:Hw}{fI:Addr}{oI:Obj}
section
variable {prog:Kh}{w:World}{h:Heap}{g:Array Lv}{d:Drawn}{t:Nat}{os:OsState}
variable {nm q:Str}{C N:Addr}{bs bm bmB:Hw}{sub:Hw}{k0 k1 k2 k3 k5:Hu}{B PR:String}
abbrev dE (C t:Addr):Obj:={cls:=.ref C,data:=.fields #[.ref t,.none,.none,.none,.bool false,.none]}
theorem vC (F:ExcBaseFacts B newId PR bmB)(T:OwnTail h bmB bm){Q:Fin->Kc->Prop}(hC:h.get? C=some (LG nm q C N bs bm hdct sn sub ab col dd k0 k1 k2 k3 k5 newId))(hn:h.Ns N mN)(hi:mN "__init__"=some (.ref fI))(Si:h.get? fI=some oI)(Sh:oI.cls= .type "function")(hq:∀h' e,Mx h h' e (.ref C) rest->h.objs.size<=e->wpAny (model prog w) A (call (.ref fI) (.ref e::rest)) (λr s'=>r= .none/\Q (.done (.ret (.ref e))) s') E ⟨h',g,d,t,os⟩)(OX:rest.length<=Ke):
 wpAny (model prog w) A (Ln.«type.__call__» ⟨.ref C::rest,[]⟩) Q E ⟨h,g,d,t,os⟩:=by
 repeat (first
  | with_reducible refine KU hC ?_
  | with_reducible refine wpAny_madeBy_exc hC ?_
  | wp_step)
 refine codeAny_call_builtin_code (Md _ F.quiet) (wpAny_check_new_subT F T hC (codeAny_exc_new_subT F T hC ?_ OX));have up:∀b o,h.get? b=some o->((h.push {cls:=.type "tuple",data:=.seq rest.toArray}).push (dE C h.objs.size)).get? b=some o:=λb o e=>Mn _ (Mn _ e);show wpAny _ _ _ _ _ _;have hC1:=up _ _ hC;have hf1:=up _ _ Si;have hn1:=hn.keeps up;have T1:=T.keeps up;have he:((h.push {cls:=.type "tuple",data:=.seq rest.toArray}).push (dE C h.objs.size)).get? (h.objs.size+1)=some (dE C h.objs.size):=by heap_get
 have hcC:(MF C::bm).contains (.ref C)=true:=by simp
 unfold Lr
 repeat (first
  | with_reducible refine KU he ?_
  | (with_reducible refine wpAny_isSubtype_exc hC1 ?_;rw[hcC])
  | wp_step)
 show wpAny _ _ (typeLookup (.ref C) _) _ _ _;refine wpAny_typeLookup_tail hC1 hn1 T1 F.mroIs F.init.lookup ?_;rw[hi];refine Ku (Kb ?_);unfold bindSpecial;refine Kb (Lx (T:="function") ⟨_,hf1,Sh⟩ ?_);rw[ND (by decide)];have hm:Mx h ((h.push {cls:=.type "tuple",data:=.seq rest.toArray}).push (dE C h.objs.size)) (h.objs.size+1) (.ref C) rest:=
  ⟨up,Mt (JR _),h.objs.size,he,Mt (JI _),Mn _ (Heap.get?_push_at rfl rfl)⟩
 refine Kg (Kb (Kl (hq _ _ hm (JR _)) (λr s' ⟨hr,hQ⟩=>?_) λ_ _ x=>x));subst hr
 wp_walk
 exact hQ
theorem uA (F:ExcBaseFacts B newId PR bmB)(T:OwnTail h bmB bm){Q:Value->Kc->Prop}(hC:h.get? C=some (LG nm q C N bs bm hdct sn sub ab col dd k0 k1 k2 k3 k5 newId))(hn:h.Ns N mN)(hi:mN "__init__"=some (.ref fI))(Si:h.get? fI=some oI)(Sh:oI.cls= .type "function")(hq:∀h' e,Mx h h' e (.ref C) rest->h.objs.size<=e->wpAny (model prog w) (A.under (.builtin "type.__call__" ⟨.ref C::rest,[]⟩)) (call (.ref fI) (.ref e::rest)) (λr s'=>r= .none/\Q (.ref e) s') E ⟨h',g,d,t,os⟩)(OX:rest.length<=Ke):
 wpAny (model prog w) A (call (.ref C) rest) Q E ⟨h,g,d,t,os⟩:=by
 have f1:=tc_lookup;have f2:=tc_bind (.ref C);have hT:(⟨h,g,d,t,os⟩:Kc).TypeIs (.ref C) "type":=⟨_,hC,rfl⟩;refine K9 (codeAny_of_tree ?_);show wpAny _ _ (callAny (.ref C) _) _ _ _
 repeat (any_goals (first
  | assumption
  | with_reducible refine KU hC ?_
  | wp_step))
 exact⟨rfl,codeAny_call_builtin_at (Md _ (by decide +kernel)) entry_typeCall (wpAny_check_type_call_sub hC (vC F T hC hn hi Si Sh (λh' e hm hz=>hq h' e hm hz) OX))⟩
end
theorem tD {M:Model}{env:Env}{nm q:Str}{C N:Addr}{bs bm:Hw}{sub:Hw}{k0 k1 k2 k3 k5:Hu}{s:Kc}{x:Sem Value}{Q:Flow->Kc->Prop}(NT:bm.contains (.type "BaseException")=true)(hh:A.handled=none)(h:wpAny M A x (λv s₁=>∃e o t,v= .ref e/\s₁.heap.get? C=some (LG nm q C N bs bm hdct sn sub ab col dd k0 k1 k2 k3 k5 newId)/\s₁.heap.get? e=some o/\o.cls= .ref C/\o.data= .fields #[.ref t,.none,.none,.none,.bool false,.none]/\E (.ref e) s₁) E s):
 wpAny M A (raiseStmt env (some x) none) Q E s:=by
 have hcB:(MF C::bm).contains (.type "BaseException")=true:=by rw[List.contains_cons,NT,HN]
 unfold raiseStmt;refine Kb (Kl h (λv s₁ h₁=>?_) λ_ _ x=>x);obtain⟨e,⟨oc,od,odt,OB⟩,t,rfl,hC,he,hc,hd,hE⟩:=h₁;dsimp only at hc hd;subst hc hd;obtain⟨hp,g,d,tk,os⟩:=s₁
 repeat (first
  | with_reducible refine KU he ?_
  | with_reducible refine KU hC ?_
  | (with_reducible refine wpAny_isSubtype_exc hC ?_;rw[hcB])
  | wp_step)
 exact wpAny_raiseNew_none hh hE
end Fc
namespace Fc
open PySem PySem.Spec PySem.W PySem.Calls L2
open PyProof.Rows hiding St
open PySem PySem.W PyProof.Rows
open Builtin Builtin.ObjectAttr
section
variable {prog:Kh}{w:World}{A:Kj}{E:Value->Kc->Prop}{s:Kc}{K:Frag}{C CE x:Addr}{ox:Obj}{cd:ClassData}{name:Str}{v:Value}
theorem uh (self:Value)(C CE:Addr):refuseLoop self "__setattr__" (.ref C:: .ref CE::gp)=pure ():=by
 rw[refuseLoop_ref,refuseLoop_ref];exact PySem.F.store_ValueError.passes self
theorem z8 {Q:Unit->Kc->Prop}(X:K.In s.heap)(hx:s.heap.get? x=some ox)(hc:ox.cls= .ref C){vs:Array Value}(hdt:ox.data= .fields vs)(hd:ox.dict=none)(hs:Np K (.ref C) "__setattr__"=some (some (.builtin "object.__setattr__")))(hk:clsIn K C=some cd)(hm:cd.mro= .ref C:: .ref CE::gp)(hh:cd.hasDict=true)(ha:Np K (.ref C) name=some none)(h:∀h',h'.get? x=some {ox with dict:=some s.heap.objs.size}->(∀b o,b≠x->s.heap.get? b=some o->h'.get? b=some o)->h'.Ns1 s.heap.objs.size (λy=>if y=name then some v else none)->Q () {s with heap:=h',toks:=s.toks+2}):
 wpAny (model prog w) A (setAttr (.ref x) name v) Q E s:=by
 have I:InstAt s.heap x ox C none:=⟨hx,hc,by unfold notCls;rw[hdt],by rw[hd];trivial⟩;have SF:=PySem.F.store_object;refine set_plain X I hs ?_;have sub:Looks (model prog w) s.heap (Lr (.ref x) (.type "object")) true:=I.type.andThen (looks_mroIn X (by unfold mroIn;rw[hk,Option.bind_some,hm];rfl));refine K0 SF.slot.plain SF.entry (@check_slot (model prog w) _ _ {s with toks:=s.toks+1} "object.__setattr__" "object" "__setattr__" (.ref x) [.str name s.toks,v] [] _ SF.kind SF.split sub (SF.args (.ref x) (.str name s.toks) v) ?_);have hmr:Looks (model prog w) s.heap (mroOf (.ref C)) cd.mro:=(looks_clsIn X hk).andThen .now;rw[osa_eq,refuse_eq];refine Kb (Kb (Nu (s:={s with toks:=s.toks+1}) I.type (Kb (Nu (s:={s with toks:=s.toks+1}) hmr ?_))));rw[hm,uh];refine Kg (Kb (Nu (s:={s with toks:=s.toks+1}) I.type (Kb (Nu (s:={s with toks:=s.toks+1}) (Nd X ha) (Kb (Kg ?_))))));obtain⟨oc,od,odt,OB⟩:=ox;dsimp only at hc hd hdt;subst hc hd hdt;obtain⟨hp,g,d,tk,os⟩:=s;refine Kb (Kg (Kb (Kb (LJ hx (Kb (Nu (s:=⟨hp,g,d,tk+1,os⟩) (looks_clsIn X hk) ?_))))));rw[hh];have QB:(hp.push {cls:=.type "dict",data:=.dict #[]}).get? x=some ⟨.ref C,none,(.fields vs),OB⟩:=Mn _ hx;have hxs:x≠hp.objs.size:=JL (Mo hx);show wpAny (model prog w) A.in1 (alloc {cls:=.type "dict",data:=.dict #[]} >>=λd=>update x (λo=>{o with dict:=some d}) >>=λ_=>pure (some d)) _ _ _;refine Kb (wpAny_alloc' (Kb (wpAny_update' QB (Kg ?_))));have hup:((hp.push {cls:=.type "dict",data:=.dict #[]}).update x λo=>{o with dict:=some hp.objs.size}).get? x=some ⟨.ref C,some hp.objs.size,.fields vs,OB⟩:=Mr _ QB rfl;have hdd:((hp.push {cls:=.type "dict",data:=.dict #[]}).update x λo=>{o with dict:=some hp.objs.size}).get? hp.objs.size=some {cls:=.type "dict",data:=.dict #[]}:=(Mv _ _ _ _ hxs.symm).trans (Heap.get?_push_at rfl rfl);have P8:((hp.push {cls:=.type "dict",data:=.dict #[]}).update x λo=>{o with dict:=some hp.objs.size}).Ns hp.objs.size (λ_=>none):=⟨_, #[],_,hdd,rfl,λe he=>Ny he (by simp),λ_=>rfl⟩;show wpAny _ _ (storeInDict hp.objs.size (.str name tk) name v) _ _ _;unfold storeInDict newKeyGuard;refine Kb (Kg (Kb (wpAny_nsSet1 (Heap.Ns1.of_empty P8) λh' Rb hs'=>?_)));obtain⟨oD,esD,epD,hoD,hdD,hcD⟩:=Rb.count (LY.cons name v LY.nil);refine Kb (wpAny_lookBehind hoD (by rw[hdD];exact pastItsLine_dict (JJ hcD (by rw[Iy,length_nil,Lc];omega))) (Kg ?_));exact h h' ((hs'.2 x hxs).trans hup) (λb o hb e=>(hs'.2 b (JL (Mo e))).trans ((Mv _ _ _ _ hb).trans (Mn _ e))) Rb
end
end Fc
namespace Fc
open PySem PySem.Spec PySem.W PySem.Calls L2
open PyProof.Rows hiding St
open PySem PySem.Spec PySem.W PySem.Calls PySem.Builtin.ObjectAttr PySem.Builtin.Getset_descriptor L2
section
variable {prog:Kh}{w:World}{A:Kj}{E:Value->Kc->Prop}{s:Kc}{K:Frag}{C x:Addr}{ox od:Obj}{cd:ClassData}{name:Str}{v:Value}{ex:Bool}
theorem zt {Q:Value->Kc->Prop}(X:K.In s.heap)(e:cU K C=true)(I:InstAt s.heap x ox C (some od))(hk:clsIn K C=some cd)(hh:cd.hasDict=true)(ha:Np K (.ref C) name=some none)(hl:lookIn name od=some (some v))(hv:handedIn v=true)(h:Q v {s with toks:=s.toks+1}):wpAny (model prog w) A (getAttr (.ref x) name ex) Q E s:=by
 unfold cU at e;simp only[HF,beq_iff_eq] at e;obtain⟨⟨⟨⟨⟨⟨⟨hga,hgk⟩,_⟩,hn⟩,RN⟩,hm⟩,Oq⟩,hc⟩:=e;obtain⟨hp,g,d,t,os⟩:=s;have X:K.In hp:=X;have L0:Looks (model prog w) hp (typeOf (.ref x)) (.ref C):=I.type;have L1:=Nd (M:=model prog w) X hga;have L2:=Nd (M:=model prog w) X hgk;have LB:Looks (model prog w) hp (isSubtype (.ref C) (.type "BaseException")) true:=looks_subIn X Oq;have F1:Looks (model prog w) hp (find (.ref x) (.ref C) name) (.value v):=looks_find X I (by
  unfold findObj W.ownOf;rw[hk,ha];simp only[Option.bind_some,hh,if_true,hl])
 have hx2:(MG "BaseException.__getattribute__"==MG "object.__getattribute__")=false:=by decide +kernel
 have QB:(onTheHeap (MF C)&&MG "BaseException.__getattribute__"==MG "object.__getattribute__")=false:=by rw[hx2];rfl
 unfold getAttr getAttrBy;refine Kb (wpAny_mkText (Ku (Kb (L0.at (Kb (L1.at ?_))))));dsimp only;rw[QB];simp only[HL,if_false];unfold getAttrByItsOwn hookBefore;have f3:=Mh.ga.bind (.ref x);refine Kb (L2.at ?_);refine Kb (Lf (Ku ?_));have hcg:callGetattribute (.ref x) (.str name t) (.builtin "BaseException.__getattribute__") ex=Lm (.builtin "BaseException.__getattribute__") (.ref x) (.str name t):=by cases ex<;>rfl
 rw[hcg];unfold Lm;refine Kb (wpAny_of_eq f3 ?_);have hkd:builtinKind "BaseException.__getattribute__"=some .slot:=by decide +kernel
 have Pc:splitId "BaseException.__getattribute__"=some ("BaseException","__getattribute__"):=by decide +kernel
 have Su:=PySem.F.args_bexc_ga (.ref x) (.str name t);refine K9 (K0 Mh.ga.plain PySem.F.entry_bexc_ga ?_);show wpAny _ _ (Lg "BaseException.__getattribute__" ⟨[.ref x,.str name t],[]⟩) _ _ _;simp only[Lg,hkd,Pc];refine Kb ?_;unfold Lr
 repeat lk
 show wpAny _ _ (handedOut v) _ _ _;rw[handedOut_of hv];exact Kg h
end
end Fc
namespace Fc
open PySem PySem.Spec PySem.W PySem.Calls L2
open PyProof.Rows hiding St
open PySem
variable {M:Model}
section
variable {α:Type}
def Ds (f:Obj->Obj):Prop:=∀o,o.isFreed=false->(f o).isFreed=false/\(f o).dict=o.dict
def Tame {α:Type}:Sem α->Prop
 | .pure _=>True
 | .raise _=>True
 | .unsupported _=>True
 | .finish _=>True
 | .rule _ k=>Tame (k ())
 | .at _ k=>Tame (k ())
 | .load _ _ k=>∀o,Tame (k o)
 | .update _ _ f k=>Ds f/\Tame (k ())
 | .alloc _ k=>∀a,Tame (k a)
 | .loadIfAlive _ k=>∀o,Tame (k o)
 | .point _ k=>Tame (k ())
 | .fresh k=>∀t,Tame (k t)
 | .ask k=>∀x,Tame (k x)
 | .stack k=>∀x,Tame (k x)
 | _=>False
def dX (h h':Heap):Prop:=∀e o,h.get? e=some o->∃o',h'.get? e=some o'/\o'.dict=o.dict
theorem dX.refl (h:Heap):dX h h:=λe o q=>⟨o,q,rfl⟩
theorem dX.trans {h1 h2 h3:Heap}(a:dX h1 h2)(b:dX h2 h3):dX h1 h3:=λe o q=>by
 obtain⟨o1,q1,d1⟩:=a e o q;obtain⟨o2,q2,d2⟩:=b e o1 q1;exact⟨o2,q2,d2.trans d1⟩
theorem tN (h:Heap)(o:Obj):dX h (h.push o):=λe u q=>⟨u,Mn _ q,rfl⟩
theorem pR {h:Heap}{a:Addr}{f:Obj->Obj}(hf:Ds f):dX h (h.update a f):=λe o q=>by
 by_cases z:e=a
 ·subst z;obtain⟨h1,h2⟩:=hf o (Heap.get?_some_iff.mp q).2;exact⟨f o,Mr f q h1,h2⟩
 ·exact⟨o,(Mv _ _ _ _ z).trans q,rfl⟩
theorem zS {Γ:PySem.Ctx}{Q:α->Pos->Kc->Prop}{E:Value->Pos->Kc->Prop}:∀(t:Sem α)(p:Pos)(s:Kc),Tame t->MC M Γ t Q E p s->MC M Γ t (λa p' s'=>Q a p' s'/\dX s.heap s'.heap) E p s:=by
 have key:∀(t:Sem α)(h0:Heap)(p:Pos)(s:Kc),Tame t->dX h0 s.heap->MC M Γ t Q E p s->MC M Γ t (λa p' s'=>Q a p' s'/\dX h0 s'.heap) E p s:=by
  intro t h0
  induction t with
  | pure a=>intro p s _ k h;rw[MC] at h ⊢;exact⟨h,k⟩
  | raise e=>intro p s _ k h;rw[MC] at h ⊢;exact h
  | unsupported _=>intro p s _ k h;rw[MC] at h;exact h.elim
  | finish _=>intro p s _ k h;rw[MC] at h;exact h.elim
  | rule _ _ ih=>intro p s t k h;rw[MC] at h ⊢;exact ih () p s t k h
  | «at» p' _ ih=>intro p s t k h;rw[MC] at h ⊢;exact ih () p' s t k h
  | load a _ _ ih=>intro p s t k h;rw[MC] at h ⊢;obtain⟨o,h1,h2⟩:=h;exact⟨o,h1,ih o p s (t o) k h2⟩
  | update a _ f _ ih=>intro p s t k h;rw[MC] at h ⊢;exact⟨h.1,ih () p _ t.2 (k.trans (pR t.1)) h.2⟩
  | alloc o _ ih=>intro p s t k h;rw[MC] at h ⊢;exact ih _ p _ (t _) (k.trans (tN _ _)) h
  | loadIfAlive a _ ih=>intro p s t k h;rw[MC] at h ⊢;exact ih _ p s (t _) k h
  | point _ _ ih=>intro p s t k h;rw[MC] at h ⊢;exact ih () p s t k h
  | fresh _ ih=>intro p s t k h;rw[MC] at h ⊢;exact ih _ p _ (t _) k h
  | ask _ ih=>intro p s t k h;rw[MC] at h ⊢;exact ih _ p s (t _) k h
  | stack _ ih=>intro p s t k h;rw[MC] at h ⊢;exact ih _ p s (t _) k h
  | register _ _ _=>intro p s t k h;exact t.elim
  | choose _ _ _ _=>intro p s t k h;exact t.elim
  | os _ _ _ _=>intro p s t k h;exact t.elim
  | call _ _ _ _ _ _=>intro p s t k h;exact t.elim
  | handled _ _ _=>intro p s t k h;exact t.elim
  | newGen _ _ _=>intro p s t k h;exact t.elim
  | genState _ _ _=>intro p s t k h;exact t.elim
  | resume _ _ _ _ _=>intro p s t k h;exact t.elim
  | yield _ _ _ _ _=>intro p s t k h;exact t.elim
  | fork _ _ _=>intro p s t k h;exact t.elim
  | thread _ _=>intro p s t k h;exact t.elim
  | await _ _ _ _ _ _=>intro p s t k h;exact t.elim
 exact λt p s ht h=>key t s.heap p s ht (dX.refl _) h
theorem fm {A:Kj}{t:Sem α}{Q:α->Kc->Prop}{E:Value->Kc->Prop}{s:Kc}(ht:Tame t)(h:wpAny M A t Q E s):wpAny M A t (λa s'=>Q a s'/\dX s.heap s'.heap) E s:=λΓ p hΓ=>zS t p s ht (h Γ p hΓ)
theorem aX {β:Type}{m:Sem α}{f:α->Sem β}(h1:Tame m)(h2:∀a,Tame (f a)):Tame (m >>=f):=by
 show Tame (m.bind f)
 induction m with
 | pure a=>exact h2 a
 | raise e=>trivial
 | unsupported _=>trivial
 | finish _=>trivial
 | rule _ _ ih=>exact ih () h1
 | «at» p' _ ih=>exact ih () h1
 | load a _ _ ih=>exact λo=>ih o (h1 o)
 | update a _ f _ ih=>exact⟨h1.1,ih () h1.2⟩
 | alloc o _ ih=>exact λo=>ih o (h1 o)
 | loadIfAlive a _ ih=>exact λo=>ih o (h1 o)
 | point _ _ ih=>exact ih () h1
 | fresh _ ih=>exact λo=>ih o (h1 o)
 | ask _ ih=>exact λo=>ih o (h1 o)
 | stack _ ih=>exact λo=>ih o (h1 o)
 | register _ _ _=>exact h1.elim
 | choose _ _ _ _=>exact h1.elim
 | os _ _ _ _=>exact h1.elim
 | call _ _ _ _ _ _=>exact h1.elim
 | handled _ _ _=>exact h1.elim
 | newGen _ _ _=>exact h1.elim
 | genState _ _ _=>exact h1.elim
 | resume _ _ _ _ _=>exact h1.elim
 | yield _ _ _ _ _=>exact h1.elim
 | fork _ _ _=>exact h1.elim
 | thread _ _=>exact h1.elim
 | await _ _ _ _ _ _=>exact h1.elim
theorem bt (a:α):Tame (pure a:Sem α):=trivial
theorem jG (a:Addr):Tame (load a):=λ_=>trivial
theorem c6 (x:String):Tame (unsupported x:Sem α):=trivial
theorem jh:Tame stack:=λ_=>trivial
theorem qZ (v:Value):Tame (fieldsOf v):=by
 unfold fieldsOf;cases v<;>first | exact c6 _ | skip
 refine aX (jG _) λo=>?_;split
 ·exact bt _
 ·exact c6 _
theorem gD (v:Value)(i:Nat):Tame (field v i):=by
 unfold field;refine aX (qZ v) λvs=>?_;split
 ·exact bt _
 ·exact c6 _
theorem sN (f:Array Value->Array Value):Ds (Obj.mapFields f):=λo h=>by
 obtain⟨c,d,dt,sl⟩:=o;cases dt<;>first | exact⟨h,rfl⟩ | exact⟨rfl,rfl⟩
theorem gj (v:Value)(i:Nat)(x:Value):Tame (setField v i x):=by
 unfold setField;cases v<;>first | exact c6 _ | skip
 unfold updateField;refine aX (jG _) λo=>?_;split
 ·split
  ·exact⟨sN _,trivial⟩
  ·exact c6 _
 ·exact c6 _
theorem fH (v:Value)(f:Option Addr):Tame (setFlight v f):=by
 unfold setFlight;refine aX (gD _ _) λtb=>?_;split
 ·exact gj _ _ _
 ·exact bt _
theorem rj (env:Env)(outer:List Env):Tame (behindIsImport env outer):=by
 unfold behindIsImport;split
 ·exact bt _
 ·split
  ·exact bt _
  ·exact aX (gD _ _) λ_=>bt _
theorem vk (env:Env)(b:Bool)(l:List Env):Tame (keptBack env b l):=by
 unfold keptBack;split
 ·split
  ·exact bt _
  ·refine aX ?_ λ_=>bt _;unfold underTheClaimsCaller;exact aX jh λ_=>bt _
 ·exact bt _
theorem lg:∀l:List Env,Tame (readyFrames l)
 | []=>bt _
 | env::outer=>by
   unfold readyFrames;split
   ·refine aX (jG _) λo=>?_;split
    ·exact bt _
    ·refine aX (rj _ _) λb=>aX (vk _ _ _) λv=>aX ⟨λo h=>⟨?_,rfl⟩,trivial⟩ λ_=>lg outer;obtain⟨c,d,dt,sl⟩:=o;cases dt<;>first | rfl | exact h
   ·exact c6 _
theorem p6 (env:Env):Tame (LV env):=by
 unfold LV frameEnvs;refine aX (aX jh λ_=>bt _) λl=>aX ?_ λr=>?_
 ·unfold frameObject;split
  ·exact bt _
  ·exact aX (lg _) λ_=>bt _
 ·split
  ·exact bt _
  ·exact c6 _
theorem sG (f:Addr)(b:Bool):Tame (entryPlaceOf f b):=by
 unfold entryPlaceOf;refine aX jh λacts=>?_;split
 ·exact bt _
 ·first | exact bt _ | exact c6 _
theorem lM (o:Obj):Tame (alloc o):=λ_=>trivial
theorem w6 (vs:Hw):Tame (newFields "traceback" vs):=by
 unfold newFields newObj newObjAsIs;dsimp only;split
 ·exact aX (c6 _) λ_=>aX (lM _) λ_=>bt _
 ·exact aX (lM _) λ_=>bt _
theorem nD (e:Value)(env:Env):Tame (noteFrame e env):=by
 unfold noteFrame;split
 ·refine aX (gD _ _) λhead=>?_;have jp:∀d:Addr,Tame (do
   let a ← LV env
   let b ← entryPlaceOf d (head != MH)
   let c ← EntryCells.newEntry head a MH (Lw d) MH b
   setField e 1 c):=λd=>by
   refine aX (p6 _) λa=>aX (sG _ _) λb=>aX ?_ λc=>gj _ _ _;exact w6 _
  dsimp only;split
  ·refine aX (gD _ _) λx=>?_;split
   ·exact bt _
   ·exact aX (gj _ _ _) λ_=>jp _
  ·exact jp _
 ·exact c6 _
theorem jM (env:Env)(e:Value):Tame (leaving env e):=by
 unfold leaving;exact aX (nD _ _) λ_=>fH _ _
end
end Fc
namespace Fc
open PySem PySem.Spec PySem.W PySem.Calls L2
open PyProof.Rows hiding St
variable {H:Hp}{nm:Str}{o:Obj}{K:MO}{x:Str}{C:Addr}{P:Kh}{w:World}{X:Cx}{NI:Hr}{σ:St}{s:Kc}{mg:Hq}{n:Int}{tk:Nat}{v:Value}{base:Heap}{y self:Str}{st:Stmt}{fd:Kn}{p1 p2:Pos}{Q Ex:Value->Kc->Prop}
section
variable {e:Addr}{fI:Addr}{h:Heap}
structure jE (K:MO)(mg:Hq)(x nm:Str)(C CE fI:Addr):Prop where
 bound:mg x=some (.ref C)
 lk:∃n bs ns qn sn sub ab col dd k0 k1 k2 k3 k5,K.lookup C=some (LG n qn C ns bs (.ref CE::gp) true sn sub ab col dd k0 k1 k2 k3 k5 "ValueError.__new__")/\Nq K ns=true/\MP K ns "__init__"=some (some (.ref fI))
 tl:Ni K gp (.ref CE::gp)=true
 fn:Nh K (.ref fI)=true
 kp:MT K (.ref C)=true
 sa:MQ K (.ref C) "__setattr__"=some (some (.builtin "object.__setattr__"))
 no:MQ K (.ref C) nm=some none
 look:cU K C=true
theorem jE.cls {CE:Addr}(c:jE K mg x nm C CE fI):∃cd,Nr K C=some cd/\cd.mro= .ref C:: .ref CE::gp/\cd.hasDict=true:=by
 obtain⟨n,bs,ns,qn,sn,sub,ab,col,dd,k0,k1,k2,k3,k5,h,_⟩:=c.lk;exact⟨{name:=n,bases:=bs,mro:=.ref C:: .ref CE::gp,ns:=ns,qualname:=qn,hasDict:=true,slotNames:=sn,subclasses:=sub,abstract:=ab,collection:=col,hasDel:=false},by unfold Nr;rw[h],rfl,rfl⟩
abbrev dy (e:Addr)(o:Obj):HO:=.ext λh=>h.get? e=some o
abbrev gx (o:Obj)(d:Addr):Obj:={o with dict:=some d}
def qV (C:Addr)(nm:Str):Sp:=λvs H Q _=>∃e n t,vs=[.ref e,.int n]/\H e=some (dy e (dE C t))/\∀dx,H dx=none->dx≠e->Q .NS (upd (upd H dx (.xd [(nm,.int n)])) e (dy e (gx (dE C t) dx)))
theorem pz (q:h.get? e=some o):bK P w H h e (dy e o):=⟨q,⟨o,q⟩,λh1 h2 p k=>k o p⟩
theorem Inv.stored {h':Heap}(I:Inv X NI σ H s)(he:H e=some (dy e o))(rv:RelV (.int n) v)(q1:h'.get? e=some (gx o s.heap.objs.size))(q2:∀b u,b≠e->s.heap.get? b=some u->h'.get? b=some u)(q3:h'.Ns1 s.heap.objs.size (λy=>if y=nm then some v else none)):
 Inv X NI σ (upd (upd H s.heap.objs.size (.xd [(nm,.int n)])) e (dy e (gx o s.heap.objs.size))) {s with heap:=h',toks:=tk}:=by
 obtain⟨od,es,ep,hd,rest⟩:=id q3;have N2:e≠s.heap.objs.size:=λz=>by
  have:=I.NN.fresh (a:=s.heap.objs.size) (JI _);rw[← z,he] at this;cases this
 have Po:od.isFreed=false:=(Heap.get?_some_iff.mp hd).2;have hm:(s.heap.push od).get? s.heap.objs.size=some od:=Mp _ Po;have I2:Inv X NI σ (upd H s.heap.objs.size (.xd [(nm,.int n)])) {s with heap:=s.heap.push od,toks:=tk}:=I.laid (a:=s.heap.objs.size) (o:=.xd [(nm,.int n)]) (t':=tk) (λb u q=>Mn _ q) (JI _) ⟨_,⟨od,es,ep,hm,rest⟩,λf=>by
  by_cases z:f=nm
  ·subst z;rw[IH,beq_self_eq_true,ND rfl];exact rv
  ·rw[IH,show(f==nm)=false by simpa using z,Nz z];trivial⟩
 have Q1:upd H s.heap.objs.size (.xd [(nm,.int n)]) e=some (dy e o):=(aB N2).trans he;exact I2.write (x:=e) (e:=e) (o:=dy e (gx o s.heap.objs.size)) (t':=tk) (by rw[Q1];trivial) (.inl rfl) (λb u hb q=>by
  by_cases z:b=s.heap.objs.size
  ·subst z;have q:(s.heap.push od).get? s.heap.objs.size=some u:=q;rw[hm] at q;cases q
   exact hd
  ·exact q2 b u hb ((Heap.get?_push_ne _ _ _ z).symm.trans q)) ⟨_,q1⟩ (pz q1)
theorem sq {pl:Str}{CE:Addr}{p3 p4:Pos}(c:jE K mg x nm C CE fI)(F:cY K "__init__" y st fI fd)(Sc:bq [self,pl] [self,pl] (ak st))(nd:self≠pl)(hb:ba st=[.Assign [.Attribute (.Name self p1) nm p2] (.Name pl p3) p4])(hs:∀env,Km (.Name pl p3) (some (.Attribute (.Name self p1) nm p2)) p4.line env=pure false)(hv1:dc (ak st) self)(hv2:dc (ak st) pl)(d1:(self==("__debug__":Str))=false)(d2:(self==("__classdict__":Str))=false)(d3:(pl==("__debug__":Str))=false)(d4:(pl==("__classdict__":Str))=false):
 ck P w K mg base cW 1 fI fd [self,pl] (qV C nm):=by
 obtain⟨oc,od,kV,doc,pm,an,NK,ct,OB,rfl,lk,NV⟩:=F.ex;refine oU lk NV Sc (λvs H Q E ⟨_,_,_,e,_⟩=>by rw[e];rfl) (λA outer s H vs Q E hr h=>?_);obtain⟨e,n,t,rfl,he,q⟩:=h;refine⟨_,dQ,?_⟩;rw[hb];refine n5 (mW sD) ?_;intro NI s1 I;obtain⟨cd,hk,hm,hh⟩:=c.cls;have hp1:=bD (X:=aT cW P w K mg base [self,pl] y (ak st) fI NK A outer s H E) (i:=1) (x:=pl) (pos:=p3) rfl hv2 d3 d4 NI s1 (L2.start [self,pl] [.ref e,.int n]) H (λu H'=>u= .int n/\H'=H) I ⟨.int n,rfl,rfl,rfl⟩;refine plainObj_wpAny_Assign_Attribute (aJ hp1 λu s2 ⟨y,H1,I1,ry,e1,e2⟩=>?_) (hs _);subst e1 e2;have hp2:=bD (X:=aT cW P w K mg base [self,pl] _ (ak st) fI NK A outer s H1 E) (i:=0) (x:=self) (pos:=p1) rfl hv1 d1 d2 NI s2 (L2.start [self,pl] [.ref e,.int n]) H1 (λu H'=>u= .ref e/\H'=H1) I1 ⟨.ref e,rfl,rfl,rfl⟩;refine aJ hp2 λov s3 ⟨y2,H2,I2,ry2,e3,e4⟩=>?_;subst e3 e4;obtain rfl:ov=MF e:=ry2;have PX:s3.heap.get? e=some (dE C t):=(I2.NN e _ he).1;refine z8 (K:=K) (cd:=cd) (CE:=CE) I2.cO PX rfl rfl rfl c.sa hk hm hh c.no λh' q1 q2 q3=>?_;have I3:=Inv.stored (nm:=nm) (tk:=s3.toks+2) I2 he ry q1 q2 q3;exact⟨_,_,I3,q _ (I2.NN.fresh (JI _)) λz=>by have:=I2.NN.fresh (a:=s3.heap.objs.size) (JI _);rw[z,he] at this;cases this⟩
theorem bT.drop (k:bT P w (upd H e (dy e o)) h)(h0:H e=none):bT P w H h:=λb u q=>by
 have hb:b≠e:=λz=>by rw[z,h0] at q;cases q
 have q2:upd H e (dy e o) b=some u:=(aB hb).trans q;refine(k b u q2).fC (λc v _ r=>r) (λc r=>?_) λc xs r=>?_
 ·by_cases z:c=e
  ·rw[z,aD] at r;cases r
  ·rw[aB z] at r;exact r
 ·by_cases z:c=e
  ·rw[z,aD] at r;cases r
  ·rw[aB z] at r;exact r
theorem Inv.drop (I:Inv X NI σ (upd H e (dy e o)) s)(h0:H e=none):Inv X NI σ H s:=by
 have le:∀b,upd H e (dy e o) b=none->H b=none:=λb q=>by
  by_cases z:b=e
  ·rw[z];exact h0
  ·rw[aB z] at q;exact q
 have un:∀b u,upd H e (dy e o) b=some u->(∀φ,u≠ .ext φ)->H b=some u:=λb u q n=>by
  by_cases z:b=e
  ·rw[z,aD] at q;cases q;exact Ny rfl (n _)
  ·rw[aB z] at q;exact q
 refine⟨I.ok,I.os,I.bare,⟨I.base.keep,I.base.slot,λb u q n x=>le b (I.base.free b u q n x),I.base.there,λb xs q=>un b _ (I.base.N9 b xs q) (λ_ z=>by cases z),λb o' u q=>un b _ (I.base.N7 b o' u q) (λ_ z=>by cases z),λb ps q=>?_⟩,I.loc,I.cell,le _ I.free,λx c q=>le _ (I.NZ x c q),λp hp=>?_,bT.drop I.NN h0,I.len⟩
 ·obtain⟨more,r⟩:=I.base.Oa b ps q;exact⟨more,un b _ r (λ_ z=>by cases z)⟩
 ·obtain⟨a1,a2,a3⟩:=I.pin p hp;exact⟨a1,le _ a2,a3⟩
theorem z7 {N:Addr}{m:Hq}{n:Str}(X:K.In h)(G:h.Ns N m)(e:MP K N n=some (some v)):m n=some v:=by
 obtain⟨o,es,ep,ho,hd,_,hf⟩:=G;unfold MP at e;split at e
 ·rename_i oc od es' n' sl hl;have z:=(X _ _ hl).symm.trans ho;cases z
  cases hd
  split at e
  ·rename_i en Sg;cases e
   rw[← hf n];unfold nsFind findBy;rw[← Array.find?_toList,Sg];rfl
  ·split at e<;>cases e
 ·cases e
theorem yQ {pl:Str}{CE:Addr}{u:Value}(c:jE X.K X.mg x nm C CE fI)(FI:ck X.prog X.w X.K X.mg X.base cW 1 fI fd [self,pl] (qV C nm))(hb:Binds X.K fd [self,pl] [])(hr:bz 2 X.A)(I:Inv X NI σ H s)(rv:RelV (.int n) u)(h:∀e dx t s',H e=none->H dx=none->dx≠e->s.heap.get? e=none->s'.heap.get? e=some (gx (dE C t) dx)->Inv X NI σ (upd H dx (.xd [(nm,.int n)])) s'->Q (.ref e) s'):wpAny (model X.prog X.w) X.A (call (.ref C) [u]) Q Ex s:=by
 obtain⟨nm',bs,ns,qn,sn,sub,ab,col,dd,k0,k1,k2,k3,k5,hC,NN,hni⟩:=c.lk;have KX:=I.cO;obtain⟨hp,g,d,t,os⟩:=s;have hN:hp.Ns ns (hp.nsMap ns):=.of_isNs (PySem.W.isNs_of_in KX NN);have hini:hp.nsMap ns "__init__"=some (.ref fI):=z7 KX hN hni;obtain⟨oI,Si,Sh⟩:∃oI,hp.get? fI=some oI/\oI.cls= .type "function":=by
  have q:PySem.W.typeIn X.K (.ref fI)=some (.type "function"):=beq_iff_eq.mp c.fn;obtain⟨o,ho,hc⟩:=JZ.mp q;exact⟨o,KX _ _ ho,hc⟩
 refine uA PySem.F.excBase_ValueError (PySem.W.tail_of_in KX c.tl) (KX _ _ hC) hN hini Si Sh (λh' e hm hz=>?_) (by show 1<=Ke;decide);obtain⟨tt,he,htn,ht⟩:=hm.there;have fe:H e=none:=I.NN.fresh hz;have I1:Inv X NI σ (upd H e (dy e (dE C tt))) ⟨h',g,d,t,os⟩:=I.laid (a:=e) (o:=dy e (dE C tt)) (t':=t) hm.keeps hz (pz he);have r2:Vals [V.ref e,V.int n] [MF e,u]:=.cons rfl (.cons rv .nil);have sp:qV C nm [V.ref e,V.int n] (upd H e (dy e (dE C tt))) (λv H2=>v= .NS/\∃dx,(upd H e (dy e (dE C tt))) dx=none/\dx≠e/\H2=upd (upd (upd H e (dy e (dE C tt))) dx (.xd [(nm,.int n)])) e (dy e (gx (dE C tt) dx))) (λ_ _ _=>False):=⟨e,n,tt,rfl,aD,λdx h1 h2=>⟨rfl,dx,h1,h2,rfl⟩⟩;refine K9 (K6 (FI.run _ X.stack ⟨h',g,d,t,os⟩ _ ⟨[MF e,u],[]⟩ [MF e,u] _ _ _ ((hr.make C [u] [])) (I1.tW.make C [u] []) (hb _ [MF e,u] I1.cO rfl) r2 sp) λr s' hq=>?_);cases r with
 | error ev=>exact HP hq
 | ok fl=>
   cases fl with
   | ret v=>
     obtain⟨y,H2,I3,ry,rfl,dx,g1,g2,rfl⟩:=I1.after hq;have g1:H dx=none:=by rw[aB g2] at g1;exact g1
     have e3:upd (upd (upd H e (dy e (dE C tt))) dx (.xd [(nm,.int n)])) e (dy e (gx (dE C tt) dx))=upd (upd H dx (.xd [(nm,.int n)])) e (dy e (gx (dE C tt) dx)):=by
      funext b;by_cases z:b=e
      ·subst z;rw[aD,aD]
      ·rw[aB z,aB z];by_cases z2:b=dx
       ·subst z2;rw[aD,aD]
       ·rw[aB z2,aB z2,aB z]
     rw[e3] at I3;refine⟨ry,h e dx tt s' fe g1 g2 hm.new ((I3.NN e _ aD).1) (Inv.drop I3 ((aB (JX g2)).trans fe))⟩
   | next=>exact HP hq
   | brk=>exact HP hq
   | cont=>exact HP hq
def bS (P:Kh)(w:World):h7:=λouter H s E ev s'=>∃e T cls dx H',ev= .ref e/\s'.os=s.os/\J7 s'.gens/\Un (bA outer) [] H H' s.heap s'.heap/\bT P w H' s'.heap/\sj s.heap s'.heap H' e T cls/\(∃oe,s'.heap.get? e=some oe/\oe.dict=some dx)/\E cls (some dx) H'
end
variable {qual:Str}{scope:Scope}{f:Addr}{cd:Value}{A:Kj}{outer:List Env}
section
variable {N:Ht}{E:XK}
theorem oJ {H1 H2:Hp}{s1 s2:Kc}{e dx t:Addr}(I1:Inv (aT (bS P w) P w K mg base N qual scope f cd A outer s H E) NI σ H1 s1)(ne:s1.heap.get? e=none)(fe:H2 e=none)(I2:Inv (aT (bS P w) P w K mg base N qual scope f cd A outer s H E) NI σ H2 s2)(he:s2.heap.get? e=some (gx (dE C t) dx))(q:E (.ref C) (some dx) H2):(aT (bS P w) P w K mg base N qual scope f cd A outer s H E).xe (.ref e) s2:=by
 have O6:s2.heap.FunFrames base (J4 qual scope s.heap.objs.size f cd::outer):=I2.stack;have Rh:∀b∈bA (J4 qual scope s.heap.objs.size f cd::outer),H2 b=none:=I2.gJ;have Qa:s2.heap.FunFrames (MV s2.heap (e::bA (J4 qual scope s.heap.objs.size f cd::outer))) (J4 qual scope s.heap.objs.size f cd::outer):=iH O6 λb hb=>Ia _ hb;show wpAny (model P w) (A.deeper (J4 qual scope s.heap.objs.size f cd)) (leaving (J4 qual scope s.heap.objs.size f cd) (.ref e)) _ _ _;refine Kl (fm (jM _ _) (wpAny_leaving_firstW (Q:=λ_ s'=>∃h',s'={s2 with heap:=h'}/\Heap.LeftW (MV s2.heap (e::bA (J4 qual scope s.heap.objs.size f cd::outer))) (J4 qual scope s.heap.objs.size f cd::outer) e (.ref C) (.ref t) s2.heap h') (a0:=.ref t) I2.ok.frames Qa rfl he (λb o z=>Nb _ z) (MZ _ Ic) rfl rfl rfl λh' hL=>⟨h',rfl,hL⟩)) (λ_ s' hq=>?_) λ_ _ z=>z;obtain⟨⟨h',rfl,st,QZ,⟨oe,vs,T,oT,ts,Q1,hc,hd,h1,hnT,Rn,hT,Rk,h3⟩,up⟩,kd⟩:=hq;have keep:∀b o,s2.heap.get? b=some o->b∉bA (J4 qual scope s.heap.objs.size f cd::outer)->b≠e->h'.get? b=some o:=λb o r hb n=>st b o (M8 _ r λz=>by
  rcases Ih.mp z with z | z
  ·exact n z
  ·exact hb z)
 have Qe:∀b o,s2.heap.get? b=some o->b∈bA (J4 qual scope s.heap.objs.size f cd::outer)->∃sl,h'.get? b=some {o with slots:=sl}:=λb o r hb=>by
  obtain⟨_,o2,r2,nf⟩:=Qa.mem hb;rw[r] at r2;cases r2
  exact up b o r nf
 have b1:Un (bA outer) [] H H1 s.heap s1.heap:=I1.base;have b2:Un (bA outer) [] H H2 s.heap s2.heap:=I2.base;have ne0:s.heap.get? e=none:=dC b1 ne;have nb:∀b o,s.heap.get? b=some o->b≠e:=λb o r z=>by rw[z,ne0] at r;cases r
 have nfr:∀b o,s.heap.get? b=some o->b∉bA outer->b∉bA (J4 qual scope s.heap.objs.size f cd::outer):=λb o r hb z=>by
  have z':b∈(J4 qual scope s.heap.objs.size f cd::outer).filterMap (·.frame):=z;rw[Iv] at z';rcases Ih.mp z' with y | y
  ·have:=Mo r;rw[y] at this;exact Ny this (JP _)
  ·exact hb y
 have sub:∀b,b∈bA outer->b∈bA (J4 qual scope s.heap.objs.size f cd::outer):=λb z=>by
  show b∈(J4 qual scope s.heap.objs.size f cd::outer).filterMap (·.frame);rw[Iv];exact Ia _ z
 have un2:Un (bA outer) [] H H2 s.heap h':=⟨λb o r n hb hx=>keep b o (b2.keep b o r n hb hx) (nfr b o r hb) (nb b o r),λb o r n hb hx=>by
  obtain⟨sl,r2⟩:=b2.slot b o r n hb hx;obtain⟨P6,r3⟩:=Qe b _ r2 (sub b hb);exact⟨P6,r3⟩,b2.free,λb o r hx=>by
  obtain⟨o',r2⟩:=b2.there b o r hx;by_cases z:b∈bA (J4 qual scope s.heap.objs.size f cd::outer)
  ·obtain⟨sl,r3⟩:=Qe b o' r2 z;exact⟨_,r3⟩
  ·exact⟨o',keep b o' r2 z (nb b o r)⟩,b2.N9,b2.N7,b2.Oa⟩
 have hok2:bT P w H2 h':=λb x qx=>by
  refine(I2.NN b x qx).fC (λc v Pz r=>?_) (λ_ r=>r) λ_ _ r=>r;have hcn:H2 c≠none:=by
   rcases Pz with rfl | Pz
   ·rw[qx];exact JY _
   ·rw[Pz];exact JY _
  exact keep c v r (λz=>hcn (Rh c z)) λz=>hcn (z▸fe)
 obtain⟨oe',r1,r2⟩:=kd e _ he;have nT2:s2.heap.get? T=none:=by
  cases r:s2.heap.get? T with
  | none=>rfl
  | some o=>
    exfalso;by_cases z:T∈e::bA (J4 qual scope s.heap.objs.size f cd::outer)
    ·rcases Ih.mp z with z | z
     ·exact Rn z
     ·obtain⟨_,o2,r3,nf⟩:=Qa.mem z;rw[r] at r3;cases r3
      obtain⟨sl,r4⟩:=Qe T o r z;rw[hT] at r4;cases r4
      exact nf ts Rk
    ·rw[M8 _ r z] at hnT;cases hnT
 exact⟨e,T,.ref C,dx,H2,rfl,I2.os,I2.bare,un2,hok2,⟨⟨oe,vs,oT,ts,_,Q1,hc,hd,h1,Rn,hT,Rk,h3⟩,ne0,dC b2 nT2,fe,bT.none_of I2.NN nT2⟩,⟨oe',r1,r2⟩,q⟩
end
inductive pN
 | ret (T:RT)
 | exc (cls:Value) (fs:List (Str×V))
abbrev gN:=MO->List Pk->pN->Prop
def pN.meets (H R:Hp)(Q:VK)(E:XK):pN->Prop
 | .ret T=>∀v H' R',Ext H R H' R'->T H v H' R'->Q v H'
 | .exc c fs=>∀H' R' dx,Ext H R H' R'->H dx=none->R' dx=some (.xd fs)->E c (some dx) H'
def fX (S:gN)(K:MO):Sp:=λvs H Q E=>∃R ps o,ay R H/\hU K R vs ps/\S K ps o/\o.meets H R Q E
structure gm (P:Kh)(w:World)(K:MO)(mg:Hq)(base:Heap)(x:Str)(k:Nat)(sp:Sp):Prop where
 ex:∃f fd ps,ck P w K mg base (bS P w) k f fd ps sp/\mg x=some (.ref f)/\MT K (.ref f)=true/\Binds K fd ps []
variable {S:gN}
theorem lK {N ps:Ht}{k:Nat}(F:cY K x qual st f fd)(Sc:bq N ps (ak st))(hm:mg x=some (.ref f))(hb:Binds K fd ps [])(len:∀qs o,S K qs o->qs.length=ps.length)(OP:∀qs T,¬S K qs (.ret T))(Q0:∀(NK:Value)(A:Kj)(outer:List Env)(s:Kc)(H R:Hp)(E:XK)(qs:List Pk)(c:Value)(fs:List (Str×V)),bz k (A.deeper (J4 qual (ak st) s.heap.objs.size f NK))->S K qs (.exc c fs)->(∀H' R' dx,Ext H R H' R'->H dx=none->R' dx=some (.xd fs)->E c (some dx) H')->
  RS (aT (bS P w) P w K mg base N qual (ak st) f NK A outer s H E) H R (ba st) (eh qs N.length)):gm P w K mg base x (k+1) (fX S K):=by
 obtain⟨oc,od,kV,doc,pm,an,NK,ct,OB,rfl,lk,NV⟩:=F.ex;refine⟨f,_,ps,?_,hm,F.kp,hb⟩;refine oU lk NV Sc (λvs H Q E h=>?_) (λA outer s H vs Q E hr h=>?_)
 ·obtain⟨R,qs,o,_,p,hS,_⟩:=h;rw[p.length];exact len qs o hS
 ·obtain⟨R,qs,o,sR,p,hS,q⟩:=h;have hl:qs.length<=N.length:=by
   rw[len qs o hS];have:=congrArg List.length Sc.pre;rw[Im] at this;omega
  cases o with
  | ret T=>exact Ny hS (OP qs T)
  | exc c fs=>exact⟨_,dQ,Q0 NK A outer s H R E qs c fs hr hS q (L2.start N vs) H R (eK sR p hl) _⟩
variable {Γ Γ1:Ga}{cp pos:Pos}{a:Expr}{rest:List Stmt}
section
variable {N:Ht}{R:Hp}{E:XK}
theorem wd {pl:Str}{CE fI:Addr}{Qo:Kn}{np:Pos}(c:jE K mg x nm C CE fI)(FI:ck P w K mg base cW 1 fI Qo [self,pl] (qV C nm))(hb:Binds K Qo [self,pl] [])(hr:bz 2 (A.deeper (J4 qual scope s.heap.objs.size f cd)))(ha:HA (aT (bS P w) P w K mg base N qual scope f cd A outer s H E).bV [a] Γ [⟨ai,n⟩] Γ1)(q:∀H' R' dx,Ext H R H' R'->H dx=none->R' dx=some (.xd [(nm,.int n)])->E (.ref C) (some dx) H')(hg:Gl (aT (bS P w) P w K mg base N qual scope f cd A outer s H E) x:=by rfl)(Om:N3 x:=by decide)(he:Kf [a] (aT (bS P w) P w K mg base N qual scope f cd A outer s H E).env=(false,eval a (aT (bS P w) P w K mg base N qual scope f cd A outer s H E).env)::Kf [] (aT (bS P w) P w K mg base N qual scope f cd A outer s H E).env:=by rfl):
 RS (aT (bS P w) P w K mg base N qual scope f cd A outer s H E) H R (.Raise (some (.Call (.Name x np) [a] [] cp)) none pos::rest) Γ:=λσ H1 R1 EO D NI s1 I=>by
 refine Kt ?_;obtain⟨nm',bs,ns,qn,sn,sub,ab,col,dd,k0,k1,k2,k3,k5,hC,NN,hni⟩:=c.lk;rw[arm_exec_Raise];simp only[evalOpt,Option.map];refine Kb (Le (tD (C:=C) (bm:=.ref CE::gp) (hdct:=true) (newId:="ValueError.__new__") (nm:=nm') (q:=qn) (N:=ns) (bs:=bs) (sn:=sn) (sub:=sub) (ab:=ab) (col:=col) (dd:=dd) (k0:=k0) (k1:=k1) (k2:=k2) (k3:=k3) (k5:=k5) (by rw[List.contains_cons,show gp.contains (.type "BaseException")=true by decide,HN]) (I.ok.hd rfl) (Kb (Kl ?_ (λv s3 h3=>Kb (Le (Kg h3))) λ_ _ x=>x))));refine KI (gF I hg c.bound ?_ Om);refine Nc (h₀:=base) I.ok.mod.Q9 c.kp (aJ (jD.bV (ha σ H R H1 R1 EO (λvs H2=>∃R2,aA K σ H R H2 R2 Γ1/\ay R1 R2/\hU K R2 vs [⟨ai,n⟩]) λvs H2 R2 E2 s2 p2=>⟨R2,E2,s2,p2⟩) _ cp NI s1 I) λus s2 ⟨vs,H2,I2,r,R2,E2,sR,p2⟩=>⟨I2.cO,?_⟩) he rfl;cases p2 with
 | cons a2 t2=>
   cases t2
   cases a2
   obtain⟨u,rfl,ru⟩:=vals1 r;refine yQ (X:=aT (bS P w) P w K mg base N qual scope f cd A outer s H E) c FI hb hr I2 ru λe dx t s' fe fd nde ne he' I3=>?_;refine⟨e,_,t,rfl,I3.cO _ _ hC,he',rfl,rfl,?_⟩;exact oJ I2 ne ((aB (JX nde)).trans fe) I3 he' (q _ (upd R2 dx (.xd [(nm,.int n)])) dx (E2.ext.trans (Ext.fresh E2.sub fd _)) (E2.ext.h.free fd) aD)
theorem jw {H1 H':Hp}{s1 s':Kc}{e T dx:Addr}{cls:Value}(I1:Inv (aT (bS P w) P w K mg base N qual scope f cd A outer s H E) NI σ H1 s1)(ho:s'.os=s1.os)(bare:J7 s'.gens)(un:Un (bA (aT (bS P w) P w K mg base N qual scope f cd A outer s H E).stack) [] H1 H' s1.heap s'.heap)(NN:bT P w H' s'.heap)(Of:sj s1.heap s'.heap H' e T cls)(OR:∃oe,s'.heap.get? e=some oe/\oe.dict=some dx)(q:E cls (some dx) H'):
 (aT (bS P w) P w K mg base N qual scope f cd A outer s H E).xe (.ref e) s':=by
 have O6:s1.heap.FunFrames base (J4 qual scope s.heap.objs.size f cd::outer):=I1.stack;have OZ:∀b∈bA (J4 qual scope s.heap.objs.size f cd::outer),H1 b=none:=I1.gJ;have un:Un (bA (J4 qual scope s.heap.objs.size f cd::outer)) [] H1 H' s1.heap s'.heap:=un;have Rh:∀b∈bA (J4 qual scope s.heap.objs.size f cd::outer),H' b=none:=λb hb=>by
  obtain⟨_,o,r,_⟩:=O6.mem hb;exact un.free b o r (OZ b hb) Il
 have hsl:∀b∈bA (J4 qual scope s.heap.objs.size f cd::outer),∀o,s1.heap.get? b=some o->∃sl,s'.heap.get? b=some {o with slots:=sl}:=λb hb o r=>un.slot b o r (OZ b hb) hb Il;have Qa:s'.heap.FunFrames (MV s'.heap (e::T::bA (J4 qual scope s.heap.objs.size f cd::outer))) (J4 qual scope s.heap.objs.size f cd::outer):=
  gT (h0:=s'.heap) (fs:=e::T::bA (J4 qual scope s.heap.objs.size f cd::outer)) O6 hsl λb hb=>Ia _ (Ia _ hb)
 obtain⟨oe,vs,oT,ts,a0,he,hc,hd,h1,Rn,hT,Rk,h3⟩:=Of.ex;have Ri:Mu (MV s'.heap (e::T::bA (J4 qual scope s.heap.objs.size f cd::outer))) (J4 qual scope s.heap.objs.size f cd::outer) e cls a0 s'.heap:=
  ⟨λb o z=>Nb _ z,MZ _ Ic,Qa,oe,vs,T,oT,ts,he,hc,hd,h1,MZ _ (Ia _ Ic),Rn,hT,Rk,h3⟩
 show wpAny (model P w) (A.deeper (J4 qual scope s.heap.objs.size f cd)) (leaving (J4 qual scope s.heap.objs.size f cd) (.ref e)) _ _ _;refine Kl (fm (jM _ _) (wpAny_leaves_onW (Q:=λ_ s2=>∃h',s2={s' with heap:=h'}/\Mu (MV s'.heap (e::T::bA (J4 qual scope s.heap.objs.size f cd::outer))) outer e cls a0 h'/\s'.heap.UpToSlots h') I1.ok.frames rfl Ri λh' fl up=>⟨h',rfl,fl,up⟩)) (λ_ s2 hq=>?_) λ_ _ z=>z;obtain⟨⟨h',rfl,⟨st,Sj,QZ,oe2,vs2,T2,oT2,ts2,Q1,hc2,hd2,h12,RY,Sx,Ro,Sn,h32⟩,up⟩,kd⟩:=hq;have Qe:∀b o,s'.heap.get? b=some o->b∈bA (J4 qual scope s.heap.objs.size f cd::outer)->∃sl,h'.get? b=some {o with slots:=sl}:=λb o r hb=>by
  obtain⟨_,o2,r2,nf⟩:=Qa.mem hb;rw[r] at r2;cases r2
  exact up b o r nf
 obtain⟨u2,ok2⟩:=pP un NN Of Rh st Qe;have Pt:Un (bA outer) [] H H1 s.heap s1.heap:=I1.base;have un2:Un (bA outer) [] H H' s.heap h':=by
  refine Un.shrink ((Pt.mono (fs':=bA (J4 qual scope s.heap.objs.size f cd::outer)) (λb z=>?_) λ_ z=>z).trans u2) λb o r z=>?_
  ·show b∈(J4 qual scope s.heap.objs.size f cd::outer).filterMap (·.frame);rw[Iv];exact Ia _ z
  ·have z':b∈(J4 qual scope s.heap.objs.size f cd::outer).filterMap (·.frame):=z;rw[Iv] at z';rcases Ih.mp z' with y | y
   ·have:=Mo r;rw[y] at this;exact Ny this (JP _)
   ·exact y
 have tc:T2=T∨s'.heap.get? T2=none:=by
  cases r:s'.heap.get? T2 with
  | none=>exact .inr rfl
  | some o=>
    left;by_cases z:T2∈e::T::bA (J4 qual scope s.heap.objs.size f cd::outer)
    ·rcases Ih.mp z with z | z
     ·exact Ny z Sx
     ·rcases Ih.mp z with z | z
      ·exact z
      ·exfalso;obtain⟨_,o2,r2,nf⟩:=Qa.mem z;rw[r] at r2;cases r2
       obtain⟨sl,r3⟩:=Qe T2 o r z;rw[Ro] at r3;cases r3
       exact nf ts2 Sn
    ·rw[M8 _ r z] at RY;cases RY
 have nT2:s.heap.get? T2=none:=by
  rcases tc with z | z
  ·rw[z];exact dC Pt Of.nT
  ·exact dC Pt (dC un z)
 have fT2:H' T2=none:=by
  rcases tc with z | z
  ·rw[z];exact Of.fT
  ·exact bT.none_of NN z
 obtain⟨oeD,g1,g2⟩:=OR;obtain⟨o',r1,r2⟩:=kd e _ g1;exact⟨e,T2,cls,dx,H',rfl,ho.trans I1.os,bare,un2,ok2,⟨⟨oe2,vs2,oT2,ts2,a0,Q1,hc2,hd2,h12,Sx,Ro,Sn,h32⟩,dC Pt Of.ne,nT2,Of.fe,fT2⟩,⟨o',r1,r2.trans g2⟩,q⟩
end
variable {e:Expr}{es:Hx}{p:Pos}{ps:List Pk}
theorem nX {k:Nat}{cls:Value}{fs:List (Str×V)}{H0 R0 R:Hp}(C:gm X.prog X.w X.K X.mg X.base x k (fX S X.K))(hr:bz k X.A)(ha:HA X.bV (e::es) Γ ps Γ1)(hS:S X.K ps (.exc cls fs))(E:aA X.K σ H0 R0 H R Γ)(I:Inv X NI σ H s)(q:∀s1 H1 ea T dx H' R' s',Inv X NI σ H1 s1->s'.os=s1.os->J7 s'.gens->Un (bA X.stack) [] H1 H' s1.heap s'.heap->bT X.prog X.w H' s'.heap->sj s1.heap s'.heap H' ea T cls->(∃oe,s'.heap.get? ea=some oe/\oe.dict=some dx)->H0 dx=none->R' dx=some (.xd fs)->aA X.K σ H0 R0 H' R' Γ1->ay R R'->Ex (.ref ea) s')(hg:Gl X x)(Om:(x==("__debug__":Str))=false)(he:Kf (e::es) X.env=(false,eval e X.env)::Kf es X.env)(N8:(Ko pos (Kf es X.env)).any (·.1)=false):
 wpAny (model X.prog X.w) X.A (eval (.Call (.Name x p) (e::es) [] pos) X.env) Q Ex s:=by
 obtain⟨f,fd,pn,F,hm,hk,hb⟩:=C.ex;refine KI (gF I hg hm ?_ Om);refine Nc (h₀:=X.base) I.ok.mod.Q9 hk (aJ (jD.bV (ha σ H0 R0 H R E (λvs H1=>∃R1,aA X.K σ H0 R0 H1 R1 Γ1/\ay R R1/\hU X.K R1 vs ps) λvs H1 R1 E1 s1 p1=>⟨R1,E1,s1,p1⟩) Ex pos NI s I) λus s1 ⟨vs,H1,I1,r,R1,E1,sR,p1⟩=>⟨I1.cO,?_⟩) he N8;have r2:Vals (vs++[]) (us++[]):=by rw[Ip,Ip];exact r
 have sp:fX S X.K (vs++[]) H1 (λ_ _=>False) (λc od H'=>c=cls/\∃dx R',od=some dx/\Ext H1 R1 H' R'/\H1 dx=none/\R' dx=some (.xd fs)):=⟨R1,ps,.exc cls fs,E1.sub,by rw[Ip];exact p1,hS,λH' R' dx xx h1 h2=>⟨rfl,dx,R',rfl,xx,h1,h2⟩⟩;have hl:(us++[]).length=pn.length:=by rw[← r2.length];exact F.len _ _ _ _ sp
 refine K9 (K6 (F.run X.A X.stack s1 H1 ⟨us,[]⟩ (us++[]) (vs++[]) _ _ hr I1.tW (hb s1 us I1.cO hl) r2 sp) λr s' hq=>?_);cases r with
 | error ev=>
   obtain⟨ea,T,c,dx,H',rfl,ho,bare,un,NN,Of,OR,rfl,dx',R',e1,xx,h1,h2⟩:=hq;cases e1
   exact q s1 H1 ea T dx H' R' s' I1 ho bare un NN Of OR (E1.ext.h.free h1) h2 (E1.grow xx) (sR.trans xx.r)
 | ok fl=>
   cases fl with
   | ret u=>obtain⟨_,_,_,_,_,_,_,z⟩:=hq;exact z.elim
   | next=>exact HP hq
   | brk=>exact HP hq
   | cont=>exact HP hq
section
variable {N:Ht}{R:Hp}{E:XK}
theorem kT {k:Nat}{cls:Value}{fs:List (Str×V)}(C:gm P w K mg base x k (fX S K))(hr:bz k (A.deeper (J4 qual scope s.heap.objs.size f cd)))(ha:HA (aT (bS P w) P w K mg base N qual scope f cd A outer s H E).bV (e::es) Γ ps Γ1)(hS:S K ps (.exc cls fs))(q:∀H' R' dx,Ext H R H' R'->H dx=none->R' dx=some (.xd fs)->E cls (some dx) H')(hg:Gl (aT (bS P w) P w K mg base N qual scope f cd A outer s H E) x:=by rfl)(Om:N3 x:=by decide)(he:Kf (e::es) (aT (bS P w) P w K mg base N qual scope f cd A outer s H E).env=(false,eval e (aT (bS P w) P w K mg base N qual scope f cd A outer s H E).env)::Kf es (aT (bS P w) P w K mg base N qual scope f cd A outer s H E).env:=by rfl)(N8:(Ko pos (Kf es (aT (bS P w) P w K mg base N qual scope f cd A outer s H E).env)).any (·.1)=false:=by rfl):RX (aT (bS P w) P w K mg base N qual scope f cd A outer s H E) H R (.Call (.Name x p) (e::es) [] pos) Γ:=λσ H1 R1 EO Q NI s1 I=>
 nX (X:=aT (bS P w) P w K mg base N qual scope f cd A outer s H E) C hr ha hS EO I (λs2 H2 ea T dx H' R' s' I2 ho bare un NN Of OR h1 h2 E' sR=>jw I2 ho bare un NN Of OR (q H' R' dx E'.ext h1 h2)) hg Om he N8
end
theorem Inv.Ei {e:Addr}{vs:Array Value}(I:Inv X NI σ H s)(h0:H e=none)(he:s.heap.get? e=some o)(hd:o.data= .fields vs)(hx:X.s₀.heap.get? e=none)(hl:e≠X.env.locals)(hp:∀p∈X.pn++NI,p.1≠e):Inv X NI σ (upd H e (dy e o)) s:=by
 have ne:∀b,b≠e->H b=none->upd H e (dy e o) b=none:=λb z q=>(aB z).trans q;have up:∀b u,H b=some u->upd H e (dy e o) b=some u:=λb u q=>(aB λz=>by rw[z,h0] at q;cases q).trans q
 refine⟨I.ok,I.os,I.bare,⟨I.base.keep,I.base.slot,λb u q n x=>ne b (λz=>by rw[z,hx] at q;cases q) (I.base.free b u q n x),I.base.there,λb xs q=>up _ _ (I.base.N9 b xs q),λb o' u q=>up _ _ (I.base.N7 b o' u q),λb ps q=>?_⟩,I.loc,I.cell,ne _ (JX hl) I.free,λx c q=>ne _ (λz=>?_) (I.NZ x c q),λp hp'=>?_,λb u q=>?_,I.len⟩
 ·obtain⟨more,r⟩:=I.base.Oa b ps q;exact⟨more,up _ _ r⟩
 ·obtain⟨v,ho⟩:=I.cell x c q;obtain⟨ob,hob,Rm⟩:=ho;rw[z,he] at hob;cases hob
  rw[hd] at Rm;cases Rm
 ·obtain⟨a1,a2,a3⟩:=I.pin p hp';exact⟨a1,ne _ (hp p hp') a2,a3⟩
 ·by_cases z:b=e
  ·subst z;rw[aD] at q;cases q
   exact pz he
  ·rw[aB z] at q;exact(I.NN b u q).fC (λc v _ r=>r) (λc r=>up _ _ r) λc xs r=>up _ _ r
variable {j:Nat}
theorem yP {cls:Value}{H1 H':Hp}{s1 s':Kc}{e T dx:Addr}{Q:Flow->Kc->Prop}{ce n:Str}{CE:Addr}{np p3 hp:Pos}{i:Nat}(I1:Inv X NI σ H1 s1)(ho:s'.os=s1.os)(bare:J7 s'.gens)(un:Un (bA X.stack) [] H1 H' s1.heap s'.heap)(NN:bT X.prog X.w H' s'.heap)(Of:sj s1.heap s'.heap H' e T cls)(OR:∃oe,s'.heap.get? e=some oe/\oe.dict=some dx)(O6:X.stack=X.env::X.outer)(hef:X.env.frame=some X.env.locals)(hm:X.mg ce=some (.ref CE))(hx:Nj X.K cls (.ref CE)=some true)(hg:Gl X ce)(Om:(ce==("__debug__":Str))=false)(hN:X.N.Nodup)(hi:X.N[i]?=some n)(hj:X.N[j]?=some y)(N4:X.env.scope.names.lookup n=some .local)(Se:X.env.scope.names.lookup y=some .local)(hs:Km (.Name n p2) (some (.Name y p1)) p3.line X.env=pure false)(hnd:(n==("__debug__":Str))=false)(hnc:(n==("__classdict__":Str))=false)(q:∀oe vs s6,oe.cls=cls->oe.data= .fields vs->oe.dict=some dx->s6.heap.get? e=some oe->e≠X.env.locals->Inv X NI (((σ.set i (some (.ref e))).set j (some (.ref e))).set i none) H' s6->Q .next s6):
 wpAny (model X.prog X.w) X.A (noteFrame (.ref e) X.env) (λ_ s₂=>wpAny (model X.prog X.w) X.A (setFlight (.ref e) none) (λ_ s₃=>
  wpAny (model X.prog X.w) X.A (handleBy (.ref e) X.env [.ExceptHandler (some (.Name ce np)) (some n) [.Assign [.Name y p1] (.Name n p2) p3] hp]) Q X.xe s₃) X.xe s₂) X.xe s':=by
 have hA:X.A.frames=some (X.env::X.outer):=by rw[← O6];exact I1.ok.frames
 have Rh:∀b∈bA X.stack,H' b=none:=λb hb=>by
  obtain⟨_,o,r,_⟩:=I1.stack.mem hb;exact un.free b o r (I1.gJ b hb) Il
 have hsl:∀b∈bA X.stack,∀o,s1.heap.get? b=some o->∃sl,s'.heap.get? b=some {o with slots:=sl}:=λb hb o r=>un.slot b o r (I1.gJ b hb) hb Il;have Qa:s'.heap.FunFrames (MV s'.heap (e::T::bA X.stack)) (X.env::X.outer):=by
  have:=gT (h0:=s'.heap) (fs:=e::T::bA X.stack) I1.stack hsl λb hb=>Ia _ (Ia _ hb);rw[O6] at this ⊢;exact this
 obtain⟨oe,vs,oT,ts,a0,he,hc,hd,h1,Rn,hT,Rk,h3⟩:=Of.ex;have Ri:Mu (MV s'.heap (e::T::bA X.stack)) (X.env::X.outer) e cls a0 s'.heap:=
  ⟨λb o z=>Nb _ z,MZ _ Ic,Qa,oe,vs,T,oT,ts,he,hc,hd,h1,MZ _ (Ia _ Ic),Rn,hT,Rk,h3⟩
 have Qe:∀{h2:Heap},s'.heap.UpToSlots h2->∀b o,s'.heap.get? b=some o->b∈bA X.stack->∃sl,h2.get? b=some {o with slots:=sl}:=λ{h2} up b o r hb=>by
  have OM:b∈(X.env::X.outer).filterMap (·.frame):=by rw[← O6];exact hb
  obtain⟨_,o2,r2,nf⟩:=Qa.mem OM;rw[r] at r2;cases r2
  exact up b o r nf
 have nL:e≠X.env.locals:=λz=>by
  obtain⟨m,⟨o,_,_,r,_⟩,_⟩:=id I1.loc;rw[← z,Of.ne] at r;cases r
 have nF:e∉X.fs:=λz=>by
  have z':e∈bA X.stack:=by
   rw[O6];show e∈(X.env::X.outer).filterMap (·.frame);rw[Iv,hef];exact Ia _ z
  obtain⟨_,o,r,_⟩:=I1.stack.mem z';rw[Of.ne] at r;cases r
 refine Kl (fm (nD _ _) (wpAny_looks_onW (Q:=λ_ s₂=>∃h4,s₂={s' with heap:=h4}/\Heap.HeldW (MV s'.heap (e::T::bA X.stack)) (X.env::X.outer) e cls a0 X.env.locals h4/\s'.heap.UpToSlots h4) hA hef Ri λh4 P0 up4=>⟨h4,rfl,P0,up4⟩)) (λ_ s₂ hq4=>?_) λ_ _ z=>z;obtain⟨⟨h4,rfl,P0,up4⟩,kd4⟩:=hq4;refine Kl (fm (fH _ _) (wpAny_landsW (Q:=λ_ s₃=>∃h5,s₃={s' with heap:=h5}/\Mu (MV s'.heap (e::T::bA X.stack)) (X.env::X.outer) e cls a0 h5/\h4.UpToSlots h5) P0 λh5 SE up5=>⟨h5,rfl,SE,up5⟩)) (λ_ s₃ hq5=>?_) λ_ _ z=>z;obtain⟨⟨h5,rfl,SE,up5⟩,kd5⟩:=hq5;obtain⟨u5,ok5⟩:=pP un NN Of Rh SE.1 (Qe (up4.trans up5));have I5:Inv X NI σ H' {s' with heap:=h5}:=Inv.ud (ch:=[]) (s':={s' with heap:=h5}) I1 ho u5 ok5 bare λb z=>Ny z Il;refine wpAny_handleBy_cons (codeAny_handlers_test (gF (Inv.marked I5 (.ref e)) hg hm ?_ Om)) (by intro q;cases q)
 obtain⟨oe5,Rt,he5,hc5,hd5,_⟩:=SE.first;have LT:PySem.W.Looks (model X.prog X.w) h5 (typeOf (.ref e)) cls:=hc5▸(PySem.W.Looks.ld he5).andThen .now;refine(PySem.W.exm_one (M:=model X.prog X.w) (show X.K.In h5 from I5.cO) LT hx).here ?_;refine codeAny_handlers_suite_as (Kl (fm (fH _ _) (lands_againW (Q:=λ_ s₆=>∃h6,s₆={s' with heap:=h6}/\Mu (MV s'.heap (e::T::bA X.stack)) (X.env::X.outer) e cls a0 h6/\h5.UpToSlots h6) SE λh6 fl6 up6=>⟨h6,rfl,fl6,up6⟩)) (λ_ s₆ hq6=>?_) λ_ _ z=>z);obtain⟨⟨h6,rfl,fl6,up6⟩,kd6⟩:=hq6;obtain⟨u6,ok6⟩:=pP un NN Of Rh fl6.1 (Qe ((up4.trans up5).trans up6));have I6:Inv X NI σ H' {s' with heap:=h6}:=Inv.ud (ch:=[]) (s':={s' with heap:=h6}) I1 ho u6 ok6 bare λb z=>Ny z Il;obtain⟨Q8,vs6,he6,hc6,hd6,_⟩:=fl6.first;have Ol:Q8.dict=some dx:=by
  obtain⟨o0,g0,d0⟩:=OR;obtain⟨o4,g4,d4⟩:=kd4 e o0 g0;obtain⟨o5,g5,d5⟩:=kd5 e o4 g4;obtain⟨o6,g6,d6⟩:=kd6 e o5 g5;have g6:h6.get? e=some o6:=g6;rw[he6] at g6;cases g6
  rw[d6,d5,d4,d0]
 have I6p:Inv (jr X e Q8) NI σ H' {s' with heap:=h6}:=Inv.pinned I6 ⟨he6,Of.fe,nL,nF,λv z=>by rw[hd6] at z;cases z⟩
 refine i8 (X:=jr X e Q8) I6p hN hi (.inl N4) (v:=.ref e) rfl (λs7 I7=>?_) (.inr N4);have P7:=(gQ (X:=markX (jr X e Q8) (.ref e)) (i:=j) (pos:=p3) hN hj (.inl Se) (bD (i:=i) (pos:=p2) hi (.inl N4) hnd hnc) hs (.inr Se)) NI s7 _ H' {nx:=λσ' H2=>σ'=(σ.set i (some (.ref e))).set j (some (.ref e))/\H2=H',rt:=λ_ _=>False} (Inv.marked I7 (.ref e))
  ⟨.ref e,IG (by rw[I1.len];exact(HW.mp hi).1),rfl,rfl⟩
 refine Kt (Kl P7 (λf s8 z=>?_) λ_ _ z=>HP z);cases f with
 | next=>
   obtain⟨σ',H2,I8,rfl,rfl⟩:=z;refine KS ?_;exact uP (X:=jr X e Q8) (Inv.unmarked (λ_=>I6p.ok.hd (by assumption)) I8) hN hi N4 λs9 I9=>q Q8 vs6 s9 hc6 hd6 Ol (I9.pin _ (Ik _ Ic)).1 nL (Inv.gY I9)
 | brk=>obtain⟨_,_,_,z⟩:=z;exact z.elim
 | cont=>obtain⟨_,_,_,z⟩:=z;exact z.elim
 | ret u=>obtain⟨_,_,_,_,_,z⟩:=z;exact z.elim
def iU (C:Addr)(nm:Str):Rep Int:=⟨λ_ R v n=>∃e oe vs dx,v= .ref e/\R e=some (dy e oe)/\oe.cls= .ref C/\oe.data= .fields vs/\oe.dict=some dx/\R dx=some (.xd [(nm,.int n)]),λs ⟨e,oe,vs,dx,a,b,c,d,f,g⟩=>⟨e,oe,vs,dx,a,s _ _ b,c,d,f,s _ _ g⟩⟩
def TD (X:Cx)(OI:List Stmt)(Γ:Ga)(cls:Value)(fs:List (Str×V)):Prop:=∀(σ:St)(H0 R0 H R:Hp),aA X.K σ H0 R0 H R Γ->∀(NI:Hr)(s:Kc),Inv X NI σ H s->∀Ex:Value->Kc->Prop,
 (∀s1 H1 ea T dx H' R' s',Inv X NI σ H1 s1->s'.os=s1.os->J7 s'.gens->Un (bA X.stack) [] H1 H' s1.heap s'.heap->bT X.prog X.w H' s'.heap->sj s1.heap s'.heap H' ea T cls->(∃oe,s'.heap.get? ea=some oe/\oe.dict=some dx)->R' dx=some (.xd fs)->aA X.K σ H0 R0 H' R' Γ->ay R R'->Ex (.ref ea) s')->
 wpAny (model X.prog X.w) X.A (execs OI X.env) (λ_ _=>False) Ex s
variable {N:Ga->Prop}{T:RT}{OI:List Stmt}{tp:Pos}
section
variable {cls:Value}{fs:List (Str×V)}
theorem rE {m:Int}{ce n:Str}{np p3 p4 p5 hp:Pos}{D CE:Addr}{Pd:Int->Prop}(i j:Nat)(hb:TD X OI Γ (.ref D) [(nm,.int m)])(hPd:Pd m)(hm:X.mg ce=some (.ref CE))(hx:Nj X.K (.ref D) (.ref CE)=some true)(hij:i≠j)(hex:X.ex=[]:=by rfl)(O6:X.stack=X.env::X.outer:=by rfl)(hef:X.env.frame=some X.env.locals:=by rfl)(hN:X.N.Nodup:=by first | assumption | decide)(hi:X.N[i]?=some n:=by rfl)(hj:X.N[j]?=some y:=by rfl)(N4:X.env.scope.names.lookup n=some .local:=by rfl)(Se:X.env.scope.names.lookup y=some .local:=by rfl)(hg:Gl X ce:=by rfl)(hs:Km (.Name n p2) (some (.Name y p1)) p3.line X.env=pure false:=by rfl)(d1:N3 ce:=by decide)(d3:N3 n:=by decide)(d4:Ov n:=by decide)(d5:N3 y:=by decide)(d6:Ov y:=by decide):
 WS X [.Try OI [.ExceptHandler (some (.Name ce np)) (some n) [.Assign [.Name y p1] (.Name n p2) p3] hp] [] [] tp,.Return (some (.Name y p4)) p5] Γ N (bM X.K (iU D nm) Pd):=by
 intro σ H0 R0 H R E Dn dn dr NI s I;refine Kt (wpAny_Try_except (Kl (hb σ H0 R0 H R E NI s I _ λs1 H1 ea T dx H' R' s' I1 ho bare un NN Of OR hR E' sR=>?_) (λ_ _ z=>z.elim) λ_ _ z=>z));refine yP I1 ho bare un NN Of OR O6 hef hm hx hg d1 hN hi hj N4 Se hs d3 d4 λoe vs s6 hc hd Ol he6 nL I6=>?_;have hx0:X.s₀.heap.get? ea=none:=dC (show Un X.fs [] X.H₀ H1 X.s₀.heap s1.heap from hex▸I1.base) Of.ne;have I7:=Inv.Ei I6 Of.fe he6 hd hx0 nL λp hp z=>by
  have:=(I1.pin p hp).1;rw[z,Of.ne] at this;cases this
 have hjl:j<σ.length:=by rw[I1.len];exact(HW.mp hj).1
 have hσ:(((σ.set i (some (V.ref ea))).set j (some (V.ref ea))).set i none)[j]?=some (some (.ref ea)):=by
  rw[IJ hij,IG (by rw[Jc];exact hjl)]
 refine aJ ((mW (lx (bD (X:=X) (i:=j) (pos:=p4) hj (.inl Se) d5 d6))) NI s6 _ _ Dn I7 ⟨.ref ea,hσ,?_⟩) λf s7 z=>z;have x8:=Ext.fresh E'.sub Of.fe (dy ea oe);have N2:dx≠ea:=λz=>by rw[z] at hR;have:=Of.fe;rw[E'.sub _ _ hR] at this;cases this
 exact dr _ _ _ (E'.ext.trans x8) ⟨m,⟨ea,oe,vs,dx,rfl,aD,hc,hd,Ol,(aB N2).trans hR⟩,hPd⟩
theorem xH {N1:Ga->Prop}{body:List Stmt}{hd:ExceptHandler}(h:WS X.bV body Γ N1 (λ_ _ _ _=>False))(OX:∀Γ',N1 Γ'->WS X rest Γ' N T):WS X (.Try body [hd] [] [] tp::rest) Γ N T:=by
 intro σ H0 R0 H R E D dn dr NI s I;refine Kt (wpAny_Try_except (Kl (h σ H0 R0 H R E {nx:=λσ' H'=>∃R' Γ',aA X.K σ' H0 R0 H' R' Γ'/\ay R R'/\N1 Γ',rt:=λ_ _=>False,bk:=λ_ _=>False,ct:=λ_ _=>False} (λσ' H' R' Γ' E' s' n=>⟨R',Γ',E',s',n⟩) (λ_ _ _ _ z=>z) NI s (I.eD _)) (λf s1 z=>?_) λ_ _ z=>HP z));have z:=SP.dw z;cases f with
 | next=>
   obtain⟨σ',H',I',R',Γ',E',s',n⟩:=z;refine KS ?_;exact OX Γ' n σ' H0 R0 H' R' E' D (λσ2 H2 R2 Γ2 E2 s2=>dn σ2 H2 R2 Γ2 E2 (s'.trans s2)) dr NI s1 I'
 | brk=>obtain⟨_,_,_,q⟩:=z;exact q.elim
 | cont=>obtain⟨_,_,_,q⟩:=z;exact q.elim
 | ret u=>obtain⟨_,_,_,_,_,q⟩:=z;exact q.elim
end
variable {b:Bool}
section
variable {D:Addr}
theorem pG:dD X (.builtin "isinstance") (λxs H Q=>∃ea oe D c cv b,xs=[.ref ea,c]/\H ea=some (dy ea oe)/\oe.cls= .ref D/\cU X.K D=true/\(∀u,RelV c u->u=cv)/\kitOne X.K (.ref D) cv=some b/\Q (.bl b) H):=by
 intro NI s σ H xs us Q I r h;obtain⟨ea,oe,D,c,cv,b,rfl,ha,hc,el,hu,e,q⟩:=h;obtain⟨u,u2,rfl,r1,r2⟩:=vals2 r;cases (show u=MF ea from r1)
 cases hu u2 r2
 exact kia_one (xB el) I.cO ⟨oe,(I.NN ea _ ha).1,hc⟩ e (λz=>nomatch z) λtk=>⟨.bl b,H,I.tok tk,rfl,q⟩
def wV:Rep Addr:=⟨λ_ _ v C=>v= .ref C,λ_ h=>h⟩
theorem cQ (el:cU X.K D=true)(hm:X.mg "isinstance"=none)(ha:EV X a Γ (iU D nm) n Γ1)(R6:X.mg y=some (.ref C))(ht:kitOne X.K (.ref D) (.ref C)=some b)(hs:Kf [a,.Name y p2] X.env=(false,eval a X.env)::Kf [.Name y p2] X.env:=by rfl)(hg:Gl X "isinstance":=by rfl)(Sf:Gl X y:=by rfl)(Sk:N3 y:=by decide):
 EV X (.Call (.Name "isinstance" p) [a,.Name y p2] [] pos) Γ aY b Γ1:=by
 intro σ H0 R0 H R E Q q;refine eS (c5 pG hg hm J8 (aZ aQ (aZ (fQ (v:=.ref C) Sf R6 rfl Sk) bG rfl) hs) (by decide) (by decide) hs rfl) (ha σ H0 R0 H R E _ λv H1 R1 E1 s1 e1=>?_);obtain⟨e,oe,vs,dx,rfl,h1,h2,_⟩:=e1;exact⟨e,oe,D,.ref C,.ref C,b,rfl,E1.sub _ _ h1,h2,el,λu h=>h,ht,q _ H1 R1 E1 s1 rfl⟩
theorem Bj {c:String}(el:cU X.K D=true)(hm:X.mg "isinstance"=none)(ha:EV X a Γ (iU D nm) n Γ1)(R6:X.mg y=none)(hvy:Kz y=some (.type c))(ht:kitOne X.K (.ref D) (.type c)=some b)(hs:Kf [a,.Name y p2] X.env=(false,eval a X.env)::Kf [.Name y p2] X.env:=by rfl)(hg:Gl X "isinstance":=by rfl)(Sf:Gl X y:=by rfl)(hny:y≠"__name__":=by decide)(Sk:N3 y:=by decide):
 EV X (.Call (.Name "isinstance" p) [a,.Name y p2] [] pos) Γ aY b Γ1:=by
 intro σ H0 R0 H R E Q q;refine eS (c5 pG hg hm J8 (aZ aQ (aZ (se (v:=.ty c) Sf R6 hvy rfl hny Sk) bG rfl) hs) (by decide) (by decide) hs rfl) (ha σ H0 R0 H R E _ λv H1 R1 E1 s1 e1=>?_);obtain⟨e,oe,vs,dx,rfl,h1,h2,_⟩:=e1;exact⟨e,oe,D,.ty c,.type c,b,rfl,E1.sub _ _ h1,h2,el,λu h=>h,ht,q _ H1 R1 E1 s1 rfl⟩
theorem lX {o:Expr}{cd:ClassData}(el:cU X.K D=true)(hk:clsIn X.K D=some cd)(hh:cd.hasDict=true)(hn:Np X.K (.ref D) nm=some none)(ha:EV X o Γ (iU D nm) n Γ1)(NT:Kk o nm X.env (eval o X.env)=eval o X.env:=by rfl):EV X (.Attribute o nm pos) Γ ai n Γ1:=by
 intro σ H0 R0 H R E Q q NI s I;refine rT NT (aJ (ha σ H0 R0 H R E (λv H1=>∃R1,aA X.K σ H0 R0 H1 R1 Γ1/\ay R R1/\(iU D nm).R X.K R1 v n) (λv H1 R1 E1 s1 e1=>⟨R1,E1,s1,e1⟩) NI s I) λu s1 ⟨v,H1,I1,rv,R1,E1,sR,e1⟩=>?_);obtain⟨e,oe,vs,dx,rfl,h1,h2,h3,h4,h5⟩:=e1;obtain rfl:u=MF e:=rv;have he:s1.heap.get? e=some oe:=(I1.NN e _ (E1.sub _ _ h1)).1;obtain⟨mA,P8,hrel⟩:=(show bK X.prog X.w H1 s1.heap dx (.xd [(nm,.int n)]) from I1.NN dx _ (E1.sub _ _ h5));obtain⟨od,hod,hl⟩:=oi P8;obtain⟨u',hu,ru⟩:=eP.some_of (v:=V.int n) (o:=mA nm) (by have:=hrel nm;rw[IH,beq_self_eq_true] at this;exact this);refine zt (K:=X.K) (cd:=cd) (od:=od) I1.cO el ⟨he,h2,by unfold notCls;rw[h3],by rw[h4];exact hod⟩ hk hh hn (by rw[hl,hu]) (nZ ru) ?_;exact⟨.int n,H1,I1.tok _,ru,q _ H1 R1 E1 sR rfl⟩
end
variable {α:Type}
section
variable {H0 R0:Hp}
end
variable {c:Expr}{ap:Pos}
section
variable {H0 R0:Hp}
theorem e8.bV {OI:List Stmt}{D:Ends}{σ:St}{H:Hp}(h:e8 X.bV OI D σ H):e8 X OI D σ H:=λNI s I=>
 Kl (h NI s (I.eD _)) (λ_ _ q=>q.dw) λ_ _ z=>HP z
theorem WS.imp {N':Ga->Prop}(h:WS X OI Γ N T)(hn:∀Γ,N Γ->N' Γ):WS X OI Γ N' T:=λσ H0 R0 H R E D dn dr=>h σ H0 R0 H R E D (λσ' H' R' Γ' E' s' n=>dn σ' H' R' Γ' E' s' (hn Γ' n)) dr
theorem wL {body:List Stmt}(I:Nat->Ga->Prop){m0:Nat}(h0:I m0 Γ)(OW:∀(m:Nat)(Γ:Ga),I m Γ->∃Γ',TV X.bV c Γ true Γ'/\(WS X.bV body Γ' (λΓ''=>∃m',m'<m/\I m' Γ'') (λ_ _ _ _=>False)∨RS X H0 R0 body Γ'))(hp:Lz (model X.prog X.w) X.A X.env X.xe:=by exact Lz.leaving):RS X H0 R0 (.While c body [] pos::rest) Γ:=λσ H R E D=>by
 refine n5 (gX (pB hp jJ dQ) dQ) ?_;refine⟨λm σ' H'=>∃R' Γ',aA X.K σ' H0 R0 H' R' Γ'/\I m Γ',⟨m0,R,Γ,E,h0⟩,?_⟩;rintro m σ' H' ⟨R',Γ',E',hI⟩;obtain⟨Γ2,ht,h1⟩:=OW m Γ' hI;refine jg.bV (ht σ' H0 R0 H' R' E' _ λH1 R1 E1 s1=>ij ?_);rcases h1 with h1 | h1
 ·refine⟨_,λσ2 H2 h=>h,e8.bV (h1 σ' H0 R0 H1 R1 E1 _ (λσ3 H3 R3 Γ3 E3 s3 h3=>?_) λ_ _ _ _ z=>z.elim)⟩;obtain⟨m',hm,hI'⟩:=h3;exact⟨m',hm,R3,Γ3,E3,hI'⟩
 ·exact⟨λ_ _=>False,λ_ _ h=>h.elim,h1 σ' H1 R1 E1 _⟩
theorem Ey {b:Expr}(hc:TV X.bV c Γ true Γ1)(h:RX X H0 R0 a Γ1):RX X H0 R0 (.IfExp c a b pos) Γ:=λσ H R E Q=>
 eS (qM jJ aQ aQ) (jg.bV (hc σ H0 R0 H R E _ λH1 R1 E1 s1=>ij (h σ H1 R1 E1 _)))
theorem Bk (i:Nat){m f:Str}{a:Addr}(h:RX X H0 R0 e Γ)(hN:X.N[i]?=some m:=by rfl)(hv:autoParam (dc X.env.scope m) OA)(hd:N3 m:=by decide)(NV:Ov m:=by decide)(OU:Km e (some (.Attribute (.Name m p1) f ap)) pos.line X.env=pure false:=by rfl):RS X H0 R0 (.Assign [.Attribute (.Name m p1) f ap] e pos::rest) Γ:=λσ H R E D=>
 n5 (gX sD dQ) (sS (v8 (bD hN hv hd NV) aQ OU) (h σ H R E _))
end
section
theorem Ae {N ps:Ht}{k:Nat}(F:cY K x qual st f fd)(Sc:bq N ps (ak st))(len:∀qs o,S K qs o->qs.length=ps.length)(OP:∀qs T,¬S K qs (.ret T))(Q0:∀(NK:Value)(A:Kj)(outer:List Env)(s:Kc)(H R:Hp)(E:XK)(qs:List Pk)(c:Value)(fs:List (Str×V)),bz k (A.deeper (J4 qual (ak st) s.heap.objs.size f NK))->S K qs (.exc c fs)->(∀H' R' dx,Ext H R H' R'->H dx=none->R' dx=some (.xd fs)->E c (some dx) H')->
  RS (aT (bS P w) P w K mg base N qual (ak st) f NK A outer s H E) H R (ba st) (eh qs N.length)):ck P w K mg base (bS P w) (k+1) f fd ps (fX S K):=by
 obtain⟨oc,od,kV,doc,pm,an,NK,ct,OB,rfl,lk,NV⟩:=F.ex;refine oU lk NV Sc (λvs H Q E h=>?_) (λA outer s H vs Q E hr h=>?_)
 ·obtain⟨R,qs,o,_,p,hS,_⟩:=h;rw[p.length];exact len qs o hS
 ·obtain⟨R,qs,o,sR,p,hS,q⟩:=h;have hl:qs.length<=N.length:=by
   rw[len qs o hS];have:=congrArg List.length Sc.pre;rw[Im] at this;omega
  cases o with
  | ret T=>exact Ny hS (OP qs T)
  | exc c fs=>exact⟨_,dQ,Q0 NK A outer s H R E qs c fs hr hS q (L2.start N vs) H R (eK sR p hl) _⟩
variable {N:Ht}{R:Hp}{E:XK}
theorem EU:Passes (bS P w) (aT (bS P w) P w K mg base N qual scope f cd A outer s H E) E:=λNI σ H1 s1 ev s' I1 h=>by
 obtain⟨e,T,cls,dx,H',rfl,ho,bare,un,NN,Of,OR,q⟩:=h;exact jw I1 ho bare un NN Of OR q
theorem Ac {c:Str}{k:Nat}{fi:Addr}{pn:Ht}{cls:Value}{fs:List (Str×V)}(M:Mk K C fi)(F:ck P w K mg base (bS P w) k fi fd pn (fX S K))(hr:bz (k+1) (A.deeper (J4 qual scope s.heap.objs.size f cd)))(hm:mg c=some (.ref C))(hb:Binds K fd pn [])(ha:HA (aT (bS P w) P w K mg base N qual scope f cd A outer s H E) (e::es) Γ ps Γ1)(hS:∀a:Addr,S K (⟨wV,a⟩::ps) (.exc cls fs))(q:∀H' R' dx,Ext H R H' R'->H dx=none->R' dx=some (.xd fs)->E cls (some dx) H')(hg:Gl (aT (bS P w) P w K mg base N qual scope f cd A outer s H E) c:=by rfl)(Om:N3 c:=by decide)(he:Kf (e::es) (aT (bS P w) P w K mg base N qual scope f cd A outer s H E).env=(false,eval e (aT (bS P w) P w K mg base N qual scope f cd A outer s H E).env)::Kf es (aT (bS P w) P w K mg base N qual scope f cd A outer s H E).env:=by rfl)(N8:(Ko pos (Kf es (aT (bS P w) P w K mg base N qual scope f cd A outer s H E).env)).any (·.1)=false:=by rfl):RX (aT (bS P w) P w K mg base N qual scope f cd A outer s H E) H R (.Call (.Name c p) (e::es) [] pos) Γ:=λσ H1 R1 EO Q=>
 eS (sr (X:=aT (bS P w) P w K mg base N qual scope f cd A outer s H E) M F hr hg hm hb .nil EU kE Om he N8) (ha σ H R H1 R1 EO _ λvs H2 R2 E2 s2 p2 x dx hx OR N2=>by
  have x1:=Ext.dq E2.sub OR (.own x);have sm:ay R2 (upd H2 dx (.own x)):=λb o z=>by
   rw[aB λe=>by rw[e,E2.sub.free OR] at z;cases z];exact E2.sub b o z
  have QB:upd H2 dx (.own x) x=none:=by rw[aB (JX N2)];exact hx
  have x2:=Ext.dq sm QB (.ins C dx []);refine⟨R2,⟨wV,x⟩::ps,.exc cls fs,λb o z=>?_,.cons rfl (by rw[Ip];exact p2),hS x,λH' R' d xx h1 h2=>q H' R' d (E2.ext.trans (x1.trans (x2.trans xx))) ?_ h2⟩
  ·rw[aB λe=>by rw[e,E2.sub.free hx] at z;cases z];exact sm b o z
  ·exact E2.ext.h.free (x1.h.free (x2.h.free h1)))
end
variable {Γ2 Γ3:Ga}{β γ δ:Type}
theorem mP (i:Nat)(h:N (Γ.set i (.di [])))(hN:X.N.Nodup:=by first | assumption | decide)(hi:X.N[i]?=some x:=by rfl)(hx:autoParam (Loc X.env.scope x) Pw)(hs:Km (.Dict [] [] p2) (some (.Name x p1)) pos.line X.env=pure false:=by rfl)(hf:autoParam (X.fn x=true∨X.env.scope.names.lookup x=some .local) Pu):
 W1 X (.Assign [.Name x p1] (.Dict [] [] p2) pos) Γ N T:=λσ H0 R0 H R E D dn dr=>by
 refine sS (gQ hN hi hx xu hs hf) λp hp=>?_;have E1:=E.grow (Ext.dq E.sub hp (.dK (bR [])));exact dn _ _ R _ (E1.tO (u:=.dK (bR [])) (en:=.di []) i ⟨p,rfl,aD,E.sub.free hp⟩ (E.ext.h.free hp) λj e _ q w=>E.off hp j e q w) (ay.refl _) h
theorem pD {R:Hp}:∀{xs:Ht}{vs:List V},dH R vs (xs.map PV.str)->vs=xs.map V.str
 | [],_,.nil=>rfl
 | x::xs,_,.cons h t=>by cases h;rw[pD t];rfl
theorem rS {k:Nat}{xs:Ht}(h:EA X es Γ bu (xs.map PV.str) Γ1)(hz:xs.length<=Ke):EV X (.Tuple es k pos) Γ qw xs Γ1:=
 EV.re (nj h (by rw[HU];exact hz)) λK R v e=>by
   cases e with
   | tup hp pp=>rw[pD pp] at hp;exact⟨_,rfl,du.of hp⟩
def yL (lo:Int)(n:Nat):It:=⟨λi _=>i<n,λi H x H'=>H'=H/\x= .int (lo-i),λi _=>n<=i⟩
variable {tg:Expr}
theorem vx (it:Addr)(lo:Int)(n:Nat):Turn P w K tg (yL lo n) [it] it (λi h=>LC h it (lo+(i:Nat)*(-1)) ((n:Int)-(i:Nat)) (-1)) where
 mem:=by simp
 obj:=λi h st b hb=>by
  have e:b=it:=by simpa using hb
  subst e;exact⟨_,st,λv z=>by
   have z':Data.fields _=Data.cell v:=z;cases z'⟩
 keep:=λi h h' st k=>k it (by simp) _ st
 item:=by
  intro X hP hw hK hc i NI s σ H E I hf st hg;subst hP hw hK;obtain⟨f0,f1,f2,f3,f4,f5⟩:=hf it (by simp);have W:=Walks.range (prog:=X.prog) (w:=X.w) (I.ok.hd hc) it lo (-1) n;refine W.item i s _ _ hg st λv h' tk hv O3 kk=>?_;obtain⟨t,rfl⟩:=hv;have I1:Inv X NI σ H {s with heap:=h',toks:=tk}:=I.turned (λb o hb e=>kk b o (by simpa using hb) e) f0 f1 f3 f4 f5;refine⟨_,rfl,j2 (s:={s with heap:=h',toks:=tk}) (n:="range_iterator") O3 rfl rfl (by decide) ⟨.int (lo-i),H,I1,⟨t,?_⟩,⟨rfl,rfl⟩,O3,λb hb=>(hf b hb).1⟩⟩;rw[show lo+(i:Int)*(-1)=lo-(i:Int) by omega]
 done:=by
  intro X hP hw hK hc i NI s σ H E I hf st hg;subst hP hw hK;obtain⟨f0,f1,f2,f3,f4,f5⟩:=hf it (by simp);exact wpAny_pyNext_range_end (I.ok.hd hc) st (by have:n<=i:=hg;omega) λh' eb=>⟨rfl,I.turned (t':=s.toks) (λb o hb e=>eb b o hb e) f0 f1 f3 f4 f5⟩
 self:=λ_ _ _ _ _ st h=>wpAny_pyIter_rangeiter st h
theorem nJ {a b:Int}:Ln.Range.rangeSize a b (-1)=((a-b).toNat:Int):=by
 unfold Ln.Range.rangeSize;rw[Nz (by decide)];split
 ·rw[show -(-1:Int)=1 by decide,Int.ediv_one];omega
 ·omega
theorem small_down {a b:Int}(ha: -(2 ^ 40)<=a)(Pq:a<2 ^ 40)(hb: -(2 ^ 40)<=b)(OM:b<2 ^ 40):Ln.Range.small a b (-1)=true:=by
 unfold Ln.Range.small;rw[nJ];simp only[Ln.Range.rangeFitsLong,HF,Bool.or_eq_true,decide_eq_true_eq,beq_iff_eq,show¬(-1:Int)>0 by decide,if_false];omega
variable {E:Value->Kc->Prop}{lo:Int}{ta:TA}
def EY (ta:TA):TI:=λσ H R=>ta σ H λvs H1=>∃i j:Int,vs=[.int i,.int j,.int (-1)]/\(-(2 ^ 40)<=i/\i<2 ^ 40/\ -(2 ^ 40)<=j/\j<2 ^ 40)/\R (yL i (i-j).toNat) H1
theorem yX {R:It->Hp->Prop}{hi:Int}{t u v:Tok}(I:Inv X NI σ H s)(h1: -(2 ^ 40)<=lo)(h2:lo<2 ^ 40)(h3: -(2 ^ 40)<=hi)(h4:hi<2 ^ 40)(q:R (yL lo (lo-hi).toNat) H):wpAny (model X.prog X.w) X.A (pyIter (.ref s.heap.objs.size)) (B1 X NI σ tg R) E {s with heap:=s.heap.push {cls:=.type "range",data:=.fields #[.int lo t,.int hi u,.int (-1) v]},toks:=tk}:=by
 refine wpAny_pyIter_range (IsRange.new ..) (small_down h1 h2 h3 h4) ?_;have I1:Inv X NI σ H {s with heap:=s.heap.push {cls:=.type "range",data:=.fields #[.int lo t,.int hi u,.int (-1) v]},toks:=tk}:=I.kept λb o e=>Mn _ e;refine⟨(s.heap.push {cls:=.type "range",data:=.fields #[.int lo t,.int hi u,.int (-1) v]}).objs.size,[(s.heap.push {cls:=.type "range",data:=.fields #[.int lo t,.int hi u,.int (-1) v]}).objs.size],_,_,H,rfl,
  I1.kept (t':=tk) λb o e=>Mn _ e,vx _ lo (lo-hi).toNat,?_,λb hb=>?_,q⟩
 ·have e1:lo+((0:Nat):Int)*(-1)=lo:=by simp
  have e2:(((lo-hi).toNat:Nat):Int)-((0:Nat):Int)=Ln.Range.rangeSize lo hi (-1):=by rw[nJ];simp
  show LC _ _ (lo+((0:Nat):Int)*(-1)) ((((lo-hi).toNat:Nat):Int)-((0:Nat):Int)) (-1);rw[e1,e2];exact Mp _ rfl
 ·have e:b=(s.heap.push {cls:=.type "range",data:=.fields #[.int lo t,.int hi u,.int (-1) v]}).objs.size:=by simpa using hb
  subst e;exact I1.gi (JI _) (I1.NN.fresh (JI _))
theorem wj {b:Expr}(hg:Gl X "range")(hm:X.mg "range"=none)(ha:PA X [a,b,c] ta)(hs:Kf [a,b,c] X.env=(false,eval a X.env)::Kf [b,c] X.env:=by rfl)(N8:(Ko pos (Kf [b,c] X.env)).any (·.1)=false:=by rfl):
 PI X tg (.Call (.Name "range" p) [a,b,c] [] pos) (EY ta):=by
 intro NI s σ H R I h;refine Call_ (gc I hg hm boot_range (J6 (aJ (ha pos NI s σ H _ I h) λus s1 ⟨vs,H1,I1,r1,q1⟩=>?_) hs N8));obtain⟨i,j,e,⟨q1,q2,q3,q4⟩,q⟩:=q1;subst e;cases r1 with
 | cons r rr=>
   cases rr with
   | cons r' rr=>
     cases rr with
     | cons r'' rr=>
       cases rr
       obtain⟨t,rfl⟩:=r;obtain⟨t',rfl⟩:=r';obtain⟨t'',rfl⟩:=r'';exact call_range_3 (by decide) (yX I1 q1 q2 q3 q4 q) (.inl (PyProof.noPylong_of_log2 (by decide +kernel)))
def downs (lo:Int)(n:Nat):Hs:=(IL n).map λ(k:Nat)=>lo-(k:Int)
theorem fb (lo:Int)(n:Nat):(downs lo n).length=n:=by unfold downs;rw[HU,Ja]
theorem p8 {n i:Nat}{x:Int}(h:(downs lo n)[i]?=some x):i<n/\x=lo-(i:Int):=by
 have hi:i<n:=by have:=(HW.mp h).1;rwa [fb] at this
 refine⟨hi,?_⟩;unfold downs at h;rw[Ii,Jl hi] at h;exact(Option.some.inj h).symm
theorem xc {R1:Hp}(lo:Int)(n:Nat):Src K (yL lo n) R1 ai (downs lo n):=λH' R' sR sH i=>⟨λx hx=>by
 obtain⟨h1,rfl⟩:=p8 hx;refine⟨h1,λv H2 hy=>?_⟩;obtain⟨rfl,rfl⟩:=hy;exact⟨R',Ext.refl sH,rfl⟩,λhi=>by rw[fb] at hi;exact hi⟩
theorem uH {b:Expr}{m:Int}(hm:X.mg "range"=none)(ha:HA X [a,b,c] Γ [⟨ai,m⟩,⟨ai,n⟩,⟨ai, -1⟩] Γ1)(hn: -1000000<=m/\m<=1000000/\ -1000000<=n/\n<=1000000)(hs:Kf [a,b,c] X.env=(false,eval a X.env)::Kf [b,c] X.env:=by rfl)(N8:(Ko p2 (Kf [b,c] X.env)).any (·.1)=false:=by rfl)(hg:Gl X "range":=by rfl):IV X tg (.Call (.Name "range" p1) [a,b,c] [] p2) Γ ai (downs m (m-n).toNat) Γ1:=by
 refine⟨_,wj hg hm kE hs N8,λσ H0 R0 H R E Rq q=>ha σ H0 R0 H R E _ λvs H1 R1 E1 s1 e1=>?_⟩;have e:vs=[.int m,.int n,.int (-1)]:=by
  cases e1 with
  | cons a1 t=>cases t with
    | cons a2 t=>cases t with
      | cons a3 t=>cases t;cases a1;cases a2;cases a3;rfl
 subst e;exact⟨m,n,rfl,⟨by omega,by omega,by omega,by omega⟩,q _ H1 R1 E1 s1 (by rw[fb];exact JJ (show(m-n).toNat<=2000000 by omega) (by decide)) (xc m (m-n).toNat)⟩
variable {r:Rep α}{xs:List α}
theorem aO.cst {ys:List α}(h:aO X e Γ r xs Γ1)(q:xs=ys):aO X e Γ r ys Γ1:=q▸h
theorem zh {f:Expr}{D:List (Str×Ht)}{k:Str}{zs:Ht}(hD:jb X.prog X.w X.K X.mg x D)(he:EV X e Γ ae k Γ1)(hf:EV X f Γ1 qw zs Γ2)(hg:Gl X x:=by rfl)(hd:N3 x:=by decide)(m:M2 X (.Name x p1) "get" ap e f cp:=by exact⟨rfl,rfl,rfl,rfl⟩):EV X (.Call (.Attribute (.Name x p1) "get" ap) [e,f] [] cp) Γ qw ((ft D k).getD zs) Γ2:=by
 intro σ H0 R0 H R E Q q;obtain⟨a,o,vs,hm,hk,hdo,hs,hp⟩:=hD;have pe:PE X (.Call (.Attribute (.Name x p1) "get" ap) [e,f] [] cp) (λσ H Q=>fD X e σ H λy H1=>y= .str k/\fD X f σ H1 λz H2=>(∀b,ft D k≠none->KG vs (Nw k:Key)=some (.ref b)->Q (.ref b) H2)/\(ft D k=none->Q z H2)):=by
  intro NI s σ H Q I h;refine wpAny_Call_method m.base m.few m.line PySem.F.plainAttrs_dict PySem.F.slot_dict_get PySem.F.type_dict_get (aJ (fQ (v:=.ref a) hg hm rfl hd NI s σ H (λv H2=>v= .ref a/\H2=H) I ⟨rfl,rfl⟩) λu s1 ⟨x1,H1,I1,rx,e3,e4⟩=>?_);subst e3;subst e4;obtain rfl:u=MF a:=rx;have dd:s1.heap.DictOf (bH X.prog X.w) a vs:=Mw.mpr ⟨o,I1.cO a o hk,hdo⟩;refine⟨dd.typeIs,λb q=>?_,?_⟩
  ·cases q
   obtain⟨ob,_,_,h1,h2,_⟩:=dd;exact⟨ob,h1,h2.2.1⟩
  rw[m.trees];refine Mb rfl (Calls.evalArgs_plain (Mc (aJ (h NI s1 I1) λiv s2 ⟨y,H2,I2,ry,ey,q2⟩=>
   Mc (aJ (q2 NI s2 I2) λfv s3 ⟨z,H3,I3,rz,q3,q4⟩=>Calls.spliced_nil ?_))))
  subst ey;have dd3:s3.heap.DictOf (bH X.prog X.w) a vs:=Mw.mpr ⟨o,I3.cO a o hk,hdo⟩;refine call_meetsIn PySem.F.slot_dict_get dd3.typeIs PySem.F.entry_dict_get (PySem.F.args_dict_get_3 _ _ _) (meets_dict_get_default (bH X.prog X.w) a (gw (k:=Nw k) ry) hs fv) ⟨_,dd3.mapOf,?_⟩;rcases oQ (x:=k) hp with⟨h1,h2⟩ | ⟨ys,b,h1,h2,_⟩
  ·rw[h2];exact⟨z,_,I3.tok _,rz,q4 h1⟩
  ·rw[h2];exact⟨.ref b,_,I3.tok _,rfl,q3 b (by rw[h1];exact JY _) h2⟩
 refine eS pe (he σ H0 R0 H R E _ λv H1 R1 E1 s1 e1=>⟨e1,hf σ H0 R0 H1 R1 E1 _ λv2 H2 R2 E2 s2 e2=>⟨λb hb hv=>?_,λhn=>?_⟩⟩)
 ·rcases oQ (x:=k) hp with⟨h1,h2⟩ | ⟨ys,b',h1,h2,o',NJ,n,h3⟩
  ·exact Ny h1 hb
  ·rw[hv] at h2;cases h2
   refine q _ H2 R2 E2 (s1.trans s2) ?_;rw[h1];exact⟨b,rfl,.inr ⟨o',NJ,n,h3⟩⟩
 ·refine q _ H2 R2 E2 (s1.trans s2) ?_;rw[hn];exact e2
def FN (K:MO)(a:Addr)(n:Nat):It:=
 ⟨λi H=>∃xs,bp K H a xs/\xs.length=n/\i<n,λi H x H'=>H'=H/\∀xs,bp K H a xs->xs[n-1-i]?=some x,λi _=>n<=i⟩
theorem wF (a it:Addr)(n:Nat):Turn P w K tg (FN K a n) [it] it (λi h=>i<=n/\h.IsRevIter it a ((n:Int)-1-(i:Int))) where
 mem:=by simp
 obj:=λi h st b hb=>by
  have e:b=it:=by simpa using hb
  subst e;obtain⟨_,o,e,c,d⟩:=st;exact⟨o,e,λv z=>by rw[d] at z;cases z⟩
 keep:=λi h h' st k=>⟨st.1,st.2.at λo e=>k it (by simp) o e⟩
 item:=by
  intro X hP hw hK hc i NI s σ H E I hf st hg;subst hP hw hK;obtain⟨xs,hq,hl,hi⟩:=hg;obtain⟨NJ,rv,p,hz⟩:=I.list hq;have hx:xs[n-1-i]?=some xs[n-1-i]:=Ib (by omega);obtain⟨u,hu,ru⟩:=rv.get hx;obtain⟨f0,f1,f2,f3,f4,f5⟩:=hf it (by simp);have st0:s.heap.IsRevIter it a (((n-1-i:Nat)):Int):=by rw[show(((n-1-i:Nat)):Int)=(n:Int)-1-(i:Int) by omega];exact st.2
  refine wpAny_pyNext_rev_item st0 p.isList (x:=u) (by simpa using hu) λh' O3 sb=>?_;have I1:Inv X NI σ H {s with heap:=h'}:=I.turned (t':=s.toks) (λb o hb e=>(sb.2 b hb).trans e) f0 f1 f3 f4 f5;have Qh:h'.IsRevIter it a ((n:Int)-1-((i+1:Nat):Int)):=by rw[show(n:Int)-1-((i+1:Nat):Int)=(((n-1-i:Nat)):Int)-1 by omega];exact O3
  obtain⟨o,e,c,d⟩:=id Qh;exact⟨u,rfl,j2 (s:={s with heap:=h'}) e c d (by decide) ⟨_,H,I1,ru,⟨rfl,λys hy=>by rw[I.iZ hy hq];exact hx⟩,⟨by omega,Qh⟩,λb hb=>(hf b hb).1⟩⟩
 done:=by
  intro X hP hw hK hc i NI s σ H E I hf st hg;subst hP hw hK;obtain⟨f0,f1,f2,f3,f4,f5⟩:=hf it (by simp);obtain⟨N4,st⟩:=st;have e:(n:Int)-1-(i:Int)= -1:=by have:n<=i:=hg;omega
  rw[e] at st;exact wpAny_pyNext_rev_end (I.ok.hd hc) st λh' eb=>⟨rfl,I.turned (t':=s.toks) (λb o hb e=>eb b o hb e) f0 f1 f3 f4 f5⟩
 self:=λ_ _ _ _ _ st h=>wpAny_pyIter_revIter st.2 h
variable {ks:Ht}
def Hl (K:MO)(ta:TA):TI:=λσ H R=>ta σ H λvs H1=>∃a xs,vs=[.ref a]/\bp K H1 a xs/\R (FN K a xs.length) H1
theorem Cm (hg:Gl X "reversed")(hm:X.mg "reversed"=none)(ha:PA X [a] ta)(hs:Kf [a] X.env=[(false,eval a X.env)]:=by rfl):PI X tg (.Call (.Name "reversed" p) [a] [] pos) (Hl X.K ta):=by
 intro NI s σ H R I h;refine Call_ (gc I hg hm PyProof.Rows.boot_reversed (J6 (aJ (ha pos NI s σ H _ I h) λus s1 ⟨vs,H1,I1,r1,q1⟩=>?_) hs rfl));obtain⟨l,xs,e,hq,q⟩:=q1;subst e;cases r1 with
 | cons r rr=>
   cases rr
   cases r
   obtain⟨NJ,rv,pl,hz⟩:=I1.list hq;have hl:=rv.length;refine call_reversed_list pl.isList ?_;have I2:Inv X NI σ H1 {s1 with heap:=s1.heap.push (revObj l ((NJ.toArray.size:Int)-1))}:=I1.kept (t':=s1.toks) λb o e=>Mn _ e;have it0:(s1.heap.push (revObj l ((NJ.toArray.size:Int)-1))).IsRevIter s1.heap.objs.size l ((xs.length:Int)-1-((0:Nat):Int)):=⟨_,Mp _ rfl,rfl,by
    rw[show((xs.length:Int)-1-((0:Nat):Int))=((NJ.toArray.size:Int)-1) by simp;omega];rfl⟩
   refine wpAny_pyIter_revIter it0 ?_;refine⟨s1.heap.objs.size,[s1.heap.objs.size],_,_,H1,rfl,I2,wF l _ xs.length,⟨JM _,it0⟩,λb hb=>?_,q⟩;have e:b=s1.heap.objs.size:=by simpa using hb
   subst e;exact I1.gi (JI _) (I1.NN.fresh (JI _))
theorem uK (hm:X.mg "reversed"=none)(ha:EV X a Γ (ag r) xs Γ1)(hs:Kf [a] X.env=[(false,eval a X.env)]:=by rfl)(hg:Gl X "reversed":=by rfl):IV X tg (.Call (.Name "reversed" p) [a] [] pos) Γ r xs.reverse Γ1:=by
 refine⟨_,Cm hg hm (aZ aQ bG hs) hs,λσ H0 R0 H R E Rq q=>ha σ H0 R0 H R E _ λv H1 R1 E1 s1 e1=>?_⟩;obtain⟨a,vs,rfl,hp,pp,z⟩:=e1;have hvl:=pp.length;refine⟨a,vs,rfl,bp.of (E1.sub _ _ hp),q _ H1 R1 E1 s1 (by rw[IT];exact z) λH' R' sR sH i=>⟨λx hx=>?_,λhi=>?_⟩⟩
 ·have hq:bp X.K H' a vs:=bp.of (sH _ _ (sR _ _ hp));have hi:i<xs.length:=by have:=(HW.mp hx).1;rwa [IT] at this
  rw[List.getElem?_reverse hi] at hx;obtain⟨v,hv,hr⟩:=dz pp hx;refine⟨⟨vs,hq,rfl,by omega⟩,λv' H2 hy=>?_⟩;obtain⟨rfl,hy⟩:=hy;have:=hy vs hq;rw[show vs.length-1-i=xs.length-1-i by omega,hv] at this;cases this
  exact⟨R',Ext.refl sH,r.mono sR hr⟩
 ·rw[IT] at hi;show vs.length<=i;omega
theorem vV (i:Nat){ys:List α}(he:EV X e Γ (ag r) ys Γ1)(hΓ:Γ[i]?=some (.mu r xs))(hΓ1:Γ1[i]?=some (.mu r xs))(hz:xs.length+ys.length<=Ke)(h:N (Γ1.set i (.mu r (xs++ys))))(hN:X.N[i]?=some x:=by rfl)(hv:autoParam (dc X.env.scope x) OA)(hd:N3 x:=by decide)(NV:Ov x:=by decide)(OU:Km (.Call (.Attribute (.Name x p1) "extend" ap) [e] [] cp) none pos.line X.env=pure false:=by rfl)(NT:Kk (.Name x p1) "extend" X.env (eval (.Name x p1) X.env)=eval (.Name x p1) X.env:=by rfl)(Oe:((Ko cp (Kf [e] X.env)).all (λx=> !x.1)&&(K7 cp (KQ [] X.env)).all (λx=>x.1.isSome)
  &&decide ([e].length+([]:List Kx).length+(if([]:List Kx).isEmpty then 0 else 1)<30))=true:=by rfl)(NY:(ap.endLine==cp.line)=true:=by rfl)(hs:Kf [e] X.env=(false,eval e X.env)::Kf [] X.env:=by rfl):W1 X (.Expr (.Call (.Attribute (.Name x p1) "extend" ap) [e] [] cp) pos) Γ N T:=λσ H0 R0 H R E D dn dr=>by
 obtain⟨a,vs,ea,ha,hR,pp⟩:=E.ent i _ hΓ;refine sS (iQ (i6 Mf PySem.F.slot_list_extend PySem.F.type_list_extend vS (bD hN hv hd NV) (aZ aQ bG hs) NT Oe NY hs rfl) OU) ?_;refine⟨.ref a,at_of ea,.inl ⟨rfl,vs,bp.of ha⟩,he σ H0 R0 H R E _ λu H1 R1 E1 s1 e1=>?_⟩;obtain⟨b,ws,rfl,hb,pw,hw⟩:=e1;obtain⟨a',Oz,OS,Pq,Ou,PM⟩:=E1.ent i _ hΓ1;rw[ea] at OS;cases OS
 refine⟨a,b,Oz,ws,rfl,rfl,Pq,E1.sub _ _ hb,by rw[PM.length,pw.length];exact hz,?_⟩;exact dn σ _ R1 _ (E1.upd (en:=.mu r (xs++ys)) hΓ1 rfl ea Ou ⟨a,_,rfl,aD,Ou,c7 PM pw⟩) s1 h
theorem su {d:Expr}{kvs:List (Int×V)}{k:Int}(hu:X.A.units+1<cLine)(he:EV X e Γ ai k Γ1)(hd:EV X d Γ1 fV kvs Γ2)(hm:KN .NotIn d=false:=by first | exact pU _ | with_unfolding_all rfl):TV X (.Compare e [.NotIn] [d] pos) Γ (!fR kvs k) Γ2:=by
 intro σ H0 R0 H R E Q q;refine tS (jF (jA hu aQ aQ) hm) (he σ H0 R0 H R E _ λv H1 R1 E1 s1 e1=>hd σ H0 R0 H1 R1 E1 _ λu H2 R2 E2 s2 e2=>?_);cases e1
 obtain⟨p,rfl,hp⟩:=e2;refine⟨p,_,rfl,eR.k (k:=Nv k) (E2.sub _ _ hp),_,rfl,?_⟩;rw[me];exact q H2 R2 E2 (s1.trans s2)
abbrev ot (ks:Ht):List (Key×V):=ks.map λk=>(Nw k,V.bl true)
def lN (a:Addr)(ks:Ht):Bh where
 fp:=[a]
 R:=λK H R v=>v= .ref a/\H a=some (.dK (ot ks))
 loc:=λhH hR ⟨e,h1⟩=>⟨e,(hH a (by simp)).trans h1⟩
 has:=λ⟨e,h1⟩ b hb=>by rw[HX.mp hb,h1];exact JY _
theorem WS.EM (i:Nat)(hΓ:Γ[i]?=some (.di []))(h:∀a,WS X OI (Γ.set i (.ob (lN a []))) N T):WS X OI Γ N T:=λσ H0 R0 H R E D dn dr=>by
 obtain⟨a,ea,ha,hR⟩:=E.ent i _ hΓ;refine h a σ H0 R0 H R (E.tell hΓ ⟨⟨.ref a,ea,rfl,ha⟩,λb hb=>?_⟩ λb w=>?_) D dn dr
 ·rw[HX.mp hb];exact hR
 ·rw[show b=a from HX.mp w];exact dN.mpr ea
theorem ua (k:Str):∀ks:Ht,cx (ot ks) (Nw k:Key)=if k∈ks then some (.bl true) else none
 | []=>rfl
 | x::ks=>by
   by_cases e:x=k
   ·show cx ((Nw x,V.bl true)::ot ks) _=_;rw[cG (p:=((Nw x:Key),V.bl true)) (by rw[e]),ND (by rw[e];exact Ic)]
   ·show cx ((Nw x,V.bl true)::ot ks) _=_;rw[cH (p:=((Nw x:Key),V.bl true)) (λz=>e (Nw.inj z)),ua k ks];by_cases h:k∈ks
    ·rw[ND h,ND (Ia _ h)]
    ·rw[Nz h,Nz λz=>by rcases Ih.mp z with q | q;exact e q.symm;exact h q]
def qN (ks:Ht)(k:Str):Ht:=if k∈ks then ks else ks++[k]
theorem GC (ks:Ht)(k:Str):putK (ot ks) (Nw k:Key) (V.bl true)=ot (qN ks k):=by
 unfold qN;by_cases h:k∈ks
 ·rw[ND h];unfold putK;rw[ND (by rw[dS,ua,ND h];rfl)];unfold ot;rw[IS];refine Jp λx _=>?_;show(if((Nw x:Key))=Nw k then _ else _)=_;split<;>rfl
 ·rw[Nz h,qQ (.bl true) (by rw[ua,Nz h])];unfold ot;rw[IC];rfl
theorem zA (i:Nat){ke ve:Expr}{a:Addr}{k:Str}(hu:X.A.units+1<cLine)(hk:EV X ke Γ ae k Γ)(hv:PE X ve (tC (.bl true)))(hΓ:Γ[i]?=some (.ob (lN a ks)))(hz:ks.length<Ke)(h:N (Γ.set i (.ob (lN a (qN ks k)))))(hN:X.N[i]?=some x:=by rfl)(RM:autoParam (dc X.env.scope x) OA)(hd:N3 x:=by decide)(NV:Ov x:=by decide)(hs:Km ve (some (.Subscript (.Name x p1) ke p2)) pos.line X.env=pure false:=by rfl):W1 X (.Assign [.Subscript (.Name x p1) ke p2] ve pos) Γ N T:=λσ H0 R0 H R E D dn dr=>by
 refine sS (mC hu (bD hN RM hd NV) aQ hv hs) ?_;obtain⟨⟨v,ea,rfl,ha⟩,hR⟩:=E.ent i _ hΓ;refine⟨.ref a,at_of ea,hk σ H0 R0 H R E _ λu H1 R1 E1 s1 e1=>?_⟩;obtain⟨⟨v,OS,rfl,Pq⟩,Ou⟩:=E1.ent i _ hΓ;cases e1
 refine⟨a,_,rfl,kQ.k (k:=Nw k) Pq (by rw[HU];exact hz),?_⟩;rw[GC];exact dn σ _ R1 _ (E1.wU (en:=.ob (lN a (qN ks k))) hΓ (a:=a) (by show a∈[a];simp) ⟨⟨.ref a,OS,rfl,aD⟩,Ou⟩ λc w=>.inl w) s1 h
theorem xQ (i:Nat){a:Addr}{k:Str}(hu:X.A.units+1<cLine)(he:EV X e Γ ae k Γ)(hΓ:Γ[i]?=some (.ob (lN a ks)))(hN:X.N[i]?=some x:=by rfl)(hv:autoParam (dc X.env.scope x) OA)(hd:N3 x:=by decide)(NV:Ov x:=by decide):TV X (.Compare e [.NotIn] [.Name x p1] pos) Γ (!decide (k∈ks)) Γ:=by
 intro σ H0 R0 H R E Q q;refine tS (jF (jA hu aQ (bD hN hv hd NV)) (by with_unfolding_all rfl)) (he σ H0 R0 H R E _ λv H1 R1 E1 s1 e1=>?_);obtain⟨⟨v,ea,rfl,ha⟩,hR⟩:=E1.ent i _ hΓ;cases e1
 refine⟨.ref a,at_of ea,a,_,rfl,eR.k (k:=Nw k) ha,_,rfl,?_⟩;rw[ua];have e:(if k∈ks then some (V.bl true) else none).isSome=decide (k∈ks):=by by_cases h:k∈ks<;>simp[h]
 rw[e];exact q H1 R1 E1 s1
variable {d:Addr}{key:Value}
section
variable {prog:Kh}{K:Type} [DecidableEq K]{knd:KeyKind prog w K}
theorem wO {kvs:List (K×Value)}{k:K}{dflt:Value}(OY:knd.is k key=true)(hm:s.heap.DictOf knd d kvs)(QQ:∀v,KG kvs k=some v->Q v {s with toks:=s.toks+1})(QU:KG kvs k=none->∀h',h'.DictOf knd d (stored kvs k dflt)->Ms d s.heap h'->Q dflt {s with heap:=h',toks:=s.toks+1})(hsz:kvs.length<=Ke):wpAny (model prog w) A (LM d key dflt) Q E s:=by
 have hmap:=hm.mapOf;obtain⟨o,es,ep,ho,hc,hd,hk,hp,hn⟩:=hm;have hes:es.size<=Ke:=by
  have e1:=hp.length;have e2:es.toList.length=es.size:=by simp
  omega
 obtain⟨o2,es2,ep2,ho2,hc2,hd2,hk2,hf⟩:=hmap;rw[ho] at ho2;cases ho2
 rw[hd] at hd2;cases hd2
 unfold LM
 try with_reducible refine Ku ?_
 refine Kb (knd.pyHash OY ?_);refine Kb (wpAny_dictFind_of (s:={s with toks:=s.toks+1}) OY ho hd hk ?_);have hidx:(es.findIdx? λe=>knd.is k e.key)=kvs.findIdx? λkv=>decide (kv.1=k):=by
  rw[← hp.findIdx k];obtain⟨l⟩:=es;simp
 cases hi:es.findIdx? λe=>knd.is k e.key with
 | some i=>
   have hfk:KG kvs k=(es[i]?).map (·.val):=by rw[← hf k,findBy_of_findIdx?,hi]
   refine Kb (wpAny_dictEntries (s:={s with toks:=s.toks+1}) ho hd ?_);cases he:es[i]? with
   | none=>
     exfalso;have:=Array.findIdx?_eq_some_iff_findIdx_eq.mp hi;have Oo:i<es.size:=this.1;rw[Array.getElem?_eq_getElem Oo] at he;exact nomatch he
   | some e=>
     rw[he] at hfk;exact Kb (Lj (Kg (QQ e.val hfk)))
 | none=>
   have hfk:KG kvs k=none:=by rw[← hf k,findBy_of_findIdx?,hi]
   have RU:k∉kvs.map (·.1):=not_mem_of_findIdx_none (hidx▸hi);have Sv:¬(kvs.any λkv=>decide (kv.1=k))=true:=by
    rw[Jz];rintro⟨kv,hkv,he⟩;exact RU (Io.mpr ⟨kv,hkv,NF he⟩)
   refine Kb (Lj (Kb (wpAny_updateDictKeys (hz:=hes) (s:={s with toks:=s.toks+1}) ho hd (Kg (QU hfk _ ⟨_,_,ep+1,Mr _ ho (Obj.isFreed_of_dict (Obj.data_mapDictKeys hd _)),
    hc.mapDictKeys _,Obj.data_mapDictKeys hd _,hk.push OY _,?_,?_⟩ (Ms.update ..))))))
   ·rw[stored,Nz Sv];have:=hp.append OY (knd.hash k) dflt;obtain⟨l⟩:=es;simpa using this
   ·rw[stored,Nz Sv,IC,List.nodup_append];refine⟨hn,by simp,?_⟩;intro a ha b hb;simp only[Iu,JB,HX] at hb;subst hb;exact λe=>RU (e▸ha)
theorem wM {kvs:List (K×Value)}{k:K}(OY:knd.is k key=true)(hd:(d==Kv)=false)(dflt:Value)(hsz:kvs.length<=Ke):
 MeetsIn prog w (Ln.«dict.setdefault» ⟨[.ref d,key,dflt],[]⟩) (λ_ R s=>s.heap.DictOf knd d kvs/\
  (∀v,KG kvs k=some v->R (.ok (.ret v)) {s with toks:=s.toks+1})/\
  (KG kvs k=none->∀h',h'.DictOf knd d (stored kvs k dflt)->Ms d s.heap h'->R (.ok (.ret dflt)) {s with heap:=h',toks:=s.toks+1})):=
 .of_wp λA R s ⟨hm,h1,h2⟩=>by
  unfold Ln.«dict.setdefault»;refine Kb ?_;unfold Ln.Dict.keyAndDefault;refine Kb (wpAny_notOrdered_dict hm.mapOf.typeIs ?_);show wpAny _ _ (pure (d,key,some dflt)) _ _ s;refine Kg ?_;show wpAny _ _ (if(d==Kv)=true then _ else(LM d key dflt >>=_)) _ _ s;rw[Nz (by rw[hd];exact HE)];exact Kb (wO OY hm (λv hv=>Kg ⟨v,rfl,h1 v hv⟩) (λhn h' hm' hs'=>Kg ⟨dflt,rfl,h2 hn h' hm' hs'⟩) hsz)
end
variable {F:Hy}
def D1:V->List V->Hp->VK->Prop:=λx vs H Q=>∃(a:Addr)(F:Hy)(k v:Int),x= .ref a/\vs=[.int k,.int v]/\H a=some (.dK (bR (cw F)))/\F.length<Ke/\∀u,Q u (if(bQ F k).isSome then H else upd H a (.dK (bR (cw (F++[(k,v)])))))
theorem zN:qz X "dict.setdefault" D1:=by
 intro NI s σ H x vs u us Q I rx rv h;obtain⟨a,F,k,v,rfl,rfl,hH,hz,q⟩:=h;cases rx
 obtain⟨u1,u2,rfl,⟨t,rfl⟩,⟨t2,rfl⟩⟩:=vals2 rv;obtain⟨z,hd,kvs,rel,dd⟩:=sE I.NN hH;have hzl:kvs.length<=Ke:=by rw[← rel.length];exact z
 have Pb:=rel.val (Nv k:Key);rw[iz] at Pb;refine call_meetsIn PySem.F.slot_dict_setdefault dd.typeIs PySem.F.entry_dict_setdefault (PySem.F.args_dict_setdefault_3 _ _ _) (wM (knd:=bH X.prog X.w) (kvs:=kvs) (gw (k:=Nv k) (u:=.int k t) ⟨t,rfl⟩) hd (.int v t2) hzl) ⟨dd,λw' hw=>?_,λhn h' Qc hs=>?_⟩
 ·cases e:bQ F k with
  | none=>rw[e,hw] at Pb;cases Pb
  | some y=>
    rw[e,hw] at Pb;have:=q (.int y);rw[e,ND (show(some y).isSome=true from rfl)] at this;exact⟨.int y,H,I.tok _,Pb,this⟩
 ·cases e:bQ F k with
  | some y=>rw[e,hn] at Pb;cases Pb
  | none=>
    have:=q (.int v);rw[e,Nz (by decide)] at this;have hput:putK (bR (cw F)) (Nv k:Key) (.int v)=bR (cw (F++[(k,v)])):=by
     rw[lL];unfold dF;rw[e,Nz (by decide)]
    have hl:(bR (cw (F++[(k,v)]))).length<=Ke:=by unfold bR cw;simp;omega
    refine⟨.int v,_,j7 I (by rw[hH];exact Nx) hs (let ⟨q,_,_,hq,_⟩:=Qc;⟨q,hq⟩) (qI hl hd ?_ Qc),⟨t2,rfl⟩,this⟩;rw[← hput];exact rel.put (Nv k:Key) ⟨t2,rfl⟩
theorem set_same.{u}{A:Type u}{l:List A}{i:Nat}{x:A}(h:l[i]?=some x):l.set i x=l:=by
 refine List.ext_getElem? λj=>?_;by_cases e:i=j
 ·subst e;rw[IG (HW.mp h).1,h]
 ·rw[IJ e]
theorem Dm (i:Nat){f:Expr}{k v:Int}(he:EV X e Γ ai k Γ)(hf:EV X f Γ ai v Γ)(hΓ:Γ[i]?=some (.di (cw F)))(hz:F.length<Ke)(h:N (Γ.set i (.di (cw (if(bQ F k).isSome then F else F++[(k,v)])))))(hN:X.N[i]?=some x:=by rfl)(hv:autoParam (dc X.env.scope x) OA)(hd:N3 x:=by decide)(NV:Ov x:=by decide)(OU:Km (.Call (.Attribute (.Name x p1) "setdefault" ap) [e,f] [] cp) none pos.line X.env=pure false:=by rfl)(NT:Kk (.Name x p1) "setdefault" X.env (eval (.Name x p1) X.env)=eval (.Name x p1) X.env:=by rfl)(Oe:((Ko cp (Kf [e,f] X.env)).all (λx=> !x.1)&&(K7 cp (KQ [] X.env)).all (λx=>x.1.isSome)
  &&decide ([e,f].length+([]:List Kx).length+(if([]:List Kx).isEmpty then 0 else 1)<30))=true:=by rfl)(NY:(ap.endLine==cp.line)=true:=by rfl)(hs:Kf [e,f] X.env=(false,eval e X.env)::Kf [f] X.env:=by rfl)(OJ:Kf [f] X.env=(false,eval f X.env)::Kf [] X.env:=by rfl)(N8:(Ko cp (Kf [f] X.env)).any (·.1)=false:=by rfl):
 W1 X (.Expr (.Call (.Attribute (.Name x p1) "setdefault" ap) [e,f] [] cp) pos) Γ N T:=λσ H0 R0 H R E D dn dr=>by
 obtain⟨a,ea,ha,hR⟩:=E.ent i _ hΓ;refine sS (iQ (i6 PySem.F.plainAttrs_dict PySem.F.slot_dict_setdefault PySem.F.type_dict_setdefault zN (bD hN hv hd NV) (aZ aQ (aZ aQ bG OJ) hs) NT Oe NY hs N8) OU) ?_;refine⟨.ref a,at_of ea,.inr (.inr (.inl ⟨rfl,.inl ⟨_,ha⟩⟩)),he σ H0 R0 H R E _ λv1 H1 R1 E1 s1 q1=>hf σ H0 R0 H1 R1 E1 _ λv2 H2 R2 E2 s2 q2=>?_⟩;cases q1
 cases q2
 obtain⟨a',OS,Pq,Ou⟩:=E2.ent i _ hΓ;rw[ea] at OS;cases OS
 refine⟨a,F,k,v,rfl,rfl,Pq,hz,λu=>?_⟩;cases q:(bQ F k).isSome with
 | true=>
   rw[q,ND rfl] at h;rw[ND rfl];refine dn σ H2 R2 _ E2 (s1.trans s2) ?_;rwa [set_same hΓ] at h
 | false=>
   rw[q,Nz (by decide)] at h;rw[Nz (by decide)];exact dn σ _ R2 _ (E2.upd (en:=.di (cw (F++[(k,v)]))) hΓ rfl ea Ou ⟨a,rfl,aD,Ou⟩) (s1.trans s2) h
def lT (X:Cx)(e:Expr)(Γ:Ga)(k:Int):Prop:=∀(σ:St)(H0 R0 H R:Hp),aA X.K σ H0 R0 H R Γ->∀(H':Hp)(Q:VK),ay R H'->Q (.int k) H'->fD X e σ H' Q
theorem rm (i:Nat){y:Int}(hΓ:Γ[i]?=some (.im ai y))(hN:X.N[i]?=some x:=by rfl)(hv:autoParam (dc X.env.scope x) OA)(hd:N3 x:=by decide)(NV:Ov x:=by decide):lT X (.Name x pos) Γ y:=λσ H0 R0 H R E H' Q s q=>by
 obtain⟨v,e,h⟩:=E.ent i _ hΓ;cases h
 exact eS (bD hN hv hd NV) ⟨_,at_of e,q⟩
theorem yW (i:Nat){ke ve le ue:Expr}{k l v u:Int}(hk:lT X ke Γ k)(hl:lT X le Γ l)(hv:PE X ve (tC (.int v)))(hu:PE X ue (tC (.int u)))(h:N (Γ.set i (.di (cw (dF [(k,v)] l u)))))(hN:X.N.Nodup:=by first | assumption | decide)(hi:X.N[i]?=some x:=by rfl)(hx:autoParam (Loc X.env.scope x) Pw)(hs:Km (.Dict [some ke,some le] [ve,ue] p2) (some (.Name x p1)) pos.line X.env=pure false:=by rfl)(hf:autoParam (X.fn x=true∨X.env.scope.names.lookup x=some .local) Pu):
 W1 X (.Assign [.Name x p1] (.Dict [some ke,some le] [ve,ue] p2) pos) Γ N T:=λσ H0 R0 H R E D dn dr=>by
 refine sS (gQ hN hi hx (zV (qO aQ hv (qO aQ hu zy)) rfl rfl (by simp) (by simp)) hs hf) λp hp=>?_;have sR:ay R (upd H p (.dK [])):=E.sub.trans (ay.fresh hp _);refine hk σ H0 R0 H R E _ _ sR ?_;refine hl σ H0 R0 H R E _ _ sR ?_;refine⟨aD,[(Nv k,.int v),(Nv l,.int u)],rfl,(by show 2<=15;decide),?_⟩;have E1:=E.grow (Ext.dq E.sub hp (.dK (bR (cw (dF [(k,v)] l u)))));have e:upd (upd H p (.dK [])) p (.dK (iG [] [(Nv k,.int v),(Nv l,.int u)]))=upd H p (.dK (bR (cw (dF [(k,v)] l u)))):=by
  rw[Ah];congr 2;exact lL [(k,v)] l u
 rw[e];exact dn _ _ R _ (E1.tO (u:=.dK (bR (cw (dF [(k,v)] l u)))) (en:=.di (cw (dF [(k,v)] l u))) i ⟨p,rfl,aD,E.sub.free hp⟩ (E.ext.h.free hp) λj e _ q w=>E.off hp j e q w) (ay.refl _) h
theorem zG {iter:Expr}{xs:List PV}(hz:xs.length<=Ke)(h:EV X iter Γ bu (.tup xs) Γ1):IV X tg iter Γ bu xs Γ1:=by
 refine⟨_,Br aQ,λσ H0 R0 H R E Rq q=>h σ H0 R0 H R E _ λv H1 R1 E1 s1 e1=>?_⟩;cases e1 with
 | @tup a vs _ hp pp=>
   have hq0:∀H' R':Hp,ay R1 R'->ay R' H'->du X.K H' a vs:=λH' R' sR sH=>du.of (sH _ _ (sR _ _ hp));refine⟨a,rfl,⟨_,hq0 H1 R1 (ay.refl _) E1.sub⟩,q _ H1 R1 E1 s1 hz λH' R' sR sH i=>⟨λx hx=>?_,λhi=>⟨_,hq0 H' R' sR sH,by rw[pp.pair.length];exact hi⟩⟩⟩;obtain⟨v,hv,hr⟩:=dz pp.pair hx;refine⟨⟨_,_,hq0 H' R' sR sH,hv⟩,λv2 H2 hy=>?_⟩;obtain⟨rfl,hy⟩:=hy;have:=hy _ (hq0 _ R' sR sH);rw[hv] at this;cases this
   exact⟨R',Ext.refl sH,hr.mono sR⟩
theorem xt (i:Nat)(hm:X.mg "len"=none)(hΓ:Γ[i]?=some (.di (cw F)))(hN:X.N[i]?=some x:=by rfl)(hv:autoParam (dc X.env.scope x) OA)(hd:N3 x:=by decide)(NV:Ov x:=by decide)(hs:Kf [.Name x p1] X.env=[(false,eval (.Name x p1) X.env)]:=by rfl)(hg:Gl X "len":=by rfl):EV X (.Call (.Name "len" p) [.Name x p1] [] pos) Γ ai (F.length:Int) Γ:=by
 intro σ H0 R0 H R E Q q;obtain⟨a,ea,ha,hR⟩:=E.ent i _ hΓ;refine eS (c5 nS hg hm KW (aZ (bD hN hv hd NV) bG hs) (by decide) (by decide) hs) ⟨.ref a,at_of ea,a,_,rfl,ha,?_⟩;unfold bR cw;rw[HU,HU];exact q _ H R E (ay.refl _) rfl
theorem xG (hm:X.mg "len"=none)(ha:EV X a Γ nU F Γ1)(hs:Kf [a] X.env=[(false,eval a X.env)]:=by rfl)(hg:Gl X "len":=by rfl):EV X (.Call (.Name "len" p) [a] [] pos) Γ ai (F.length:Int) Γ1:=
 EV.cast (zQ (kvs:=cw F) hm (EV.rep ha λ_ _ q=>q) hs hg) (by unfold cw;rw[HU])
theorem gP (i1 i2:Nat){x1 x2:Str}{k:Nat}{r':Rep β}{y1:α}{y2:β}(he:EV X e Γ (de r r') (y1,y2) Γ1)(h:N ((Γ1.set i1 (.im r y1)).set i2 (.im r' y2)))(hc:X.calm=true:=by rfl)(hN:X.N.Nodup:=by first | assumption | decide)(h1:X.N[i1]?=some x1:=by rfl)(l1:autoParam (Loc X.env.scope x1) Pw)(f1:autoParam (X.fn x1=true∨X.env.scope.names.lookup x1=some .local) Pu)(h2:X.N[i2]?=some x2:=by rfl)(l2:autoParam (Loc X.env.scope x2) Pw)(f2:autoParam (X.fn x2=true∨X.env.scope.names.lookup x2=some .local) Pu)(hs:LS [.Tuple [.Name x1 p1,.Name x2 p2] k tp] e pos.line X.env=pure false:=by rfl)(hw:LU [.Tuple [.Name x1 p1,.Name x2 p2] k tp] e X.env=pure none:=by rfl)(ho:(KY [.Tuple [.Name x1 p1,.Name x2 p2] k tp] X.env).map (·.2)=[K5 (.Tuple [.Name x1 p1,.Name x2 p2] k tp) X.env]:=by rfl):W1 X (.Assign [.Tuple [.Name x1 p1,.Name x2 p2] k tp] e pos) Γ N T:=λσ H0 R0 H R E D dn dr=>by
 refine sS (vF aQ (uz hc (iY (iX hN h1 l1 f1) (iY (iX hN h2 l2 f2) rH))) hs hw ho) (he σ H0 R0 H R E _ λv H1 R1 E1 s1 q1=>?_);obtain⟨a,v1,v2,rfl,ha,g1,g2⟩:=q1;exact⟨a,_,rfl,du.of (E1.sub _ _ ha),rfl,_,_,rfl,_,_,rfl,rfl,dn _ H1 R1 _ ((E1.set i1 (r:=r) g1).set i2 (r:=r') g2) s1 h⟩
theorem r9:∀{bs:List Bool}{us:Hw},Vals (bs.map V.bl) us->us.countP (fg (.bl true))=bs.countP id
 | [],_,.nil=>rfl
 | b::bs,u::us,.cons r t=>by
   rw[List.countP_cons,List.countP_cons,r9 t,md r rfl];cases b<;>rfl
theorem u7:qz X "list.count" (λx vs H Q=>∃(l:Addr)(bs:List Bool),x= .ref l/\vs=[.bl true]/\H l=some (.lst (bs.map V.bl))/\Q (.int ((bs.countP id:Nat):Int)) H):=by
 intro NI s σ H x vs v us Q I rx rv h;obtain⟨l,bs,rfl,rfl,hH,q⟩:=h;cases rx
 obtain⟨u,rfl,ru⟩:=rv.one;obtain⟨_,NJ,m,r1,hl,ho⟩:=I.ie hH;refine KP PySem.F.slot_list_count ⟨_,ho,rfl⟩ PySem.F.entry_list_count (PySem.F.args_list_count_2 _ _) (SeqAt.list_countAt l NJ.toArray m _ _ u (fg (.bl true))) ⟨ho,λw hw=>eE ru rfl r1 (i9 bs) w (by simpa using hw),?_⟩;rw[show NJ.toArray.toList=NJ from rfl,r9 r1];exact⟨.int _,H,I.tok _,⟨_,rfl⟩,q⟩
theorem vH:qz X "list.index" (λx vs H Q=>∃(l:Addr)(bs:List Bool)(j:Nat),x= .ref l/\vs=[.bl true]/\H l=some (.lst (bs.map V.bl))/\bs[j]?=some true/\(∀m,m<j->bs[m]?=some false)/\Q (.int (j:Nat)) H):=by
 intro NI s σ H x vs v us Q I rx rv h;obtain⟨l,bs,j,rfl,rfl,hH,hj,OP,q⟩:=h;cases rx
 obtain⟨u,rfl,ru⟩:=rv.one;obtain⟨hz,NJ,m,r1,hl,ho⟩:=I.ie hH;have jl:j<bs.length:=(HW.mp hj).1;have QY:NJ.length=bs.length:=by rw[← hl,HU]
 have at_:∀(n:Nat)(b:Bool),bs[n]?=some b->∀h1:n<NJ.length,fg (.bl true) NJ[n]=b:=λn b hb h1=>by
  obtain⟨u,e1,e2⟩:=r1.get (show(bs.map V.bl)[n]?=some (.bl b) by rw[Ii,hb];rfl);rw[Ib h1] at e1;rw[Option.some.inj e1,md e2 rfl];cases b<;>rfl
 refine KP PySem.F.slot_list_index ⟨_,ho,rfl⟩ PySem.F.entry_list_index (PySem.F.args_list_index_2 _ _)
  (SeqAt.list_indexAt l NJ.toArray m _ _ u (fg (.bl true)) j (by simpa[QY] using jl) ?_ ?_ ?_) ⟨ho,λw hw=>eE ru rfl r1 (i9 bs) w (by simpa using hw),?_⟩
 ·have:Ke<2 ^ 63-1:=by decide
  rw[HU] at hz;omega
 ·exact at_ j true hj (by omega)
 ·intro n hn hnj;exact at_ n false (OP n hnj) (by simpa using hn)
 ·exact⟨.int _,H,I.tok _,⟨_,rfl⟩,q⟩
theorem vK {bs:List Bool}(ha:EV X a Γ (ag aY) bs Γ1)(he:EV X e Γ1 aY true Γ2)(NT:Kk a "count" X.env (eval a X.env)=eval a X.env:=by rfl)(Oe:((Ko cp (Kf [e] X.env)).all (λx=> !x.1)&&(K7 cp (KQ [] X.env)).all (λx=>x.1.isSome)
  &&decide ([e].length+([]:List Kx).length+(if([]:List Kx).isEmpty then 0 else 1)<30))=true:=by rfl)(NY:(ap.endLine==cp.line)=true:=by rfl)(hs:Kf [e] X.env=(false,eval e X.env)::Kf [] X.env:=by rfl):EV X (.Call (.Attribute a "count" ap) [e] [] cp) Γ ai ((bs.countP id:Nat):Int) Γ2:=λσ H0 R0 H R E Q q=>by
 refine eS (i6 Mf PySem.F.slot_list_count PySem.F.type_list_count u7 aQ (aZ aQ bG hs) NT Oe NY hs rfl) (ha σ H0 R0 H R E _ λv H1 R1 E1 s1 e1=>?_);obtain⟨b,vs,rfl,hb,pp,hz⟩:=e1;have ev:=gZ pp;subst ev;refine⟨.inl ⟨rfl,_,bp.of (E1.sub _ _ hb)⟩,he σ H0 R0 H1 R1 E1 _ λu H2 R2 E2 s2 e2=>?_⟩;cases e2
 exact⟨b,bs,rfl,rfl,E2.sub _ _ (s2 _ _ hb),q _ _ _ E2 (s1.trans s2) rfl⟩
theorem uO {bs:List Bool}(ha:EV X a Γ (ag aY) bs Γ1)(he:EV X e Γ1 aY true Γ2)(hj:bs[j]?=some true)(OP:∀m,m<j->bs[m]?=some false)(NT:Kk a "index" X.env (eval a X.env)=eval a X.env:=by rfl)(Oe:((Ko cp (Kf [e] X.env)).all (λx=> !x.1)&&(K7 cp (KQ [] X.env)).all (λx=>x.1.isSome)
  &&decide ([e].length+([]:List Kx).length+(if([]:List Kx).isEmpty then 0 else 1)<30))=true:=by rfl)(NY:(ap.endLine==cp.line)=true:=by rfl)(hs:Kf [e] X.env=(false,eval e X.env)::Kf [] X.env:=by rfl):EV X (.Call (.Attribute a "index" ap) [e] [] cp) Γ ai (j:Nat) Γ2:=λσ H0 R0 H R E Q q=>by
 refine eS (i6 Mf PySem.F.slot_list_index PySem.F.type_list_index vH aQ (aZ aQ bG hs) NT Oe NY hs rfl) (ha σ H0 R0 H R E _ λv H1 R1 E1 s1 e1=>?_);obtain⟨b,vs,rfl,hb,pp,hz⟩:=e1;have ev:=gZ pp;subst ev;refine⟨.inl ⟨rfl,_,bp.of (E1.sub _ _ hb)⟩,he σ H0 R0 H1 R1 E1 _ λu H2 R2 E2 s2 e2=>?_⟩;cases e2
 exact⟨b,bs,j,rfl,rfl,E2.sub _ _ (s2 _ _ hb),hj,OP,q _ _ _ E2 (s1.trans s2) rfl⟩
theorem E9 {k:Int}:df X .Is (iU C nm) c9 k () false:=by
 refine⟨_,qL,λR H v u Q s a b q=>⟨b,?_⟩⟩;obtain⟨e,oe,vs,dx,rfl,_⟩:=a;rw[NH (λz=>by cases z)];exact q
theorem lZ {k:Int}:df X .Is ai c9 k () false:=by
 refine⟨_,qL,λR H v u Q s a b q=>⟨b,?_⟩⟩;cases a
 rw[NH (λz=>by cases z)];exact q
theorem hV:df X .Is c9 c9 () () true:=by
 refine⟨_,qL,λR H v u Q s e1 e2 q=>?_⟩;cases (show v=V.NS from e1)
 cases (show u=V.NS from e2)
 exact⟨rfl,q⟩
theorem cF :EV X (.Constant .none j pos) Γ c9 () Γ:=λσ H0 R0 H R E Q q=>eS Dl (q .NS H R E (ay.refl _) rfl)
theorem pf {f:Str}{k:Nat}{e0:Expr}{ep:Pos}{cls:Value}{fs:List (Str×V)}(C:gm X.prog X.w X.K X.mg X.base f k (fX S X.K))(hr:bz k X.A)(ha:HA X.bV (e0::es) Γ ps Γ)(hS:S X.K ps (.exc cls fs))(hg:Gl X f:=by rfl)(Pn:Km (.Call (.Name f p) (e0::es) [] pos) none ep.line X.env=pure false:=by rfl)(he:Kf (e0::es) X.env=(false,eval e0 X.env)::Kf es X.env:=by rfl)(N8:(Ko pos (Kf es X.env)).any (·.1)=false:=by rfl)(d2:N3 f:=by decide):
 TD X (.Expr (.Call (.Name f p) (e0::es) [] pos) ep::rest) Γ cls fs:=λσ H0 R0 H R E NI s I Ex q=>by
 refine Kt (wpAny_Expr_any ?_ I.quiet Pn);exact nX C hr ha hS E I (λs1 H1 ea T dx H2 R2 s' a1 a2 a3 a4 a5 a6 a7 _ a8 a9 a10=>q s1 H1 ea T dx H2 R2 s' a1 a2 a3 a4 a5 a6 a7 a8 a9 a10) hg d2 he N8
theorem vd :df X .NotIn ae ae x y (Ln.Str.occurrences y x 0 y.length 1).isEmpty:=⟨_,pW,λR H v u Q _ e1 e2 q=>by
 cases e1
 cases e2
 exact⟨x,y,rfl,rfl,by rw[Bool.not_not];exact q⟩⟩
theorem xC:df X .IsNot c9 c9 () () false:=⟨_,rO,λR H v u Q _ e1 e2 q=>by
 cases e1
 cases e2
 exact⟨rfl,q⟩⟩
theorem uU {k:Int}:df X .IsNot ai c9 k () true:=⟨_,rO,λR H v u Q _ e1 e2 q=>by
 cases e1
 cases e2
 exact⟨rfl,q⟩⟩
def Be:Hx->Ht->Prop
 | [],[]=>True
 | e::es,y::ys=>(∃j pos,e= .Constant (.str y) j pos)/\Be es ys
 | _,_=>False
theorem mX {X:Cx}{Γ:Ga}:∀{es:Hx}{ys:Ht},Be es ys->EA X es Γ ae ys Γ
 | [],[],_=>aK
 | _::_,_::_,⟨⟨_,_,h⟩,t⟩=>by
   subst h;exact au aq (mX t)
end Fc
namespace K1
open PySem L2 Fc
open PySem.Spec hiding Row
open PyProof.Rows hiding St
open PySem.Builtin.Int (intBits)
variable {P:Kh}{w:World}{K:MO}{mg:Hq}{base:Heap}{f:Addr}{fd:Kn}
abbrev aR (x:Int):Ent:=.im ai x
abbrev kj (x:Hs):Ent:=.im (ag ai) x
theorem jx {x y:Int}(h0:0<=x)(h1:x<4294967296):LO x y:=.of_left (Lo (by omega) (by omega))
variable {n:Nat}{i:Int}
theorem BB (h0:0<=i)(h1:i<n):fw n i=some i.toNat:=by unfold fw;rw[ND h0,ND h1]
theorem aM (h:n<=1000000):n<=Ke:=JJ h (by decide)
theorem aV {α:Type}{xs:List α}(d:α)(h0:0<=i)(h1:i<xs.length):cC xs i=some (xs.getD i.toNat d):=by
 rw[lR h0 h1,Ib (by omega),HY,Ib (by omega)];rfl
end K1
namespace K1
open PySem
variable {P:Kh}{w:World}{K:MO}{mg:Hq}{base:Heap}{f:Addr}{fd:Kn}
abbrev top (i:Nat):Stmt:=PySem.Challenge.pw_fewcounters_k62_whole_any_words.main.body.getD i (.Pass ⟨0,0,0,0⟩)
abbrev vU:Nat:=11
abbrev qU:Nat:=12
abbrev zR:Nat:=31
abbrev xl:Nat:=32
abbrev yS:Nat:=33
abbrev qJ:Nat:=34
abbrev mM:Nat:=35
abbrev t7:Nat:=36
abbrev kK:Nat:=37
abbrev rg:Nat:=38
abbrev rd:Nat:=39
abbrev ow:Nat:=40
abbrev vE:Nat:=41
abbrev qT:Nat:=42
abbrev sU:Nat:=43
abbrev qt:Nat:=44
abbrev vo:Nat:=47
abbrev lP:Nat:=48
abbrev oF:Nat:=49
abbrev oy:Nat:=50
abbrev nk:Nat:=51
abbrev kM:Nat:=52
abbrev tF:Nat:=53
abbrev mI:Nat:=54
abbrev oB:Nat:=55
abbrev kg:Nat:=56
abbrev nh:Nat:=57
abbrev kL:Nat:=58
abbrev lC:Nat:=59
abbrev oA:Nat:=61
abbrev pk:Nat:=62
abbrev oC:Nat:=63
abbrev oz:Nat:=64
abbrev mR:Nat:=65
abbrev rh:Nat:=66
abbrev kX:Nat:=67
abbrev qF:Nat:=68
abbrev oH:Nat:=69
abbrev oE:Nat:=70
abbrev oK:Nat:=71
abbrev lq:Nat:=72
abbrev qK:Nat:=73
abbrev Cg:Nat:=74
end K1
namespace K1
open PySem L2 Fc
open PySem.Spec hiding Row
open PyProof.Rows hiding St
open PySem.Builtin.Int (intBits)
variable {fd:Kn}
variable {P:Kh}{w:World}{K:MO}{mg:Hq}{base:Heap}{f:Addr}
structure cm (K:MO)(mg:Hq):Prop where
 len:mg "len"=none
 min:mg "min"=none
 range:mg "range"=none
 int:mg "int"=none
 list:mg "list"=none
 zip:mg "zip"=none
 enumerate:mg "enumerate"=none
 reversed:mg "reversed"=none
 any:mg "any"=none
 all:mg "all"=none
def tf (c:Int):Nat->Int
 | 0=>c
 | n+1=>tf c n/2147483587
def fq (d k:Int):Int:=d%10 ^ 18+48271*(k+1)
def kP (u k:Int):Int:=u*u%2147483629+69621*k
def pE (d k:Int):Int:=kP (fq d k) k*kP (fq d k) k%2147483587
def qC (ns:Hs)(k:Int):Int:=tf (ns.getD (k/8%63).toNat 0/10 ^ 18) (k%8).toNat
def oO (ns:Hs)(k:Int):Bool:=decide (k/8%63<(ns.length:Int))&&decide (10 ^ 18<=ns.getD (k/8%63).toNat 0)
def N6 (ns:Hs)(k:Int):Int:=
 if oO ns k=true/\0<qC ns k then qC ns k%2147483587
 else pE (if 0<ns.length then ns.getD (k%(ns.length:Int)).toNat 0 else 0) k
theorem iV (ns:Hs)(k:Int):0<=N6 ns k/\N6 ns k<2147483587:=by
 unfold N6;split
 ·exact⟨HS _ (by decide),HR _ (by decide)⟩
 ·unfold pE;exact⟨HS _ (by decide),HR _ (by decide)⟩
abbrev xU:Stmt:=top oA
abbrev Gk:Ht:=["_law_script","_law_k","_law_at","_law_cell","_law_j","_law_number"]
structure yt (ns:Hs):Prop where
 l:ns.length<=63
 b:∀n∈ns,intBits n<=2 ^ 20
def yg:cB:=λK ps T=>∃(ns:Hs)(k:Int),ps=[⟨bI,ns⟩,⟨ai,k⟩]/\yt ns/\0<=k/\k<=1000000/\T=bM K ai (· =N6 ns k)
theorem ED (M:cm K mg)(Df:Def K mg "_law_mixed" xU ["_law_script","_law_k"]):aH P w K mg base "_law_mixed" 1 (aG yg K):=by
 refine bw (N:=Gk) Df (λf NK A outer s H E qs T nd hr hS=>?_);obtain⟨ns,k,rfl,hs,k0,k1,rfl⟩:=hS;have h63:=hs.l;have a0:=HS (k/8) (show(63:Int)≠0 by decide);refine aj (aL 2 (bZ (iD (aa 1 rfl) ah ⟨by decide,by decide⟩) ah (by decide)) ?_);have rest:∀e3 e4:Ent,¬(oO ns k=true/\0<qC ns k)->WS (aT cW P w K mg base Gk "_law_mixed" (ak xU) f NK A outer s H E).bV ((ba xU).drop 2) [.im bI ns,aR k,aR (k/8%63),e3,e4,.no] (λ_=>False) (bM K ai (· =N6 ns k)):=by
  intro e3 e4 hn;refine aj (aL 3 ah ?_);change WS _ _ [.im bI ns,aR k,aR (k/8%63),aR 0,e4,.no] _ _;refine bL (N1:=λΓ=>Γ=[.im bI ns,aR k,aR (k/8%63),aR (if 0<ns.length then ns.getD (k%(ns.length:Int)).toNat 0 else 0),e4,.no]) (aP (aw kW (nr M.len (aa 0 rfl)) ah) (λh=>?_) (λh=>aI ?_)) ?_
  ·have hl:(0:Int)<ns.length:=NF h;have QV:(if(ns.length:Int)<63 then(ns.length:Int) else 63)=ns.length:=by
    by_cases q:(ns.length:Int)<63
    ·rw[ND q]
    ·rw[Nz q];omega
   have q0:=HS k (show(ns.length:Int)≠0 by omega);have q1:=HR k hl;refine ao (aL 3 (qS (aa 0 rfl) (bZ (aa 1 rfl) (EV.cast (zL M.min (af ah (af (nr M.len (aa 0 rfl)) av))) QV) hl) (aV 0 q0 q1)) ?_);rw[ND (by omega:0<ns.length)];rfl
  ·have hl:¬(0:Int)<ns.length:=NG h;rw[Nz (by omega)]
  rintro _ rfl;have e:N6 ns k=pE (if 0<ns.length then ns.getD (k%(ns.length:Int)).toNat 0 else 0) k:=by unfold N6;rw[Nz hn]
  rw[e];generalize (if 0<ns.length then ns.getD (k%(ns.length:Int)).toNat 0 else 0)=d;have u0:=HS d (show(10:Int) ^ 18≠0 by decide);have u1:=HR d (show(0:Int)<10 ^ 18 by decide);refine aj (aL 5 (y:=fq d k) (br (bZ (aa 3 rfl) (pO ah ah ⟨by decide,by decide,by decide⟩) (by decide)) (iq ah (br (aa 1 rfl) ah) (jx (by decide) (by decide)))) ?_);have n0:0<=fq d k:=by unfold fq;omega
  have n1:fq d k<2 ^ 63:=by unfold fq;omega
  have m0:=HS (fq d k*fq d k) (show(2147483629:Int)≠0 by decide);have m1:=HR (fq d k*fq d k) (show(0:Int)<2147483629 by decide);refine aj (aL 5 (y:=kP (fq d k) k) (br (bZ (iq (aa 5 rfl) (aa 5 rfl) (yz n0 n1)) ah (by decide)) (iq ah (aa 1 rfl) (jx (by decide) (by decide)))) ?_);have v0:0<=kP (fq d k) k:=by unfold kP;omega
  have v1:kP (fq d k) k<2 ^ 63:=by unfold kP;omega
  exact ao (aN (bZ (iq (aa 5 rfl) (aa 5 rfl) (yz v0 v1)) ah (by decide)) rfl)
 refine aj (aP (TW.tv (cR (aw fM (aa 2 rfl) (nr M.len (aa 0 rfl))) (λh=>cI (aw GB (qS (aa 0 rfl) (aa 2 rfl) (aV 0 a0 (NF h))) (pO ah ah ⟨by decide,by decide,by decide⟩))))) (λh=>?_) (λh=>aI (rest _ _ (λ⟨q,_⟩=>by rw[show oO ns k=false from h] at q;cases q))))
 have Ss:oO ns k=true:=h;obtain⟨hl,_⟩:=HK.mp Ss;have hl:=NF hl;refine aj (aL 3 (gL (qS (aa 0 rfl) (aa 2 rfl) (aV 0 a0 hl)) (pO ah ah ⟨by decide,by decide,by decide⟩) ⟨by decide,by decide⟩) ?_);have j0:=HS k (show(8:Int)≠0 by decide);have j1:=HR k (show(0:Int)<8 by decide);refine bL (N1:=λΓ=>∃e4,Γ=[.im bI ns,aR k,aR (k/8%63),aR (qC ns k),e4,.no]) (dj (λi Γ=>∃e4,Γ=[.im bI ns,aR k,aR (k/8%63),aR (tf (ns.getD (k/8%63).toNat 0/10 ^ 18) i),e4,.no]) (eF M.range (bZ (aa 1 rfl) ah (by decide)) ⟨by omega,by omega⟩) (bB 4) ⟨_,rfl⟩ (λi j Γ _ hΓ=>?_) (λΓ hΓ=>?_)) ?_
 ·obtain⟨e4,rfl⟩:=hΓ;exact ao (aL 3 (gL (aa 3 rfl) ah ⟨by decide,by decide⟩) ⟨_,rfl⟩)
 ·obtain⟨e4,rfl⟩:=hΓ;rw[cL];exact⟨e4,rfl⟩
 rintro _ ⟨e4,rfl⟩;refine ao (aP (aw kW (aa 3 rfl) ah) (λh=>?_) (λh=>aI (rest _ _ (λ⟨_,q⟩=>Ny q (NG h)))));have h:0<qC ns k:=NF h;exact ao (aN (bZ (aa 3 rfl) ah (by decide)) (by unfold N6;rw[ND ⟨Ss,h⟩]))
abbrev eB:Str:="abcdefghijklmnopqrstuvwxyz"
abbrev fN:Ht:=["part","end","do","call","if","else","while","leave","back"]
def km (m:Int):Nat->Str
 | 0=>""
 | n+1=>km m n++fL eB ((m/8+(n:Int)*(m/88))%26).toNat
def Od (n:Int):Str:=
 if n%4=0 then fN.getD (n/4%9).toNat ""
 else if n%4=1 then fN.getD (n/4%9).toNat ""++fL eB (n/4/9%26).toNat
 else km (n/4) (1+n/4%8).toNat
structure t8 (x:Str):Prop where
 l1:1<=x.length
 l8:x.length<=8
 az:∀c∈x.cps.toList,97<=c/\c<=122
theorem len_app (x y:Str):(x++y).length=x.length+y.length:=by
 show(x.cps++y.cps).size=_;rw[Array.size_append];rfl
variable {x:Str}
theorem rn {y:Str}{c:Nat}(h:c∈(x++y).cps.toList):c∈x.cps.toList∨c∈y.cps.toList:=by
 have e:(x++y).cps.toList=x.cps.toList++y.cps.toList:=by show(x.cps++y.cps).toList=_;simp
 rw[e] at h;exact Ij.mp h
theorem AK (i:Nat)(h:i<26):97<=eB.cps.getD i 0/\eB.cps.getD i 0<=122:=by
 have:∀j:Fin 26,97<=eB.cps.getD j.val 0/\eB.cps.getD j.val 0<=122:=by decide +kernel
 exact this ⟨i,h⟩
variable {i:Nat}
theorem vT (h:i<26):∀c∈(fL eB i).cps.toList,97<=c/\c<=122:=by
 intro c hc;have:c=eB.cps.getD i 0:=by simpa[fL] using hc
 rw[this];exact AK i h
theorem FR (x:Int):(x%26).toNat<26:=by
 have:=HS x (show(26:Int)≠0 by decide);have:=HR x (show(0:Int)<26 by decide);omega
theorem jP (m:Int):∀n,(km m n).length=n
 | 0=>rfl
 | n+1=>by rw[km,len_app,jP m n];rfl
theorem vL (m:Int):∀n,∀c∈(km m n).cps.toList,97<=c/\c<=122
 | 0,c,h=>by
   have e:(km m 0).cps.toList=[]:=rfl;rw[e] at h;cases h
 | n+1,c,h=>by
   rcases rn h with z | z
   ·exact vL m n c z
   ·exact vT (FR _) c z
theorem uZ (i:Nat)(h:i<9):t8 (fN.getD i "")/\(fN.getD i "").length<=5:=by
 have:∀j:Fin 9,(1<=(fN.getD j.val "").length/\(fN.getD j.val "").length<=5)/\∀c∈(fN.getD j.val "").cps.toList,97<=c/\c<=122:=by decide +kernel
 obtain⟨⟨a,b⟩,c⟩:=this ⟨i,h⟩;exact⟨⟨a,JJ b (by decide),c⟩,b⟩
theorem xv (n:Int):t8 (Od n):=by
 have q0:=HS (n/4) (show(9:Int)≠0 by decide);have q1:=HR (n/4) (show(0:Int)<9 by decide);have r0:=HS (n/4) (show(8:Int)≠0 by decide);have r1:=HR (n/4) (show(0:Int)<8 by decide);obtain⟨w1,w2⟩:=uZ (n/4%9).toNat (by omega);unfold Od;split
 ·exact w1
 split
 ·refine⟨?_,?_,λc hc=>?_⟩
  ·rw[len_app];have:=w1.l1;omega
  ·rw[len_app];show _+1<=8;omega
  ·rcases rn hc with z | z
   ·exact w1.az c z
   ·exact vT (FR _) c z
 ·exact⟨by rw[jP];omega,by rw[jP];omega,vL _ _⟩
abbrev FG:Stmt:=top pk
abbrev nNM:Ht:=["_law_number","_law_letters","_law_words","_law_way","_law_name_here","_law_k"]
def Fv:cB:=λK ps T=>∃n:Int,ps=[⟨ai,n⟩]/\0<=n/\n<2147483587/\T=bM K ae (· =Od n)
theorem DZ (M:cm K mg)(Df:Def K mg "_law_name" FG ["_law_number"]):aH P w K mg base "_law_name" 1 (aG Fv K):=by
 refine bw (N:=nNM) Df (λf NK A outer s H E qs T nd hr hS=>?_);obtain⟨n,rfl,n0,n1,rfl⟩:=hS;have q0:=HS (n/4) (show(9:Int)≠0 by decide);have q1:=HR (n/4) (show(0:Int)<9 by decide);have r0:=HS (n/4) (show(8:Int)≠0 by decide);have r1:=HR (n/4) (show(0:Int)<8 by decide);have ll:eB.length=26:=by decide +kernel
 have lz:eB.length<=Ke:=by rw[ll];decide
 refine aj (aL 1 (y:=eB) aq ?_);refine aj (aL 2 (y:=fN) (aO.im (aE (r:=ae) (au aq (au aq (au aq (au aq (au aq (au aq (au aq (au aq (au aq aK))))))))) (by show 9<=Ke;decide))) ?_);refine aj (aL 3 (bZ (aa 0 rfl) ah (by decide)) ?_);refine aj (aL 0 (iD (aa 0 rfl) ah ⟨by decide,by decide⟩) ?_);have hw:cC fN (n/4%9)=some (fN.getD (n/4%9).toNat ""):=aV (xs:=fN) "" q0 (by show _<((9:Nat):Int);omega);refine aj (aP (aw da (aa 3 rfl) ah) (λh=>?_) (λh=>aI ?_))
 ·have h:n%4=0:=NF h;exact ao (aN (bc (aa 2 rfl) (bZ (aa 0 rfl) ah (by decide)) hw) (by unfold Od;rw[ND h]))
 have h0:¬n%4=0:=NG h;have wl:=(uZ (n/4%9).toNat (by omega)).2;have s0:=HS (n/4/9) (show(26:Int)≠0 by decide);have s1:=HR (n/4/9) (show(0:Int)<26 by decide);refine aj (aP (aw da (aa 3 rfl) ah) (λh=>?_) (λh=>aI ?_))
 ·have h:n%4=1:=NF h;exact ao (aN (sv (bc (aa 2 rfl) (bZ (aa 0 rfl) ah (by decide)) hw) (vz (aa 1 rfl) (bZ (iD (aa 0 rfl) ah ⟨by decide,by decide⟩) ah (by decide)) s0 (by rw[ll];exact s1) lz) (JJ (show _<=6 by show _+1<=6;omega) (by decide))) (by unfold Od;rw[Nz h0,ND h]))
 have h1:¬n%4=1:=NG h;refine aj (aL 4 (y:=km (n/4) 0) aq ?_);refine bL (N1:=λΓ=>∃e5,Γ=[aR (n/4),.im ae eB,.im (ag ae) fN,aR (n%4),.im ae (Od n),e5]) (dj (λi Γ=>∃e5,Γ=[aR (n/4),.im ae eB,.im (ag ae) fN,aR (n%4),.im ae (km (n/4) i),e5]) (eF M.range (br ah (bZ (aa 0 rfl) ah (by decide))) ⟨by omega,by omega⟩) (bB 5) ⟨_,rfl⟩ (λi j Γ hj hΓ=>?_) (λΓ hΓ=>?_)) ?_
 ·obtain⟨e5,rfl⟩:=hΓ;obtain⟨jl,ej⟩:=iB hj;obtain rfl:j=(i:Int):=by omega
  have t0:=HS (n/4/8+(i:Int)*(n/4/88)) (show(26:Int)≠0 by decide);have t1:=HR (n/4/8+(i:Int)*(n/4/88)) (show(0:Int)<26 by decide);exact ao (aL 4 (y:=km (n/4) (i+1)) (sv (aa 4 rfl) (vz (aa 1 rfl) (bZ (br (iD (aa 0 rfl) ah ⟨by decide,by decide⟩) (iq (aa 5 rfl) (iD (aa 0 rfl) ah ⟨by decide,by decide⟩) (jx (by omega) (by omega)))) ah (by decide)) t0 (by rw[ll];exact t1) lz) (by rw[jP];exact JJ (show _<=20 by show _+1<=20;omega) (by decide))) ⟨_,rfl⟩)
 ·obtain⟨e5,rfl⟩:=hΓ;rw[cL];refine⟨e5,?_⟩;have e:Od n=km (n/4) (1+n/4%8).toNat:=by unfold Od;rw[Nz h0,Nz h1]
  rw[e]
 rintro _ ⟨e5,rfl⟩;exact ao (aN (aa 4 rfl) rfl)
def Oh {α:Type}(f:α->α):Nat->α->α
 | 0,x=>x
 | n+1,x=>f (Oh f n x)
structure bb where
 kind:Str
 name:Str
 word:Int
 within:Int
abbrev bN:bb:=⟨"","",0,0⟩
abbrev named:Ht:=["part","do","call","if","while"]
abbrev Oi:Ht:=["do","call","if","while","leave","back"]
abbrev NX:Ht:=["part","if","else","while"]
abbrev NO:Ht:=["else","end"]
structure fu where
 S:List bb
 O:Hs
 w:Nat
def aF (S:List bb)(o:Int):Str:=(S.getD o.toNat bN).kind
def bJ (k:Str)(ks:Ht):Bool:=
 if ks.isEmpty then decide (k="part")
 else if k="leave" then decide (("while":Str)∈ks)
 else if k="else" then decide (ks.getLast?.getD ""="if")
 else if k="end" then !decide (ks.getLast?.getD ""="if")
 else decide (k∈Oi)
abbrev NR (ws:Ht)(x:fu):Str:=ws.getD x.w ""
def ng (k:Str)(n:Str)(x:fu):bb:=⟨k,n,(x.w:Int),x.O.getLast?.getD (-1)⟩
def O5 (k n:Str)(x:fu):fu:=
 ⟨x.S++[ng k (if k∈named then n else "") x],(if k∈NO then x.O.dropLast else x.O)++(if k∈NX then[(x.S.length:Int)] else[]),x.w+(if k∈named then 2 else 1)⟩
def ko (ws:Ht)(x:fu):fu:=O5 (NR ws x) (ws.getD (x.w+1) "") x
def rJ (n:Nat):Bool:=decide (97<=n)&&decide (n<=122)
def eI (x:Str):Bool:=(decide (1<=x.length)&&decide (x.length<=8))&&x.cps.toList.all rJ
structure cJ (w:Str):Prop where
 l:w.length<=9
 f:32∉w.cps.toList
 a:∀c∈w.cps.toList,c<128
structure xp (ws:Ht)(x:fu):Prop where
 w:x.w<ws.length
 may:bJ (NR ws x) (x.O.map (aF x.S))=true
 nm:NR ws x∈named->x.w+1<ws.length/\eI (ws.getD (x.w+1) "")=true
theorem rB {α:Type}(f:α->α)(m:Nat)(x:α):∀n,Oh f (m+n) x=Oh f n (Oh f m x)
 | 0=>rfl
 | n+1=>by rw[← Nat.add_assoc,Oh,Oh,rB f m x n]
variable {S:List bb}
theorem yU {S':List bb}{o:Int}(h0:0<=o)(h1:o<(S.length:Int)):aF (S++S') o=aF S o:=by
 unfold aF;rw[HY,HY,IF (by omega)]
theorem C8 {S':List bb}{s:bb}:aF (S++s::S') (S.length:Int)=s.kind:=by
 unfold aF;rw[HY,show((S.length:Nat):Int).toNat=S.length by omega];simp
variable {O:Hs}
theorem mQ {S':List bb}(h:∀o∈O,0<=o/\o<(S.length:Int)):O.map (aF (S++S'))=O.map (aF S):=Jp λo ho=>yU (h o ho).1 (h o ho).2
structure fU (K:MO)(mg:Hq):Prop where
 most:∃t,mg "MOST_LETTERS"=some (.int 8 t)
 nost:∃t,mg "NO_STEP"=some (.int (-1) t)
 named:nt K mg "NAMED" named
 Oi:nt K mg "SENTENCES" Oi
 NX:nt K mg "OPENING" NX
 NO:nt K mg "CLOSING" NO
abbrev ei:Ht:=["kind","name","word","within"]
theorem gh (h:decide (x∈ei)=true):x∈ei:=NF h
def Fn (s:bb):gO:=[("kind",ae.at_ s.kind),("name",ae.at_ s.name),("word",ai.at_ s.word),("within",ai.at_ s.within)]
def aW (C:Addr):Rep bb:=⟨λK R v s=>∃x dx vs,v= .ref x/\R x=some (.ins C dx vs)/\ef (Fn s) K R vs,λs ⟨x,dx,vs,e,h1,h2⟩=>⟨x,dx,vs,e,s _ _ h1,h2.mono s⟩⟩
variable {X:Cx}{Γ Γ1:Ga}{C:Addr}{e:Expr}{pos:Pos}
section
variable {s:bb}
theorem eu (hC:bh X.K C ei)(he:EV X e Γ (aW C) s Γ1)(hb:Kk e "kind" X.env (eval e X.env)=eval e X.env:=by rfl):EV X (.Attribute e "kind" pos) Γ ae s.kind Γ1:=gC hC (gh (by decide)) he (λK R v ⟨x,dx,vs,e,h1,h2⟩=>by obtain⟨u,q1,q2⟩:=h2.get (f:="kind") rfl;exact⟨x,dx,vs,u,e,h1,q1,q2⟩) hb
theorem lJ (hC:bh X.K C ei)(he:EV X e Γ (aW C) s Γ1)(hb:Kk e "name" X.env (eval e X.env)=eval e X.env:=by rfl):EV X (.Attribute e "name" pos) Γ ae s.name Γ1:=gC hC (gh (by decide)) he (λK R v ⟨x,dx,vs,e,h1,h2⟩=>by obtain⟨u,q1,q2⟩:=h2.get (f:="name") rfl;exact⟨x,dx,vs,u,e,h1,q1,q2⟩) hb
theorem oP (hC:bh X.K C ei)(he:EV X e Γ (aW C) s Γ1)(hb:Kk e "word" X.env (eval e X.env)=eval e X.env:=by rfl):EV X (.Attribute e "word" pos) Γ ai s.word Γ1:=gC hC (gh (by decide)) he (λK R v ⟨x,dx,vs,e,h1,h2⟩=>by obtain⟨u,q1,q2⟩:=h2.get (f:="word") rfl;exact⟨x,dx,vs,u,e,h1,q1,q2⟩) hb
theorem lY (hC:bh X.K C ei)(he:EV X e Γ (aW C) s Γ1)(hb:Kk e "within" X.env (eval e X.env)=eval e X.env:=by rfl):EV X (.Attribute e "within" pos) Γ ai s.within Γ1:=gC hC (gh (by decide)) he (λK R v ⟨x,dx,vs,e,h1,h2⟩=>by obtain⟨u,q1,q2⟩:=h2.get (f:="within") rfl;exact⟨x,dx,vs,u,e,h1,q1,q2⟩) hb
end
variable {n:Nat}{α:Type}{ks:Ht}{xs:List α}
abbrev ou:Stmt:=match top zR with
 | .ClassDef _ _ _ b _ _ _ _ _ _ _=>b.getD 0 (.Pass ⟨0,0,0,0⟩)
 | s=>s
abbrev qr:Ht:=["self","kind","name","word","within"]
theorem Bl:bq qr qr (ak ou):=OT
def FE (C0:Addr):wb:=λK C ps Pd=>C=C0/\∃s:bb,ps=[⟨ae,s.kind⟩,⟨ae,s.name⟩,⟨ai,s.word⟩,⟨ai,s.within⟩]/\Pd=λfs=>fs=Fn s
theorem Er {C0:Addr}(HC:bh K C0 ei)(F:cY K "__init__" "Step.__init__" ou f fd):ck P w K mg base cW 1 f fd qr (rW (FE C0) K):=by
 have nd:=Bl.nd;refine uX F Bl (λC qs Pd ⟨_,m,e,_⟩=>by rw[e];rfl) (λNK A outer st H E C x dx qs Pd hr hS=>?_);obtain⟨rfl,s,rfl,rfl⟩:=hS;refine aj (fc 0 HC (gh (by decide)) (aa 1 rfl) rfl rfl (by show 0<1000;decide) ?_);refine aj (fc 0 HC (gh (by decide)) (aa 2 rfl) rfl rfl (by show 1<1000;decide) ?_);refine aj (fc 0 HC (gh (by decide)) (aa 3 rfl) rfl rfl (by show 2<1000;decide) ?_);exact ao (fc 0 HC (gh (by decide)) (aa 4 rfl) rfl rfl (by show 3<1000;decide) ⟨_,rfl,rfl⟩)
abbrev Ce:Stmt:=top t7
def v5:cB:=λK ps T=>∃x:Str,ps=[⟨ae,x⟩]/\cJ x/\T=bM K aY (· =eI x)
theorem r8 {p:Nat->Bool}:(je x).all (λc=>p (c.cps.getD 0 0))=x.cps.toList.all p:=by
 unfold je;rw[List.all_map];rw[HG,IZ,IZ];refine⟨λh c hc=>?_,λh i hi=>?_⟩
 ·obtain⟨i,hi⟩:=IU.mp hc;have il:=(HW.mp hi).1;have:=h i (Jb.mpr (by simpa using il));have e:x.cps.getD i 0=c:=by rw[HB,← Array.getElem?_toList,hi];rfl
  simpa[fL,e] using this
 ·have il:i<x.cps.size:=Jb.mp hi;have:=h (x.cps.getD i 0) (by rw[HB];simp[il]);simpa[fL] using this
theorem Ee :(!decide ((⟨#[n]⟩:Str).cps.toList<("a":Str).cps.toList))=decide (97<=n)/\(!decide (("z":Str).cps.toList<(⟨#[n]⟩:Str).cps.toList))=decide (n<=122):=by
 have ea:("a":Str).cps.toList=[97]:=by decide +kernel
 have ez:("z":Str).cps.toList=[122]:=by decide +kernel
 rw[ea,ez,show(⟨#[n]⟩:Str).cps.toList=[n] from rfl];have h:∀a b:Nat,(!decide ([a] < [b]))=decide (b<=a):=λa b=>by
  by_cases q:b<=a
  ·rw[decide_eq_true q,NH (λz=>by cases z with
    | rel h1=>omega
    | cons h1=>cases h1)];rfl
  ·rw[NH q,decide_eq_true (show([a]:List Nat) < [b] from List.Lex.rel (by omega))];rfl
 exact⟨h _ _,h _ _⟩
theorem cJ.asc (h:cJ x):x.cps.all (· < 128)=true:=by
 rw[Array.all_eq_true];intro i hi;exact decide_eq_true (h.a x.cps[i] (by simp))
theorem cJ.le (h:cJ x):x.cps.size<=Ke:=JJ h.l (by decide)
theorem E8 (M:cm K mg)(M2:fU K mg)(Df:Def K mg "is_name" Ce ["word"]):aH P w K mg base "is_name" 1 (aG v5 K):=by
 have Ph:Ir [("sign":Str)]:=by decide
 refine bw (N:=["word"]) Df (λf NK A outer s H E qs T nd hr hS=>?_);obtain⟨x,rfl,hx,rfl⟩:=hS;obtain⟨t,hmo⟩:=M2.most;refine ao (aN (iT (kR Ct Ct ah (mO M.len (aa 0 rfl) hx.le) (iJ hmo)) (λ_=>mz (B8 M.all (aO.im (cy (own:=["sign"]) (fr:=[]) (ix:=[]) (ra:=ae) (rb:=aY) (p:=λ_=>true) (f:=λc=>rJ (c.cps.getD 0 0)) (bY (so:=ak Ce) (N0:=["word"]) rfl rfl (λx h=>bC h) (by decide +kernel)) (vc (aa 0 rfl) hx.asc hx.le)
  (λC s H ex=>bB 0) (λx=>⟨.inr rfl,trivial⟩) (λC s H ex c hc=>eU) (λC s H ex c hc _=>?_)))))) ?_)
 ·unfold je at hc;obtain⟨i,_,rfl⟩:=Io.mp hc;have:=Ee (n:=x.cps.getD i 0);exact EV.cast (kR yb yb aq (aa 0 rfl) aq) (by unfold fL;rw[this.1,this.2];rfl)
 ·unfold eI;rw[II.mpr λ_ _=>rfl,List.all_map,show(id ∘ λc:Str=>rJ (c.cps.getD 0 0))=λc=>rJ (c.cps.getD 0 0) from rfl,r8];have e1:decide ((1:Int)<=(x.length:Int))=decide (1<=x.length):=by congr 1;exact propext (by omega)
  have e2:decide ((x.length:Int)<=8)=decide (x.length<=8):=by congr 1;exact propext (by omega)
  rw[e1,e2]
abbrev yn:Stmt:=top mM
theorem tm:bq ["words","word"] ["words","word"] (ak yn):=OT
def x6:cB:=λK ps T=>∃(ws:Ht)(i:Nat),ps=[⟨ag ae,ws⟩,⟨ai,(i:Int)⟩]/\(∀w∈ws,cJ w)/\i+1<ws.length/\eI (ws.getD (i+1) "")=true/\T=bM K ae (· =ws.getD (i+1) "")
theorem getD_in {d:α}(h:i<xs.length):xs.getD i d∈xs:=by
 rw[HY,Ib h];exact Jm _
theorem Eg (M:cm K mg)(CI:aH P w K mg base "is_name" 1 (aG v5 K))(Df:Def K mg "name_behind" yn ["words","word"]):aH P w K mg base "name_behind" 2 (aG x6 K):=by
 have nd:=tm.nd;refine bw (Sc:=tm) Df (λf NK A outer s H E qs T _ hr hS=>?_);obtain⟨ws,i,rfl,hw,hi,hn,rfl⟩:=hS;have Ow:cC ws ((i:Int)+1)=some (ws.getD (i+1) ""):=aV (xs:=ws) (i:=((i:Int)+1)) "" (by omega) (by omega);refine aj (aP (TW.tv (gy (aw da (br (aa 1 rfl) ah) (cj M.len (aa 0 rfl))) (λ_=>fZ (dv (cV (ax CI hr (af (bc (aa 0 rfl) (br (aa 1 rfl) ah) Ow) av) ⟨_,rfl,hw _ (getD_in hi),rfl⟩)))))) (λh=>?_) (λh=>aI ?_))
 ·rw[hn,NH (show¬(i:Int)+1=(ws.length:Int) by omega)] at h;cases h
 ·exact ao (aN (bc (aa 0 rfl) (br (aa 1 rfl) ah) Ow) rfl)
abbrev Gb:Stmt:=top qJ
def va:cB:=λK ps T=>∃(k:Str)(ks:Ht),ps=[⟨ae,k⟩,⟨ag ae,ks⟩]/\T=bM K aY (· =bJ k ks)
theorem iN (h:ks≠[]):cC ks (-1)=some (ks.getLast?.getD ""):=by
 obtain⟨l,x,rfl⟩:∃l x,ks=l++[x]:=⟨ks.dropLast,ks.getLast h,(Iq h).symm⟩;unfold cC;rw[show fw (l++[x]).length (-1)=some l.length by unfold fw;simp;omega];simp
theorem EI (M2:fU K mg)(Df:Def K mg "may_stand" Gb ["kind","opened"]):aH P w K mg base "may_stand" 1 (aG va K):=by
 refine bw (N:=["kind","opened"]) Df (λf NK A outer s H E qs T nd hr hS=>?_);obtain⟨k,ks,rfl,rfl⟩:=hS;refine aj (aP (dv (lu (aa 1 rfl))) (λh=>?_) (λh=>aI ?_))
 ·have h:ks.isEmpty=true:=by simpa using h
  exact ao (aN (dh bW (aa 0 rfl) aq) (by unfold bJ;rw[ND h]))
 have h0:¬ks.isEmpty=true:=by simpa using h
 have N2:ks≠[]:=λz=>h0 (by rw[z];rfl);refine aj (aP (aw bW (aa 0 rfl) aq) (λh=>?_) (λh=>aI ?_))
 ·have h:k="leave":=NF h;exact ao (aN (dh my aq (aa 1 rfl)) (by unfold bJ;rw[Nz h0,ND h]))
 have h1:¬k="leave":=NG h;refine aj (aP (aw bW (aa 0 rfl) aq) (λh=>?_) (λh=>aI ?_))
 ·have h:k="else":=NF h;exact ao (aN (dh bW (bc (aa 1 rfl) (cX ah) (iN N2)) aq) (by unfold bJ;rw[Nz h0,Nz h1,ND h]))
 have h2:¬k="else":=NG h;refine aj (aP (aw bW (aa 0 rfl) aq) (λh=>?_) (λh=>aI ?_))
 ·have h:k="end":=NF h;exact ao (aN (dh jY (bc (aa 1 rfl) (cX ah) (iN N2)) aq) (by unfold bJ;rw[Nz h0,Nz h1,Nz h2,ND h]))
 have h3:¬k="end":=NG h;exact ao (aN (dh gA (aa 0 rfl) (dP M2.Oi)) (by unfold bJ;rw[Nz h0,Nz h1,Nz h2,Nz h3]))
variable {ws:Ht}
abbrev rx (ws:Ht)(i:Nat):fu:=Oh (ko ws) i ⟨[],[],0⟩
theorem cz (ws:Ht):∀i,(rx ws i).S.length=i/\i<=(rx ws i).w/\(rx ws i).O.length<=i/\∀o∈(rx ws i).O,0<=o/\o<(i:Int)
 | 0=>⟨rfl,JI _,JI _,λo h=>by cases h⟩
 | i+1=>by
   obtain⟨a,b,c,d⟩:=cz ws i;unfold rx at *;rw[Oh];generalize Oh (ko ws) i ⟨[],[],0⟩=x at a b c d;unfold ko O5;refine⟨by rw[HV,a];rfl,?_,?_,?_⟩
   ·dsimp only;split<;>omega
   ·rw[HV];have h1:(if NR ws x∈NO then x.O.dropLast else x.O).length<=x.O.length:=by
     split
     ·rw[Jg];omega
     ·exact JI _
    have h2:(if NR ws x∈NX then[(x.S.length:Int)] else[]).length<=1:=by split<;>simp
    omega
   ·intro o ho;rcases Ij.mp ho with h | h
    ·have:o∈x.O:=by
      split at h
      ·exact(Jd _).mem h
      ·exact h
     have:=d o this;omega
    ·split at h
     ·rw[HX.mp h];omega
     ·cases h
theorem wK (h:O≠[]):cC O (-1)=some (O.getLast?.getD (-1)):=by
 obtain⟨l,x,rfl⟩:∃l x,O=l++[x]:=⟨O.dropLast,O.getLast h,(Iq h).symm⟩;unfold cC;rw[show fw (l++[x]).length (-1)=some l.length by unfold fw;simp;omega];simp
theorem xM (h:O≠[]):O[O.length-1]?=some (O.getLast?.getD (-1)):=by
 obtain⟨l,x,rfl⟩:∃l x,O=l++[x]:=⟨O.dropLast,O.getLast h,(Iq h).symm⟩;simp
structure eT (ws:Ht):Prop where
 ne:ws≠[]
 l:ws.length<=1000
 w:∀w∈ws,cJ w
theorem eT.join (h:eT ws):JoinOk " " ws=true:=by
 unfold JoinOk;have:=h.l;rw[StrLaws.joinFits (B:=9) (λy hy=>(h.w y hy).l) (by rw[show(" ":Str).length=1 by decide +kernel];omega)];rfl
theorem eT.split (h:eT ws):Txt.split (Str.join " " ws) " "=ws:=by
 rw[xE];exact tX h.ne λw q=>(h.w w q).f
theorem eT.len (h:eT ws):(Str.join " " ws).length<=Ke:=by
 have:=joinOk_length h.join;rwa [dZ] at this
def bU (ws:Ht)(n:Nat):Prop:=∀i,i<n->xp ws (rx ws i)
inductive dW (ws:Ht) (y:fu):Int->Prop
 | may (h:y.w<ws.length) (hm:bJ (NR ws y) (y.O.map (aF y.S))=false):dW ws y (y.w:Int)
 | nm (h:y.w<ws.length) (hm:bJ (NR ws y) (y.O.map (aF y.S))=true) (hn:NR ws y∈named) (hb:y.w+1=ws.length∨eI (ws.getD (y.w+1) "")=false):dW ws y ((y.w:Int)+1)
 | more (h:y.w=ws.length) (ho:y.O≠[]):dW ws y (ws.length:Int)
variable {A:Kj}{outer:List Env}{E:XK}{NK:Value}{kd:Str}{y:fu}
section
structure j3 (P:Kh)(w:World)(K:MO)(mg:Hq)(base:Heap)(C:Addr):Prop where
 cl:bh K C ei
 ex:∃fi OE,Mk K C fi/\ck P w K mg base cW 1 fi OE qr (rW (FE C) K)/\Binds K OE qr []
 mg:mg "Step"=some (.ref C)
theorem zY {es:Hx}{p:Pos}{s:bb}(G:j3 X.prog X.w X.K X.mg X.base C)(hr:bz 2 X.A)(ha:HA X (e::es) Γ [⟨ae,s.kind⟩,⟨ae,s.name⟩,⟨ai,s.word⟩,⟨ai,s.within⟩] Γ1)(hg:Gl X "Step":=by rfl)(he:Kf (e::es) X.env=(false,eval e X.env)::Kf es X.env:=by rfl)(N8:(Ko pos (Kf es X.env)).any (·.1)=false:=by rfl):EV X (.Call (.Name "Step" p) (e::es) [] pos) Γ (aW C) s Γ1:=by
 obtain⟨fi,OE,MK,SI,bi⟩:=G.ex;exact rD MK SI hr G.mg bi ha ⟨rfl,s,rfl,rfl⟩ (λfs R x dx vs hP h1 h2=>by subst hP;exact⟨x,dx,vs,rfl,h2,h1⟩) hg (by decide) he N8
structure rY (P:Kh)(w:World)(K:MO)(mg:Hq)(base:Heap)(x:Str)(C:Addr):Prop where
 ex:∃CE fi OE,jE K mg x "word" C CE fi/\ck P w K mg base cW 1 fi OE ["self","word"] (qV C "word")/\Binds K OE ["self","word"] []
theorem jX {N:Ht}{qual:Str}{scope:Scope}{cd:Value}{s:Kc}{H R:Hp}{np cp:Pos}{a:Expr}{n:Int}{rest:List Stmt}(G:rY P w K mg base x C)(hr:bz 2 (A.deeper (J4 qual scope s.heap.objs.size f cd)))(ha:HA (aT (bS P w) P w K mg base N qual scope f cd A outer s H E).bV [a] Γ [⟨ai,n⟩] Γ1)(q:∀H' R' dx,Ext H R H' R'->H dx=none->R' dx=some (.xd [("word",.int n)])->E (.ref C) (some dx) H')(hg:Gl (aT (bS P w) P w K mg base N qual scope f cd A outer s H E) x:=by rfl)(Om:N3 x:=by decide)(he:Kf [a] (aT (bS P w) P w K mg base N qual scope f cd A outer s H E).env=(false,eval a (aT (bS P w) P w K mg base N qual scope f cd A outer s H E).env)::Kf [] (aT (bS P w) P w K mg base N qual scope f cd A outer s H E).env:=by rfl):
 RS (aT (bS P w) P w K mg base N qual scope f cd A outer s H E) H R (.Raise (some (.Call (.Name x np) [a] [] cp)) none pos::rest) Γ:=by
 obtain⟨CE,fi,OE,ci,FI,bi⟩:=G.ex;exact wd ci FI bi hr ha q hg Om he
abbrev xw (C:Addr)(k:Int):pN:=.exc (.ref C) [("word",.int k)]
def Bz (C:Addr):gN:=λK ps o=>∃(ws:Ht)(i:Nat),ps=[⟨ag ae,ws⟩,⟨ai,(i:Int)⟩]/\(∀w∈ws,cJ w)/\i<ws.length/\(i+1=ws.length∨eI (ws.getD (i+1) "")=false)/\o=xw C ((i:Int)+1)
theorem C1 (M:cm K mg)(G:rY P w K mg base "NoText" C)(CI:aH P w K mg base "is_name" 1 (aG v5 K))(F:cY K "name_behind" "name_behind" yn f fd)(hm:mg "name_behind"=some (.ref f))(hb:Binds K fd ["words","word"] []):gm P w K mg base "name_behind" 3 (fX (Bz C) K):=by
 have nd:=tm.nd;refine lK (k:=2) F tm hm hb (λqs o ⟨_,_,e,_⟩=>by rw[e];rfl) (λqs T ⟨_,_,_,_,_,_,e⟩=>by cases e) (λNK A outer s H R E qs c fs hr hS q=>?_);obtain⟨ws,i,rfl,hw,hi,hb,e⟩:=hS;cases e
 have CI:=CI.mono (show 1<=2 by decide);refine oX (TV.cast (b:=decide ((i:Int)+1=(ws.length:Int)) || !eI (ws.getD (i+1) "")) (b':=true) (TW.tv (gy (aw da (br (aa 1 rfl) ah) (cj M.len (aa 0 rfl))) (λh=>?_))) ?_) (jX G hr (af (br (aa 1 rfl) ah) av) q)
 ·have h:¬(i:Int)+1=(ws.length:Int):=NG h;exact fZ (dv (cV (ax CI hr (af (bc (aa 0 rfl) (br (aa 1 rfl) ah) (aV (xs:=ws) (i:=((i:Int)+1)) "" (by omega) (by omega))) av) ⟨_,rfl,hw _ (getD_in (by omega)),rfl⟩)))
 ·rcases hb with h | h
  ·rw[decide_eq_true (show(i:Int)+1=(ws.length:Int) by omega)];rfl
  ·rw[h];simp
abbrev gR:Stmt:=top yS
abbrev oh:Ht:=["text","words","steps","opened","word","kind","name"]
theorem nv:bq oh ["text"] (ak gR):=OT
abbrev vM:List Stmt:=match (ba gR).getD 4 (.Pass ⟨0,0,0,0⟩) with
 | .While _ b _ _=>b
 | _=>[]
abbrev cRD:Expr:=match vM.getD 1 (.Pass ⟨0,0,0,0⟩) with
 | .If c _ _ _=>c
 | _=>.Name "" ⟨0,0,0,0⟩
variable {CX:h7}{s:Kc}{H:Hp}{txt:Str}{e5 e6:Ent}{T:RT}
abbrev iy (C:Addr)(txt:Str)(ws:Ht)(y:fu)(e5 e6:Ent):Ga:=[.im ae txt,.im (ag ae) ws,.mu (aW C) y.S,.mu ai y.O,aR (y.w:Int),e5,e6]
theorem tq {Sy:List bb}{Oy:Hs}{wy:Int}(G:j3 P w K mg base C)(CM:aH P w K mg base "may_stand" 2 (aG va K))(hr:bz 2 (A.deeper (J4 "read" (ak gR) s.heap.objs.size f NK)))(lS:Sy.length<=1000)(lO:Oy.length<=1000)(ro:∀o∈Oy,0<=o/\o<(Sy.length:Int)):
 TV (aT CX P w K mg base oh "read" (ak gR) f NK A outer s H E).bV cRD [.im ae txt,.im (ag ae) ws,.mu (aW C) Sy,.mu ai Oy,aR wy,.im ae kd,e6] (!bJ kd (Oy.map (aF Sy))) [.im ae txt,.im (ag ae) ws,.mu (aW C) Sy,.mu ai Oy,aR wy,.im ae kd,e6]:=by
 have Ph:Ir [("number":Str),"steps"]:=by decide
 have nd:=nv.nd;have cc:(Oy.filter λ_=>true).map (aF Sy)=Oy.map (aF Sy):=by rw[II.mpr λ_ _=>rfl]
 exact TV.OG (zJ (i:=2) (j:=3) (by decide) rfl rfl (aM (by omega)) (aM (by omega))) (dv (cV (ax CM hr (af (aa 5 rfl) (af (aO.im (cy (own:=["number"]) (fr:=["steps"]) (ix:=[2]) (ra:=ai) (rb:=ae) (p:=λ_=>true) (f:=aF Sy) (bY (so:=ak gR) (N0:=oh) rfl rfl (λx h=>bC h) (by decide +kernel)) (cZ (aa 3 rfl))
  (λC s H ex=>bB 0) (λx=>⟨.inr rfl,.inl rfl,trivial⟩) (λC s H ex c hc=>eU) (λC' s H ex o ho _=>eu (C:=C) G.cl (bc (aa 1 rfl) (aa 0 rfl) (aV (xs:=Sy) (i:=o) bN (ro o ho).1 (ro o ho).2))))) av)) ⟨kd,Oy.map (aF Sy),by rw[cc],rfl⟩)))
theorem AE (M:cm K mg)(M2:fU K mg)(G:j3 P w K mg base C)(CM:aH P w K mg base "may_stand" 2 (aG va K))(CN:aH P w K mg base "name_behind" 2 (aG x6 K))(hr:bz 2 (A.deeper (J4 "read" (ak gR) s.heap.objs.size f NK)))(hw:∀w∈ws,cJ w)(lS:y.S.length<=999)(lO:y.O.length<=999)(ro:∀o∈y.O,0<=o/\o<(y.S.length:Int))(hy:xp ws y):
 WS (aT CX P w K mg base oh "read" (ak gR) f NK A outer s H E).bV vM (iy C txt ws y e5 e6) (λΓ=>∃e5 e6,Γ=iy C txt ws (ko ws y) e5 e6) T:=by
 have nd:=nv.nd;obtain⟨t,OP⟩:=M2.nost;obtain⟨rw_,Px,Rx⟩:=hy;obtain⟨Sy,Oy,wy⟩:=y;dsimp only at lS lO ro rw_ Px Rx;change WS _ _ [.im ae txt,.im (ag ae) ws,.mu (aW C) Sy,.mu ai Oy,aR (wy:Int),e5,e6] _ _;have Ow:cC ws (wy:Int)=some (ws.getD wy ""):=aV (xs:=ws) (i:=(wy:Int)) "" (by omega) (by omega);refine aj (aL 5 (y:=ws.getD wy "") (bc (aa 1 rfl) (aa 4 rfl) Ow) ?_);have hs:ko ws ⟨Sy,Oy,wy⟩=O5 (ws.getD wy "") (ws.getD (wy+1) "") ⟨Sy,Oy,wy⟩:=rfl;change bJ (ws.getD wy "") (Oy.map (aF Sy))=true at Px;change ws.getD wy ""∈named->wy+1<ws.length/\eI (ws.getD (wy+1) "")=true at Rx;generalize hkd:ws.getD wy ""=kd at Px Rx hs;refine aj (aP (tq (ws:=ws) G CM hr (by omega) (by omega) ro) (λhh=>?_) (λ_=>aI ?_))
 ·rw[Px] at hh;cases hh
 refine aj (aL 6 (y:=if kd∈named then ws.getD (wy+1) "" else "") (EV.cast (jf (aw gA (aa 5 rfl) (dP M2.named)) (λhh=>ax CN hr (af (aa 1 rfl) (af (aa 4 rfl) av)) ⟨ws,wy,rfl,hw,(Rx (NF hh)).1,(Rx (NF hh)).2,rfl⟩) (λ_=>aq)) (by by_cases z:kd∈named<;>simp[z])) ?_)
 generalize hnam:(if kd∈named then ws.getD (wy+1) "" else "")=Qz;have Sa:(if(!Oy.isEmpty)=true then Oy.getLast?.getD (-1) else -1)=Oy.getLast?.getD (-1):=by cases Oy<;>rfl
 refine aj (cb 2 (y:=(⟨kd,Qz,(wy:Int),Oy.getLast?.getD (-1)⟩:bb)) (zY (s:=⟨kd,Qz,(wy:Int),Oy.getLast?.getD (-1)⟩) G hr (af (aa 5 rfl) (af (aa 6 rfl) (af (aa 4 rfl) (af (EV.cast (jf (mq 3 rfl) (λhh=>iK 3 (cX ah) rfl rfl (wK (λz=>by rw[z] at hh;cases hh))) (λ_=>iJ OP)) Sa) av))))) rfl rfl (JN (show _<=1000 by omega) (by decide)) ?_)
 change WS _ _ [.im ae txt,.im (ag ae) ws,.mu (aW C) (Sy++[⟨kd,Qz,(wy:Int),Oy.getLast?.getD (-1)⟩]),.mu ai Oy,aR (wy:Int),.im ae kd,.im ae Qz] _ _;have hS':(O5 kd (ws.getD (wy+1) "") ⟨Sy,Oy,wy⟩).S=Sy++[⟨kd,Qz,(wy:Int),Oy.getLast?.getD (-1)⟩]:=by unfold O5 ng;dsimp only;rw[hnam]
 rw[hs,← hS'];have hSl:(O5 kd (ws.getD (wy+1) "") ⟨Sy,Oy,wy⟩).S.length=Sy.length+1:=by rw[hS',HV];rfl
 have hOe:(O5 kd (ws.getD (wy+1) "") ⟨Sy,Oy,wy⟩).O=(if kd∈NO then Oy.dropLast else Oy)++(if kd∈NX then[(Sy.length:Int)] else[]):=rfl;have hwe:(O5 kd (ws.getD (wy+1) "") ⟨Sy,Oy,wy⟩).w=wy+(if kd∈named then 2 else 1):=rfl;generalize O5 kd (ws.getD (wy+1) "") ⟨Sy,Oy,wy⟩=z at hs hS' hSl hOe hwe;refine bL (N1:=λΓ=>Γ=[.im ae txt,.im (ag ae) ws,.mu (aW C) z.S,.mu ai (if kd∈NO then Oy.dropLast else Oy),aR (wy:Int),.im ae kd,.im ae Qz]) (aP (aw gA (aa 5 rfl) (dP M2.NO)) (λhh=>?_) (λhh=>aI ?_)) ?_
 ·have hh:kd∈NO:=NF hh;have hOne:Oy≠[]:=λe=>by
   rw[e] at Px;have:kd="part":=NF Px;rw[this] at hh;exact Ny hh (by decide +kernel)
  refine ao (jB (lU 3 rfl (xM hOne)) ?_);rw[ND hh];rfl
 ·have hh:¬kd∈NO:=NG hh;rw[Nz hh]
 rintro _ rfl;have hOl:(if kd∈NO then Oy.dropLast else Oy).length<=Oy.length:=by
  split
  ·rw[Jg];omega
  ·exact JI _
 generalize (if kd∈NO then Oy.dropLast else Oy)=O1 at hOe hOl;refine bL (N1:=λΓ=>Γ=[.im ae txt,.im (ag ae) ws,.mu (aW C) z.S,.mu ai z.O,aR (wy:Int),.im ae kd,.im ae Qz]) (aP (aw gA (aa 5 rfl) (dP M2.NX)) (λhh=>?_) (λhh=>aI ?_)) ?_
 ·have hh:kd∈NX:=NF hh;refine ao (cb 3 (EV.cast (y':=(Sy.length:Int)) (lH (jQ 2 M.len rfl) ah) (by omega)) rfl rfl (JN (show _<=1000 by omega) (by decide)) ?_);rw[hOe,ND hh];rfl
 ·have hh:¬kd∈NX:=NG hh;rw[hOe,Nz hh,Ip]
 rintro _ rfl;refine ao (CK 4 (c:=if kd∈named then 2 else 1) (EV.cast (jf (aw gA (aa 5 rfl) (dP M2.named)) (λ_=>ah) (λ_=>ah)) (by by_cases z:kd∈named<;>simp[z])) rfl ⟨.im ae kd,.im ae Qz,?_⟩)
 unfold iy;rw[hwe];by_cases q:kd∈named
 ·rw[ND q,ND q];rfl
 ·rw[Nz q,Nz q];rfl
end
variable {CN:Addr}
def tZ (x:Str)(S:List bb):Prop:=∃(ws:Ht)(n:Nat),x=Str.join " " ws/\eT ws/\bU ws n/\rx ws n=⟨S,[],ws.length⟩
def w8 (x:Str)(k:Int):Prop:=∃(ws:Ht)(n:Nat),x=Str.join " " ws/\eT ws/\bU ws n/\dW ws (rx ws n) k
theorem AF (W:eT ws)(h:bU ws n)(hi:i<n):(rx ws i).S.length<=999/\(rx ws i).O.length<=999/\∀o∈(rx ws i).O,0<=o/\o<((rx ws i).S.length:Int):=by
 obtain⟨a,b,c,d⟩:=cz ws i;have:=(h i hi).w;have:=W.l;exact⟨by omega,by omega,by rw[a];exact d⟩
def Fp (C:Addr):cB:=λK ps T=>∃(x:Str)(S:List bb),ps=[⟨ae,x⟩]/\tZ x S/\T=bM K (ag (aW C)) (· =S)
theorem Eh (M:cm K mg)(M2:fU K mg)(G:j3 P w K mg base C)(CM:aH P w K mg base "may_stand" 1 (aG va K))(CB:aH P w K mg base "name_behind" 2 (aG x6 K))(Df:Def K mg "read" gR ["text"]):aH P w K mg base "read" 3 (aG (Fp C) K):=by
 have nd:=nv.nd;have CM:=CM.mono (show 1<=2 by decide);refine bw (Sc:=nv) (k:=2) Df (λf NK A outer s H E qs T _ hr hS=>?_);obtain⟨txt,S,rfl,⟨ws,n,et,W,OF,OQ⟩,rfl⟩:=hS;have Pm:Txt.split txt " "=ws:=by rw[et];exact W.split
 have htl:txt.length<=Ke:=by rw[et];exact W.len
 have wl:=W.l;refine aj (aL 1 (y:=ws) (EV.cast (aO.im (nY (aa 0 rfl) aq (by decide +kernel) htl (by rw[Pm];exact aM (by omega)))) Pm) ?_);refine aj (cD 2 (r:=aW C) (ys:=[]) (aE aK (JM _)) ?_);refine aj (cD 3 (r:=ai) (ys:=[]) (aE aK (JM _)) ?_);refine aj (aL 4 (y:=(0:Int)) ah ?_);refine bL (N1:=λΓ=>∃e5 e6,Γ=iy C txt ws (rx ws n) e5 e6) (iM (λk Γ=>∃i,k+i=n/\∃e5 e6,Γ=iy C txt ws (rx ws i) e5 e6) (m0:=n) ⟨0,rfl,_,_,rfl⟩ (λk Γ hI=>?_)) ?_
 ·obtain⟨i,P9,e5,e6,rfl⟩:=hI;refine⟨decide (((rx ws i).w:Int)<(ws.length:Int)),_,aw fM (aa 4 rfl) (cj M.len (aa 1 rfl)),λh=>?_,λh=>?_⟩
  ·have h:((rx ws i).w:Int)<(ws.length:Int):=NF h;have N4:i<n:=by
    rcases JO i n with z | z
    ·exact z
    ·exfalso;have:i=n:=by omega
     rw[this,OQ] at h;exact Ny h (Int.lt_irrefl _)
   obtain⟨l1,l2,l3⟩:=AF W OF N4;exact WS.imp (AE M M2 G CM CB hr W.w l1 l2 l3 (OF i N4)) λΓ ⟨e5,e6,hΓ⟩=>⟨k-1,by omega,i+1,by omega,e5,e6,hΓ⟩
  ·have h:¬((rx ws i).w:Int)<(ws.length:Int):=NG h;have N4:i=n:=by
    rcases JO i n with z | z
    ·exact Ny (by have:=(OF i z).w;omega) h
    ·omega
   subst N4;exact⟨e5,e6,rfl⟩
 rintro _ ⟨e5,e6,rfl⟩;have hSn:S.length<=1000:=by
  obtain⟨a,b,c⟩:=cz ws n;rw[OQ] at a b;dsimp only at a b;omega
 rw[OQ];change WS _ _ [.im ae txt,.im (ag ae) ws,.mu (aW C) S,.mu ai [],aR (ws.length:Int),e5,e6] _ _;refine aj (aP (mq 3 rfl) (λhh=>by cases hh) (λ_=>aI ?_));refine WS.freeze 2 rfl (aM (by omega)) ?_;exact ao (aN (aa 2 rfl) rfl)
def AI (CN:Addr):gN:=λK ps o=>∃(x:Str)(k:Int),ps=[⟨ae,x⟩]/\w8 x k/\o=xw CN k
theorem Dq (M:cm K mg)(M2:fU K mg)(G:j3 P w K mg base C)(GN:rY P w K mg base "NoText" CN)(CM:aH P w K mg base "may_stand" 1 (aG va K))(CB:aH P w K mg base "name_behind" 2 (aG x6 K))(CD:gm P w K mg base "name_behind" 3 (fX (Bz CN) K))(F:cY K "read" "read" gR f fd)(hm:mg "read"=some (.ref f))(hb:Binds K fd ["text"] []):gm P w K mg base "read" 4 (fX (AI CN) K):=by
 have nd:=nv.nd;have CM:=CM.mono (show 1<=2 by decide);refine lK (k:=3) F nv hm hb (λqs o ⟨_,_,e,_⟩=>by rw[e];rfl) (λqs T ⟨_,_,_,_,e⟩=>by cases e) (λNK A outer s H R E qs c fs hr hS q=>?_);obtain⟨txt,k,rfl,⟨ws,n,et,W,OF,OC⟩,e⟩:=hS;cases e
 have RQ:=hr.mono (show 2<=3 by decide);have Pm:Txt.split txt " "=ws:=by rw[et];exact W.split
 have htl:txt.length<=Ke:=by rw[et];exact W.len
 have wl:=W.l;refine dY (N1:=λΓ=>Γ=[.im ae txt,.im (ag ae) ws,.no,.no,.no,.no,.no]) (aL 1 (y:=ws) (EV.cast (aO.im (nY (aa 0 rfl) aq (by decide +kernel) htl (by rw[Pm];exact aM (by omega)))) Pm) rfl) ?_;rintro _ rfl;refine dY (N1:=λΓ=>Γ=[.im ae txt,.im (ag ae) ws,.mu (aW C) [],.no,.no,.no,.no]) (cD 2 (r:=aW C) (ys:=[]) (aE aK (JM _)) rfl) ?_;rintro _ rfl;refine dY (N1:=λΓ=>Γ=[.im ae txt,.im (ag ae) ws,.mu (aW C) [],.mu ai [],.no,.no,.no]) (cD 3 (r:=ai) (ys:=[]) (aE aK (JM _)) rfl) ?_;rintro _ rfl;refine dY (N1:=λΓ=>Γ=iy C txt ws (rx ws 0) .no .no) (aL 4 (y:=(0:Int)) ah rfl) ?_;rintro _ rfl;obtain⟨iS,iw,iO,io⟩:=cz ws n;have turn:∀(k i:Nat)(e5 e6:Ent),k+i=n->i<n->∃Γ',TV (aT (bS P w) P w K mg base oh "read" (ak gR) f NK A outer s H E).bV (match (ba gR).getD 4 (.Pass ⟨0,0,0,0⟩) with | .While c _ _ _=>c | _=>.Name "" ⟨0,0,0,0⟩) (iy C txt ws (rx ws i) e5 e6) true Γ'/\WS (aT (bS P w) P w K mg base oh "read" (ak gR) f NK A outer s H E).bV vM Γ' (λΓ''=>∃m',m'<k/\∃i,m'+i=n/\∃e5 e6,Γ''=iy C txt ws (rx ws i) e5 e6) (λ_ _ _ _=>False):=λk i e5 e6 P9 N4=>by
  obtain⟨l1,l2,l3⟩:=AF W OF N4;refine⟨_,TV.cast (aw fM (aa 4 rfl) (cj M.len (aa 1 rfl))) (decide_eq_true (by have:=(OF i N4).w;omega)),WS.imp (AE M M2 G CM CB RQ W.w l1 l2 l3 (OF i N4)) λΓ ⟨e5,e6,hΓ⟩=>⟨k-1,by omega,i+1,by omega,e5,e6,hΓ⟩⟩
 have last:(rx ws n).w<ws.length->∀(e5 e6:Ent),RS (aT (bS P w) P w K mg base oh "read" (ak gR) f NK A outer s H E) H R vM (iy C txt ws (rx ws n) e5 e6):=λOo e5 e6=>by
  have lS:(rx ws n).S.length<=1000:=by omega
  have lO:(rx ws n).O.length<=1000:=by omega
  have RP:∀o∈(rx ws n).O,0<=o/\o<((rx ws n).S.length:Int):=by rw[iS];exact io
  have key:∀y:fu,dW ws y k->y.w<ws.length->y.S.length<=1000->y.O.length<=1000->(∀o∈y.O,0<=o/\o<(y.S.length:Int))->RS (aT (bS P w) P w K mg base oh "read" (ak gR) f NK A outer s H E) H R vM (iy C txt ws y e5 e6):=λy hb Oo lS lO RP=>by
   obtain⟨Sy,Oy,wy⟩:=y;dsimp only at Oo lS lO RP;change RS _ H R _ [.im ae txt,.im (ag ae) ws,.mu (aW C) Sy,.mu ai Oy,aR (wy:Int),e5,e6];have Ow:cC ws (wy:Int)=some (ws.getD wy ""):=aV (xs:=ws) (i:=(wy:Int)) "" (by omega) (by omega);refine dY (N1:=λΓ=>Γ=[.im ae txt,.im (ag ae) ws,.mu (aW C) Sy,.mu ai Oy,aR (wy:Int),.im ae (ws.getD wy ""),e6]) (aL 5 (y:=ws.getD wy "") (bc (aa 1 rfl) (aa 4 rfl) Ow) rfl) ?_;rintro _ rfl;cases hb with
   | may h hm=>exact oX (TV.cast (tq (ws:=ws) G CM RQ lS lO RP) (by rw[show bJ (ws.getD wy "") (Oy.map (aF Sy))=false from hm];rfl)) (jX GN RQ (af (aa 4 rfl) av) q)
   | nm h hm hn hb=>
     refine dY (N1:=λΓ=>Γ=[.im ae txt,.im (ag ae) ws,.mu (aW C) Sy,.mu ai Oy,aR (wy:Int),.im ae (ws.getD wy ""),e6]) (aP (TV.cast (b':=false) (tq (ws:=ws) G CM RQ lS lO RP) (by rw[show bJ (ws.getD wy "") (Oy.map (aF Sy))=true from hm];rfl)) (λh=>Ny h (by decide)) (λ_=>aI rfl)) ?_;rintro _ rfl;exact vh 6 (Ey (TV.cast (aw gA (aa 5 rfl) (dP M2.named)) (decide_eq_true hn)) (kT CD hr (af (aa 1 rfl) (af (aa 4 rfl) av)) ⟨ws,wy,rfl,W.w,h,hb,rfl⟩ q))
   | more h ho=>exact Ny h (by have:wy<ws.length:=Oo;show¬wy=ws.length;omega)
  exact key _ OC Oo lS lO RP
 by_cases Oo:(rx ws n).w<ws.length
 ·refine wL (λm Γ=>∃i,m+i=n/\∃e5 e6,Γ=iy C txt ws (rx ws i) e5 e6) (m0:=n) ⟨0,rfl,_,_,rfl⟩ (λm Γ hI=>?_);obtain⟨i,P9,e5,e6,rfl⟩:=hI;by_cases N4:i<n
  ·obtain⟨Γ',h1,h2⟩:=turn m i e5 e6 P9 N4;exact⟨Γ',h1,.inl h2⟩
  ·obtain rfl:i=n:=by omega
   exact⟨_,TV.cast (aw fM (aa 4 rfl) (cj M.len (aa 1 rfl))) (decide_eq_true (by omega)),.inr (last Oo e5 e6)⟩
 ·have hm:(rx ws n).w=ws.length/\(rx ws n).O≠[]/\k=(ws.length:Int):=by
   cases OC with
   | may h _=>exact Ny h Oo
   | nm h _ _ _=>exact Ny h Oo
   | more h ho=>exact⟨h,ho,rfl⟩
  obtain⟨hw,ho,rfl⟩:=hm;refine dY (N1:=λΓ=>∃e5 e6,Γ=iy C txt ws (rx ws n) e5 e6) (iM (λm Γ=>∃i,m+i=n/\∃e5 e6,Γ=iy C txt ws (rx ws i) e5 e6) (m0:=n) ⟨0,rfl,_,_,rfl⟩ (λm Γ hI=>?_)) ?_
  ·obtain⟨i,P9,e5,e6,rfl⟩:=hI;by_cases N4:i<n
   ·obtain⟨Γ',h1,h2⟩:=turn m i e5 e6 P9 N4;exact⟨true,Γ',h1,λ_=>h2,(λh=>nomatch h)⟩
   ·obtain rfl:i=n:=by omega
    exact⟨false,_,TV.cast (aw fM (aa 4 rfl) (cj M.len (aa 1 rfl))) (NH (by omega)),(λh=>nomatch h),λ_=>⟨e5,e6,rfl⟩⟩
  rintro _ ⟨e5,e6,rfl⟩;refine oX (TV.cast (mq 3 rfl) ?_) (jX GN RQ (af (cj M.len (aa 1 rfl)) av) q);cases h:(rx ws n).O with
  | nil=>exact Ny h ho
  | cons _ _=>rfl
theorem ru {k:Nat}(hr:bz k A):A.units+1<cLine:=by have:=hr.units;omega
def ee (F:Hy)(z:Int×bb):Hy:=if z.2.kind∈NO then dF F z.2.within z.1 else F
def eL (S:List bb):Hy:=(nums S).foldl ee []
variable {F:Hy}{z:Int×bb}
theorem xK :(ee F z).length<=F.length+1:=by
 unfold ee;split
 ·exact qv _ _ _
 ·omega
theorem Cs (S:List bb)(i:Nat):(((nums S).take i).foldl ee []).length<=i:=by
 induction i with
 | zero=>exact JI _
 | succ i ih=>
   rw[IK,Jj];cases e:(nums S)[i]? with
   | none=>exact Nat.le_succ_of_le ih
   | some z=>
     show(ee _ z).length<=_;exact JJ xK (by omega)
abbrev bP (S:List bb)(o:Int):Int:=(S.getD o.toNat bN).within
def Ar (S:List bb)(n:Int)(kd:Str)(a:Int):Prop:=∃k:Nat,Oh (bP S) k (bP S n)=a/\(∀j,j<=k->0<=Oh (bP S) j (bP S n)/\Oh (bP S) j (bP S n)<(S.length:Int))/\(∀j,j<k->aF S (Oh (bP S) j (bP S n))≠kd)/\aF S a=kd
inductive fG (S:List bb) (F:Hy) (n:Int):Hs->Prop
 | row {c:Int} (h:aF S n="if"∨aF S n="while") (hc:bQ F n=some c):fG S F n [n+1,c+1]
 | Pf {c:Int} (h:aF S n="else") (hc:bQ F n=some c):fG S F n [c]
 | Qk {a c:Int} (h:aF S n="leave") (ha:Ar S n "while" a) (hc:bQ F a=some c):fG S F n [c+1]
 | Qt {a c:Int} (h:aF S n="back") (ha:Ar S n "part" a) (hc:bQ F a=some c):fG S F n [c]
 | Qp (h:aF S n="end") (h0:0<=bP S n) (h1:bP S n<(S.length:Int)) (hk:aF S (bP S n)="while"):fG S F n [bP S n]
 | Qq (h:aF S n="end") (h0:0<=bP S n) (h1:bP S n<(S.length:Int)) (hk:aF S (bP S n)="part"):fG S F n []
 | Qr (h:aF S n="end") (h0:0<=bP S n) (h1:bP S n<(S.length:Int)) (hk:aF S (bP S n)="else"):fG S F n [n+1]
 | PN (h:aF S n="part"∨aF S n="do"∨aF S n="call"):fG S F n [n+1]
abbrev F6:Stmt:=top kK
abbrev nCS:Ht:=["steps","closing","number","step"]
def AL (C:Addr):cB:=λK ps T=>∃S:List bb,ps=[⟨ag (aW C),S⟩]/\S.length<=1000/\T=bM K nU (· =eL S)
theorem Eb (M:cm K mg)(M2:fU K mg)(HC:bh K C ei)(Df:Def K mg "closing_steps" F6 ["steps"]):aH P w K mg base "closing_steps" 1 (aG (AL C) K):=by
 refine bw (N:=nCS) Df (λf NK A outer s H E qs T nd hr hS=>?_);obtain⟨S,rfl,hl,rfl⟩:=hS;refine aj (mP 1 ?_);refine bL (N1:=λΓ=>∃e2 e3,Γ=[.im (ag (aW C)) S,.di (cw (eL S)),e2,e3]) (dj (λi Γ=>∃e2 e3,Γ=[.im (ag (aW C)) S,.di (cw (((nums S).take i).foldl ee [])),e2,e3]) (gH M.enumerate (aa 0 rfl)) (fJ 2 3) ⟨_,_,rfl⟩ (λi z Γ hz hΓ=>?_) (λΓ hΓ=>?_)) ?_
 ·obtain⟨e2,e3,rfl⟩:=hΓ;obtain⟨n,st⟩:=z;have fl:=Cs S i;have il:i<S.length:=by have:=(HW.mp hz).1;rwa [cK] at this
  have Qm:((nums S).take (i+1)).foldl ee []=ee (((nums S).take i).foldl ee []) (n,st):=by rw[IK,hz,Jj];rfl
  rw[Qm];generalize ((nums S).take i).foldl ee []=Fd at fl;change WS _ _ [.im (ag (aW C)) S,.di (cw Fd),aR n,.im (aW C) st] _ _;refine ao (aP (aw gA (eu (C:=C) HC (aa 3 rfl)) (dP M2.NO)) (λh=>?_) (λh=>aI ⟨aR n,.im (aW C) st,?_⟩))
  ·have h:st.kind∈NO:=NF h;refine ao (AY 1 (ru hr) (lY (C:=C) HC (aa 3 rfl)) (aa 2 rfl) rfl (JN (show _<=1000 by omega) (by decide)) ⟨aR n,.im (aW C) st,?_⟩);unfold ee;rw[ND h];rfl
  ·have h:¬st.kind∈NO:=NG h;unfold ee;rw[Nz h]
 ·obtain⟨e2,e3,rfl⟩:=hΓ;refine⟨e2,e3,?_⟩;rw[Je];rfl
 rintro _ ⟨e2,e3,rfl⟩;exact ao (rV 1 rfl rfl)
abbrev F8:Stmt:=top vE
abbrev nAR:Ht:=["steps","number","kind","found"]
def FF (C:Addr):cB:=λK ps T=>∃(S:List bb)(n a:Int)(kd:Str),ps=[⟨ag (aW C),S⟩,⟨ai,n⟩,⟨ae,kd⟩]/\0<=n/\n<(S.length:Int)/\Ar S n kd a/\T=bM K ai (· =a)
theorem DX (HC:bh K C ei)(Df:Def K mg "around" F8 ["steps","number","kind"]):aH P w K mg base "around" 1 (aG (FF C) K):=by
 refine bw (N:=nAR) Df (λf NK A outer s H E qs T nd hr hS=>?_);obtain⟨S,n,a,kd,rfl,n0,n1,⟨k,ha,N4,N2,hk⟩,rfl⟩:=hS;refine aj (aL 3 (y:=bP S n) (lY (C:=C) HC (bc (aa 0 rfl) (aa 1 rfl) (aV (xs:=S) (i:=n) bN n0 n1))) ?_);refine bL (N1:=λΓ=>Γ=[.im (ag (aW C)) S,aR n,.im ae kd,aR a]) (iM (λm Γ=>∃i,m+i=k/\Γ=[.im (ag (aW C)) S,aR n,.im ae kd,aR (Oh (bP S) i (bP S n))]) (m0:=k) ⟨0,rfl,rfl⟩ (λm Γ hI=>?_)) ?_
 ·obtain⟨i,hi,rfl⟩:=hI;obtain⟨o0,o1⟩:=N4 i (by omega);have hs:Oh (bP S) (i+1) (bP S n)=bP S (Oh (bP S) i (bP S n)):=rfl;have RV:=N2 i;have P9:i=k->aF S (Oh (bP S) i (bP S n))=kd/\Oh (bP S) i (bP S n)=a:=λe=>by rw[e,ha];exact⟨hk,rfl⟩
  generalize Oh (bP S) i (bP S n)=o at o0 o1 hs RV P9;refine⟨!decide (aF S o=kd),_,aw jY (eu (C:=C) HC (bc (aa 0 rfl) (aa 3 rfl) (aV (xs:=S) (i:=o) bN o0 o1))) (aa 2 rfl),λh=>?_,λh=>?_⟩
  ·have h:¬aF S o=kd:=by simpa using h
   have ik:i<k:=by
    rcases JO i k with z | z
    ·exact z
    ·exact Ny (P9 (by omega)).1 h
   exact ao (aL 3 (lY (C:=C) HC (bc (aa 0 rfl) (aa 3 rfl) (aV (xs:=S) (i:=o) bN o0 o1))) ⟨m-1,by omega,i+1,by omega,by rw[hs];rfl⟩)
  ·have h:aF S o=kd:=by simpa using h
   have ik:i=k:=by
    rcases JO i k with z | z
    ·exact Ny h (RV z)
    ·omega
   rw[(P9 ik).2]
 rintro _ rfl;exact ao (aN (aa 3 rfl) rfl)
abbrev Ge:Stmt:=top ow
abbrev nLF:Ht:=["steps","closing","number","kind","ended"]
abbrev pLF:Ht:=["steps","closing","number"]
def Fx (C:Addr):cB:=λK ps T=>∃(S:List bb)(F:Hy)(n:Int)(ls:Hs),ps=[⟨ag (aW C),S⟩,⟨nU,F⟩,⟨ai,n⟩]/\0<=n/\n<(S.length:Int)/\fG S F n ls/\T=bM K (ag ai) (· =ls)
def vO (S:List bb)(n:Int):Str:=if aF S n="end" then aF S (bP S n) else ""
theorem E6 (HC:bh K C ei)(CA:aH P w K mg base "around" 1 (aG (FF C) K))(Df:Def K mg "leads_from" Ge pLF):aH P w K mg base "leads_from" 2 (aG (Fx C) K):=by
 refine bw (N:=nLF) Df (λf NK A outer s H E qs T nd hr hS=>?_);obtain⟨S,Fd,n,ls,rfl,n0,n1,hL,rfl⟩:=hS;have hu:=ru hr;have Ow:cC S n=some (S.getD n.toNat bN):=aV (xs:=S) (i:=n) bN n0 n1;have Sj:aF S n="end"->0<=bP S n/\bP S n<(S.length:Int):=λh=>by
  cases hL with
  | row g hc=>rcases g with g | g<;>rw[g] at h<;>exact Ny h (by decide +kernel)
  | Pf g hc=>rw[g] at h;exact Ny h (by decide +kernel)
  | Qk g ha hc=>rw[g] at h;exact Ny h (by decide +kernel)
  | Qt g ha hc=>rw[g] at h;exact Ny h (by decide +kernel)
  | Qp g h0 h1 hk=>exact⟨h0,h1⟩
  | Qq g h0 h1 hk=>exact⟨h0,h1⟩
  | Qr g h0 h1 hk=>exact⟨h0,h1⟩
  | PN g=>rcases g with g | g | g<;>rw[g] at h<;>exact Ny h (by decide +kernel)
 refine aj (aL 3 (y:=aF S n) (eu (C:=C) HC (bc (aa 0 rfl) (aa 2 rfl) Ow)) ?_);refine aj (aL 4 (y:=vO S n) (EV.cast (jf (x:=aF S (bP S n)) (aw bW (aa 3 rfl) aq) (λh=>eu (C:=C) HC (bc (aa 0 rfl) (lY (C:=C) HC (bc (aa 0 rfl) (aa 2 rfl) Ow)) (aV (xs:=S) (i:=bP S n) bN (Sj (NF h)).1 (Sj (NF h)).2))) (λ_=>aq)) (by unfold vO;by_cases h:aF S n="end"<;>simp[h])) ?_)
 have en0:aF S n≠"end"->vO S n="":=λh=>Nz h;have Rp:aF S n="end"->vO S n=aF S (bP S n):=λh=>ND h;generalize hE:vO S n=ed at en0 Rp;have one_le:(1:Nat)<=Ke:=by decide
 refine aj (aP (aw gA (aa 3 rfl) (rS (xs:=["if","while"]) (au (EV.pS aq) (au (EV.pS aq) aK)) (by show 2<=Ke;decide))) (λh=>?_) (λh=>aI ?_))
 ·have h:aF S n∈(["if","while"]:Ht):=NF h;cases hL with
  | row g hc=>exact ao (aN (aO.im (aE (r:=ai) (au (br (aa 2 rfl) ah) (au (br (jK hu (aa 1 rfl) (aa 2 rfl) hc) ah) aK)) (by show 2<=Ke;decide))) rfl)
  | Pf g hc=>rw[g] at h;exact Ny h (by decide +kernel)
  | Qk g ha hc=>rw[g] at h;exact Ny h (by decide +kernel)
  | Qt g ha hc=>rw[g] at h;exact Ny h (by decide +kernel)
  | Qp g h0 h1 hk=>rw[g] at h;exact Ny h (by decide +kernel)
  | Qq g h0 h1 hk=>rw[g] at h;exact Ny h (by decide +kernel)
  | Qr g h0 h1 hk=>rw[g] at h;exact Ny h (by decide +kernel)
  | PN g=>rcases g with g | g | g<;>rw[g] at h<;>exact Ny h (by decide +kernel)
 have h1:¬aF S n∈(["if","while"]:Ht):=NG h;refine aj (aP (aw bW (aa 3 rfl) aq) (λh=>?_) (λh=>aI ?_))
 ·have h:aF S n="else":=NF h;cases hL with
  | row g hc=>rcases g with g | g<;>rw[g] at h<;>exact Ny h (by decide +kernel)
  | Pf g hc=>exact ao (aN (aO.im (aE (r:=ai) (au (jK hu (aa 1 rfl) (aa 2 rfl) hc) aK) one_le)) rfl)
  | Qk g ha hc=>rw[g] at h;exact Ny h (by decide +kernel)
  | Qt g ha hc=>rw[g] at h;exact Ny h (by decide +kernel)
  | Qp g h0 h1 hk=>rw[g] at h;exact Ny h (by decide +kernel)
  | Qq g h0 h1 hk=>rw[g] at h;exact Ny h (by decide +kernel)
  | Qr g h0 h1 hk=>rw[g] at h;exact Ny h (by decide +kernel)
  | PN g=>rcases g with g | g | g<;>rw[g] at h<;>exact Ny h (by decide +kernel)
 have h2:¬aF S n="else":=NG h;refine aj (aP (aw bW (aa 3 rfl) aq) (λh=>?_) (λh=>aI ?_))
 ·have h:aF S n="leave":=NF h;cases hL with
  | row g hc=>rcases g with g | g<;>rw[g] at h<;>exact Ny h (by decide +kernel)
  | Pf g hc=>rw[g] at h;exact Ny h (by decide +kernel)
  | Qk g ha hc=>exact ao (aN (aO.im (aE (r:=ai) (au (br (jK hu (aa 1 rfl) (ax CA hr (af (aa 0 rfl) (af (aa 2 rfl) (af aq av))) ⟨S,n,_,_,rfl,n0,n1,ha,rfl⟩) hc) ah) aK) one_le)) rfl)
  | Qt g ha hc=>rw[g] at h;exact Ny h (by decide +kernel)
  | Qp g h0 h1 hk=>rw[g] at h;exact Ny h (by decide +kernel)
  | Qq g h0 h1 hk=>rw[g] at h;exact Ny h (by decide +kernel)
  | Qr g h0 h1 hk=>rw[g] at h;exact Ny h (by decide +kernel)
  | PN g=>rcases g with g | g | g<;>rw[g] at h<;>exact Ny h (by decide +kernel)
 have h3:¬aF S n="leave":=NG h;refine aj (aP (aw bW (aa 3 rfl) aq) (λh=>?_) (λh=>aI ?_))
 ·have h:aF S n="back":=NF h;cases hL with
  | row g hc=>rcases g with g | g<;>rw[g] at h<;>exact Ny h (by decide +kernel)
  | Pf g hc=>rw[g] at h;exact Ny h (by decide +kernel)
  | Qk g ha hc=>rw[g] at h;exact Ny h (by decide +kernel)
  | Qt g ha hc=>exact ao (aN (aO.im (aE (r:=ai) (au (jK hu (aa 1 rfl) (ax CA hr (af (aa 0 rfl) (af (aa 2 rfl) (af aq av))) ⟨S,n,_,_,rfl,n0,n1,ha,rfl⟩) hc) aK) one_le)) rfl)
  | Qp g h0 h1 hk=>rw[g] at h;exact Ny h (by decide +kernel)
  | Qq g h0 h1 hk=>rw[g] at h;exact Ny h (by decide +kernel)
  | Qr g h0 h1 hk=>rw[g] at h;exact Ny h (by decide +kernel)
  | PN g=>rcases g with g | g | g<;>rw[g] at h<;>exact Ny h (by decide +kernel)
 have h4:¬aF S n="back":=NG h;have OP:∀{k:Str},k≠""->aF S n≠"end"->ed≠k:=λhk h z=>hk (by rw[← z,en0 h]);refine aj (aP (aw bW (aa 4 rfl) aq) (λh=>?_) (λh=>aI ?_))
 ·have h:ed="while":=NF h;cases hL with
  | row g hc=>exact Ny h (OP (by decide +kernel) (by rcases g with g | g<;>rw[g]<;>decide +kernel))
  | Pf g hc=>exact Ny g h2
  | Qk g ha hc=>exact Ny g h3
  | Qt g ha hc=>exact Ny g h4
  | Qp g h0 h1 hk=>exact ao (aN (aO.im (aE (r:=ai) (au (lY (C:=C) HC (bc (aa 0 rfl) (aa 2 rfl) Ow)) aK) one_le)) rfl)
  | Qq g h0 h1 hk=>rw[Rp g,hk] at h;exact Ny h (by decide +kernel)
  | Qr g h0 h1 hk=>rw[Rp g,hk] at h;exact Ny h (by decide +kernel)
  | PN g=>exact Ny h (OP (by decide +kernel) (by rcases g with g | g | g<;>rw[g]<;>decide +kernel))
 have h5:¬ed="while":=NG h;cases hL with
 | row g hc=>exact Ny (by rcases g with g | g<;>rw[g]<;>decide +kernel) h1
 | Pf g hc=>exact Ny g h2
 | Qk g ha hc=>exact Ny g h3
 | Qt g ha hc=>exact Ny g h4
 | Qp g h0 h1 hk=>exact Ny ((Rp g).trans hk) h5
 | Qq g h0 h1 hk=>
   have e:ed="part":=(Rp g).trans hk;exact ao (aN (y:=([]:Hs)) (EV.cast (jf (y:=([]:Hs)) (aw bW (aa 4 rfl) aq) (λ_=>aO.im (aE (r:=ai) aK (JM _))) (λh=>Ny e (NG h))) (by split<;>rfl)) rfl)
 | Qr g h0 h1 hk=>
   have e:ed≠"part":=by rw[Rp g,hk];decide +kernel
   exact ao (aN (y:=[n+1]) (EV.cast (jf (x:=[n+1]) (aw bW (aa 4 rfl) aq) (λh=>Ny (NF h) e) (λ_=>aO.im (aE (r:=ai) (au (br (aa 2 rfl) ah) aK) one_le))) (by split<;>rfl)) rfl)
 | PN g=>
   have e:ed≠"part":=OP (by decide +kernel) (by rcases g with g | g | g<;>rw[g]<;>decide +kernel)
   exact ao (aN (y:=[n+1]) (EV.cast (jf (x:=[n+1]) (aw bW (aa 4 rfl) aq) (λh=>Ny (NF h) e) (λ_=>aO.im (aE (r:=ai) (au (br (aa 2 rfl) ah) aK) one_le))) (by split<;>rfl)) rfl)
abbrev AW:Stmt:=top rd
abbrev FH:Ht:=["steps","closing"]
def ya (S:List bb)(Ld:List Hs):Prop:=Ld.length=S.length/\∀n:Nat,n<S.length->fG S (eL S) (n:Int) (Ld.getD n [])
def Fm (C:Addr):cB:=λK ps T=>∃(S:List bb)(Ld:List Hs),ps=[⟨ag (aW C),S⟩]/\S.length<=1000/\ya S Ld/\T=bM K (ag (ag ai)) (· =Ld)
theorem xI (Ld:List Hs):((ups 0 Ld.length).filter λ_=>true).map (λn=>Ld.getD n.toNat [])=Ld:=by
 rw[II.mpr λ_ _=>rfl];refine List.ext_getElem? λi=>?_;unfold ups;rw[Ii,Ii];rcases JO i Ld.length with h | h
 ·rw[Jl h,Ib h];show some (Ld.getD (0+(i:Int)).toNat [])=_;rw[show(0+(i:Int)).toNat=i by omega,HY,Ib h];rfl
 ·rw[Jx (by simpa using h),Jx h];rfl
theorem Ed (M:cm K mg)(CC:aH P w K mg base "closing_steps" 1 (aG (AL C) K))(CF:aH P w K mg base "leads_from" 2 (aG (Fx C) K))(Df:Def K mg "leads_in" AW ["steps"]):aH P w K mg base "leads_in" 3 (aG (Fm C) K):=by
 have Ph:Ir [("number":Str),"steps","closing"]:=by decide
 have CC:=CC.mono (show 1<=2 by decide);refine bw (N:=FH) (k:=2) Df (λf NK A outer s H E qs T nd hr hS=>?_);obtain⟨S,Ld,rfl,hl,⟨Rg,hL⟩,rfl⟩:=hS;refine aj (aL 1 (y:=eL S) (ax CC hr (af (aa 0 rfl) av) ⟨S,rfl,hl,rfl⟩) ?_);change WS _ _ [.im (ag (aW C)) S,.im nU (eL S)] _ _;have cc:=xI Ld;rw[Rg] at cc;refine ao (aN (aO.im (cy (own:=["number"]) (fr:=["steps","closing"]) (ix:=[0,1]) (ra:=ai) (rb:=ag ai) (p:=λ_=>true) (f:=λn=>Ld.getD n.toNat []) (bY (so:=ak AW) (N0:=FH) rfl rfl (λx h=>bC h) (by decide +kernel)) (eF M.range (cj M.len (aa 0 rfl)) ⟨by omega,by omega⟩)
  (λC s H ex=>bB 0) (λx=>⟨.inr rfl,.inl rfl,.inl rfl,trivial⟩) (λC s H ex c hc=>eU) (λC' s H ex o ho _=>?_))) ?_)
 ·obtain⟨i,hi⟩:=IU.mp ho;obtain⟨il,rfl⟩:=iB hi;have il:i<S.length:=by omega
  have:=hL i il;rw[show(i:Int)=0+(i:Int) by omega] at this;exact ax CF hr (af (aa 1 rfl) (af (aa 2 rfl) (af (aa 0 rfl) av))) ⟨S,eL S,0+(i:Int),_,rfl,by omega,by omega,by rw[show(0+(i:Int)).toNat=i by omega];exact this,rfl⟩
 ·rw[show((S.length:Int)).toNat=S.length by omega];exact cc
abbrev AS:Stmt:=top rg
abbrev Gh:Ht:=["steps","closing"]
abbrev d9:=Str×Int×Int
def dA (p:d9):PV:=.tup [.str p.1,.int p.2.1,.int p.2.2]
def AO (z:Int×bb):Bool:=decide (z.2.kind="part")
def yJ (S:List bb)(z:Int×bb):d9:=(z.2.name,z.1,(bQ (eL S) z.1).getD 0)
def fY (S:List bb):List d9:=((nums S).filter AO).map (yJ S)
def FU (C:Addr):cB:=λK ps T=>∃S:List bb,ps=[⟨ag (aW C),S⟩]/\S.length<=1000/\(∀n:Nat,n<S.length->aF S (n:Int)="part"->(bQ (eL S) (n:Int)).isSome)/\T=bM K (ag bu) (· =(fY S).map dA)
theorem eN (h:z∈nums S):∃n:Nat,n<S.length/\z.1=(n:Int)/\S.getD n bN=z.2:=by
 obtain⟨i,hi⟩:=IU.mp h;obtain⟨e1,e2⟩:=jR hi;exact⟨i,(HW.mp e2).1,e1,by rw[HY,e2];rfl⟩
theorem Ek (M:cm K mg)(HC:bh K C ei)(CC:aH P w K mg base "closing_steps" 1 (aG (AL C) K))(Df:Def K mg "parts_in" AS ["steps"]):aH P w K mg base "parts_in" 2 (aG (FU C) K):=by
 have Ph:Ir [("number":Str),"step","closing"]:=by decide
 refine bw (N:=Gh) (k:=1) Df (λf NK A outer s H E qs T nd hr hS=>?_);obtain⟨S,rfl,hl,hp,rfl⟩:=hS;refine aj (aL 1 (y:=eL S) (ax CC hr (af (aa 0 rfl) av) ⟨S,rfl,hl,rfl⟩) ?_);refine ao (aN (aO.im (cy (own:=["number","step"]) (fr:=["closing"]) (ix:=[1]) (ra:=de ai (aW C)) (rb:=bu) (p:=AO) (f:=λz=>dA (yJ S z)) (bY (so:=ak AS) (N0:=Gh) rfl rfl (λx h=>bC h) (by decide +kernel)) (gH M.enumerate (aa 0 rfl))
  (λC s H ex=>fJ 0 1) (λx=>⟨.inr rfl,.inr rfl,.inl rfl,trivial⟩) (λC' s H ex z hz=>?_) (λC' s H ex z hz hpz=>?_))) ?_)
 ·exact eo (aw bW (eu (C:=C) HC (aa 1 rfl)) aq)
 ·obtain⟨n,nl,e1,e2⟩:=eN hz;have hk:aF S (n:Int)="part":=by
   unfold aF;rw[show((n:Nat):Int).toNat=n by omega,e2];exact NF hpz
  have hs:=hp n nl hk;rw[← e1] at hs;have hc:bQ (eL S) z.1=some ((bQ (eL S) z.1).getD 0):=by
   cases q:bQ (eL S) z.1 with
   | none=>rw[q] at hs;cases hs
   | some c=>rfl
  exact nj (au (EV.pS (lJ (C:=C) HC (aa 1 rfl))) (au (EV.pI (aa 0 rfl)) (au (EV.pI (jK (ru hr) (aa 2 rfl) (aa 0 rfl) hc)) aK))) (by show 3<=Ke;decide)
 ·unfold fY;rw[IS];rfl
abbrev eQ:List (Str×Ht):=[("do",["do"]),("call",["call"]),("if",["yes","no"]),("while",["yes","no"])]
def lQ (k:Str):Bool:=(ft eQ k).isSome
def rR (S:List bb)(Ld:List Hs)(td:Hs)(n:Int):Hs:=
 if(Ld.getD n.toNat []).isEmpty=false/\lQ (aF S n)=false then td.set n.toNat (td.getD ((Ld.getD n.toNat []).getD 0 0).toNat 0) else td
variable {Ld:List Hs}
theorem zX {td:Hs}{n:Int}:(rR S Ld td n).length=td.length:=by
 unfold rR;split
 ·rw[Jc]
 ·rfl
def QI (S:List bb)(Ld:List Hs)(i:Nat):Hs:=((downs ((S.length:Int)-1) S.length).take i).foldl (rR S Ld) (ups 0 S.length)
theorem pC (h:i<S.length):QI S Ld (i+1)=rR S Ld (QI S Ld i) ((S.length:Int)-1-(i:Int)):=by
 have hd:(downs ((S.length:Int)-1) S.length)[i]?=some ((S.length:Int)-1-(i:Int)):=by
  unfold downs;rw[Ii,Jl h];rfl
 unfold QI;rw[IK,hd,Jj];rfl
theorem iW {S:List bb}{Ld:List Hs}:∀i,i<=S.length->(QI S Ld i).length=S.length
 | 0,_=>cL _ _
 | i+1,h=>by rw[pC h,zX];exact iW i (by omega)
abbrev dO (S:List bb)(Ld:List Hs):Hs:=QI S Ld S.length
def um (S:List bb)(Ld:List Hs):Prop:=Ld.length=S.length/\∀ls∈Ld,∀l∈ls,0<=l/\l<(S.length:Int)
abbrev Gf:Stmt:=top qT
abbrev nST:Ht:=["steps","leads","told","number"]
def Gj (C:Addr):cB:=λK ps T=>∃(S:List bb)(Ld:List Hs),ps=[⟨ag (aW C),S⟩,⟨ag (ag ai),Ld⟩]/\S.length<=1000/\um S Ld/\T=bM K (ag ai) (· =dO S Ld)
theorem EC (M:cm K mg)(HC:bh K C ei)(RW:jb P w K mg "ROW_WORDS" eQ)(Df:Def K mg "stands_in" Gf ["steps","leads"]):aH P w K mg base "stands_in" 1 (aG (Gj C) K):=by
 refine bw (N:=nST) Df (λf NK A outer s H E qs T nd hr hS=>?_);obtain⟨S,Ld,rfl,hl,⟨Rg,N4⟩,rfl⟩:=hS;change WS _ _ [.im (ag (aW C)) S,.im (ag (ag ai)) Ld,.no,.no] _ _;refine aj (cD 2 (r:=ai) (ys:=ups 0 S.length) (aO.cst (oM M.list M.range (cj M.len (aa 0 rfl)) ⟨by omega,by omega⟩) (by rw[show((S.length:Int)).toNat=S.length by omega])) ?_);refine bL (N1:=λΓ=>∃e3,Γ=[.im (ag (aW C)) S,.im (ag (ag ai)) Ld,.mu ai (dO S Ld),e3]) (dj (λi Γ=>∃e3,Γ=[.im (ag (aW C)) S,.im (ag (ag ai)) Ld,.mu ai (QI S Ld i),e3]) (uH M.range (af (lH (cj M.len (aa 0 rfl)) ah) (af (cX ah) (af (cX ah) av))) ⟨by omega,by omega,by omega,by omega⟩) (bB 3) ⟨_,rfl⟩ (λi n Γ hn hΓ=>?_) (λΓ hΓ=>?_)) ?_
 ·obtain⟨e3,rfl⟩:=hΓ;obtain⟨il,rfl⟩:=p8 hn;have il:i<S.length:=by omega
  rw[pC il];have tl:=iW (S:=S) (Ld:=Ld) i (by omega);generalize QI S Ld i=td at tl;generalize hnn:(S.length:Int)-1-(i:Int)=n;have n0:0<=n:=by omega
  have n1:n<(S.length:Int):=by omega
  change WS _ _ [.im (ag (aW C)) S,.im (ag (ag ai)) Ld,.mu ai td,aR n] _ _;have Ow:cC Ld n=some (Ld.getD n.toNat []):=aV (xs:=Ld) (i:=n) [] n0 (by omega);have Qn:Ld.getD n.toNat []∈Ld:=by
   rw[HY,Ib (show n.toNat<Ld.length by omega)];exact Jm _
  refine ao (aP (TW.tv (cR (lu (bc (aa 1 rfl) (aa 3 rfl) Ow)) (λ_=>cI (vW RW (eu (C:=C) HC (bc (aa 0 rfl) (aa 3 rfl) (aV (xs:=S) (i:=n) bN n0 n1))))))) (λh=>?_) (λh=>aI ⟨aR n,?_⟩))
  ·have h:(Ld.getD n.toNat []).isEmpty=false/\lQ (aF S n)=false:=by simpa[lQ,aF] using h
   have QX:=N4 _ Qn;obtain⟨l,r,hlr⟩:∃l r,Ld.getD n.toNat []=l::r:=by
    cases e:Ld.getD n.toNat [] with
    | nil=>rw[e] at h;exact Ny h.1 (by decide)
    | cons l r=>exact⟨l,r,rfl⟩
   have e0:(Ld.getD n.toNat []).getD 0 0=l:=by rw[hlr];rfl
   have hl0:cC (Ld.getD n.toNat []) 0=some l:=by rw[hlr,lR (by decide) (by simp)];rfl
   obtain⟨l0,l1⟩:=QX l (by rw[hlr];exact Ic);refine ao (mS 2 (y:=td.getD l.toNat 0) (j:=n.toNat) (iK 2 (bc (bc (aa 1 rfl) (aa 3 rfl) Ow) ah hl0) rfl rfl (aV (xs:=td) (i:=l) 0 l0 (by omega))) (aa 3 rfl) rfl rfl (BB n0 (by omega)) ⟨aR n,?_⟩);unfold rR;rw[ND h,e0];rfl
  ·have h:¬((Ld.getD n.toNat []).isEmpty=false/\lQ (aF S n)=false):=by
    intro z;unfold lQ at z;unfold aF at z;rw[z.1,z.2] at h;exact Ny h (by decide)
   unfold rR;rw[Nz h]
 ·obtain⟨e3,rfl⟩:=hΓ;rw[fb,show((S.length:Int)-1 - -1).toNat=S.length by omega];exact⟨e3,rfl⟩
 rintro _ ⟨e3,rfl⟩;refine WS.freeze 2 rfl (aM (by rw[iW S.length (JI _)];omega)) ?_;exact ao (aN (aa 2 rfl) rfl)
abbrev Rw:=Int×Int×Str×Str
def f6 (r:Rw):PV:=.tup [.int r.1,.int r.2.1,.str r.2.2.1,.str r.2.2.2]
def jm (Ld:List Hs)(z:Int×bb):List (Str×Int):=((ft eQ z.2.kind).getD []).zip (Ld.getD z.1.toNat [])
def oa (St:Hs)(z:Int×bb)(y:Str×Int):Rw:=(z.1,St.getD y.2.toNat 0,y.1,z.2.name)
def eW (Ld:List Hs)(St:Hs)(z:Int×bb):List Rw:=(jm Ld z).map (oa St z)
def gu (S:List bb)(Ld:List Hs)(St:Hs):List Rw:=(nums S).flatMap (eW Ld St)
theorem rL (Ld:List Hs)(z:Int×bb):(jm Ld z).length<=2:=by
 unfold jm;rw[length_zip];refine JJ (Nat.min_le_left _ _) ?_;unfold ft;split
 ·decide
 unfold ft;split
 ·decide
 unfold ft;split
 ·decide
 unfold ft;split
 ·decide
 ·exact JM _
theorem fF {α β:Type}{f:α->List β}{n:Nat}(h:∀x,(f x).length<=n):∀xs:List α,(xs.flatMap f).length<=n*xs.length
 | []=>JM _
 | x::xs=>by
   rw[List.flatMap_cons,HV,Iy,Nat.mul_succ];have:=h x;have:=fF h xs;omega
theorem i4 (Ld:List Hs)(St:Hs)(z:Int×bb):(eW Ld St z).length<=2:=by unfold eW;rw[HU];exact rL Ld z
abbrev FT:Stmt:=top sU
abbrev nRI:Ht:=["steps","leads","stands","told","number","step","word","lead"]
abbrev pRI:Ht:=["steps","leads","stands"]
def Fs (C:Addr):cB:=λK ps T=>∃(S:List bb)(Ld:List Hs)(St:Hs),ps=[⟨ag (aW C),S⟩,⟨ag (ag ai),Ld⟩,⟨ag ai,St⟩]/\S.length<=1000/\um S Ld/\St.length=S.length/\T=bM K (ag bu) (· =(gu S Ld St).map f6)
theorem Dy (M:cm K mg)(HC:bh K C ei)(RW:jb P w K mg "ROW_WORDS" eQ)(Df:Def K mg "rows_in" FT pRI):aH P w K mg base "rows_in" 1 (aG (Fs C) K):=by
 refine bw (N:=nRI) Df (λf NK A outer s H E qs T nd hr hS=>?_);obtain⟨S,Ld,St,rfl,hl,⟨Rg,N4⟩,O6,rfl⟩:=hS;change WS _ _ [.im (ag (aW C)) S,.im (ag (ag ai)) Ld,kj St,.no,.no,.no,.no,.no] _ _;refine aj (cD 3 (r:=bu) (ys:=[]) (aE aK (JM _)) ?_);refine bL (N1:=λΓ=>∃e4 e5 e6 e7,Γ=[.im (ag (aW C)) S,.im (ag (ag ai)) Ld,kj St,.mu bu ((gu S Ld St).map f6),e4,e5,e6,e7]) (dj (λi Γ=>∃e4 e5 e6 e7,Γ=[.im (ag (aW C)) S,.im (ag (ag ai)) Ld,kj St,.mu bu ((((nums S).take i).flatMap (eW Ld St)).map f6),e4,e5,e6,e7]) (gH M.enumerate (aa 0 rfl)) (fJ 4 5) ⟨_,_,_,_,rfl⟩ (λi z Γ hz hΓ=>?_) (λΓ hΓ=>?_)) ?_
 ·obtain⟨e4,e5,e6,e7,rfl⟩:=hΓ;obtain⟨n,nl,e1,e2⟩:=eN (Iw hz);have il:i<S.length:=by have:=(HW.mp hz).1;rwa [cK] at this
  have fl:=fF (i4 Ld St) ((nums S).take i);have hti:((nums S).take i).length<=i:=by rw[Im];omega
  have Qm:((nums S).take (i+1)).flatMap (eW Ld St)=((nums S).take i).flatMap (eW Ld St)++eW Ld St z:=by
   rw[IK,hz,Jq];simp
  rw[Qm];generalize ((nums S).take i).flatMap (eW Ld St)=rs at fl;have rl:rs.length<=2000:=by omega
  obtain⟨zn,zs⟩:=z;dsimp only at e1 e2;subst e1;change WS _ _ [.im (ag (aW C)) S,.im (ag (ag ai)) Ld,kj St,.mu bu (rs.map f6),aR (n:Int),.im (aW C) zs,e6,e7] _ _;have Ow:cC Ld (n:Int)=some (Ld.getD n []):=aV (xs:=Ld) (i:=(n:Int)) [] (by omega) (by omega);have Qn:Ld.getD n []∈Ld:=by
   rw[HY,Ib (show n<Ld.length by omega)];exact Jm _
  have QX:=N4 _ Qn;have hzl:=rL Ld ((n:Int),zs);have hzz:jm Ld ((n:Int),zs)=((ft eQ zs.kind).getD []).zip (Ld.getD n []):=rfl;refine ao (dj (λj Γ=>∃e6 e7,Γ=[.im (ag (aW C)) S,.im (ag (ag ai)) Ld,kj St,.mu bu ((rs++((jm Ld ((n:Int),zs)).take j).map (oa St ((n:Int),zs))).map f6),aR (n:Int),.im (aW C) zs,e6,e7]) (Aa M.zip (zh RW (eu (C:=C) HC (aa 5 rfl)) (rS (xs:=[]) aK (JM _))) (bc (aa 1 rfl) (aa 4 rfl) Ow)) (fJ 6 7) ⟨e6,e7,by rw[List.take_zero,JB,Ip]⟩ (λj y Γ hy hΓ=>?_) (λΓ hΓ=>?_))
  ·obtain⟨e6,e7,rfl⟩:=hΓ;rw[← hzz] at hy;have hjl:j<(jm Ld ((n:Int),zs)).length:=(HW.mp hy).1;have htj:(((jm Ld ((n:Int),zs)).take j).map (oa St ((n:Int),zs))).length<=2:=by rw[HU,Im];omega
   have hnj:((jm Ld ((n:Int),zs)).take (j+1)).map (oa St ((n:Int),zs))=((jm Ld ((n:Int),zs)).take j).map (oa St ((n:Int),zs))++[oa St ((n:Int),zs) y]:=by
    rw[IK,hy,IC];rfl
   rw[hnj];have RL:y.2∈Ld.getD n []:=by
    rw[hzz] at hy;exact(JD (Iw hy)).2
   obtain⟨y0,y1⟩:=QX y.2 RL;generalize ((jm Ld ((n:Int),zs)).take j).map (oa St ((n:Int),zs))=ts at htj;obtain⟨yw,yl⟩:=y;refine ao (cb 3 (y:=f6 (oa St ((n:Int),zs) (yw,yl))) (nj (au (EV.pI (aa 4 rfl)) (au (EV.pI (bc (aa 2 rfl) (aa 7 rfl) (aV (xs:=St) (i:=yl) 0 y0 (by omega)))) (au (EV.pS (aa 6 rfl)) (au (EV.pS (lJ (C:=C) HC (aa 5 rfl))) aK)))) (by show 4<=Ke;decide)) rfl rfl (JN (show _<=3000 by rw[HU,HV];omega) (by decide)) ⟨.im ae yw,aR yl,?_⟩);rw[← IQ,IC (l₁:=rs++ts)];rfl
  ·obtain⟨e6,e7,rfl⟩:=hΓ;refine⟨aR (n:Int),.im (aW C) zs,e6,e7,?_⟩;rw[← hzz,Je];rfl
 ·obtain⟨e4,e5,e6,e7,rfl⟩:=hΓ;refine⟨e4,e5,e6,e7,?_⟩;rw[Je];rfl
 rintro _ ⟨e4,e5,e6,e7,rfl⟩;have fl:=fF (i4 Ld St) (nums S);rw[cK] at fl;refine WS.freeze 3 rfl (aM (by rw[HU];unfold gu;omega)) ?_;exact ao (aN (aa 3 rfl) rfl)
structure bO where
 S:List bb
 parts:List d9
 Ld:List Hs
 St:Hs
 rows:List Rw
abbrev dM:Ht:=["steps","parts","leads","stands","rows"]
theorem cE (h:decide (x∈dM)=true):x∈dM:=NF h
def FQ (C:Addr)(s:bO):gO:=[("steps",(ag (aW C)).at_ s.S),("parts",(ag bu).at_ (s.parts.map dA)),("leads",(ag (ag ai)).at_ s.Ld),("stands",(ag ai).at_ s.St),("rows",(ag bu).at_ (s.rows.map f6))]
def cf (C D:Addr):Rep bO:=⟨λK R v s=>∃x dx vs,v= .ref x/\R x=some (.ins D dx vs)/\ef (FQ C s) K R vs,λs ⟨x,dx,vs,e,h1,h2⟩=>⟨x,dx,vs,e,s _ _ h1,h2.mono s⟩⟩
variable {s:bO}{D:Addr}
theorem lh (hC:bh X.K D dM)(he:EV X e Γ (cf C D) s Γ1)(hb:Kk e "steps" X.env (eval e X.env)=eval e X.env:=by rfl):EV X (.Attribute e "steps" pos) Γ (ag (aW C)) s.S Γ1:=gC hC (cE (by decide)) he (λK R v ⟨x,dx,vs,e,h1,h2⟩=>by obtain⟨u,q1,q2⟩:=h2.get (f:="steps") rfl;exact⟨x,dx,vs,u,e,h1,q1,q2⟩) hb
theorem gB (hC:bh X.K D dM)(he:EV X e Γ (cf C D) s Γ1)(hb:Kk e "parts" X.env (eval e X.env)=eval e X.env:=by rfl):EV X (.Attribute e "parts" pos) Γ (ag bu) (s.parts.map dA) Γ1:=gC hC (cE (by decide)) he (λK R v ⟨x,dx,vs,e,h1,h2⟩=>by obtain⟨u,q1,q2⟩:=h2.get (f:="parts") rfl;exact⟨x,dx,vs,u,e,h1,q1,q2⟩) hb
theorem Fb (hC:bh X.K D dM)(he:EV X e Γ (cf C D) s Γ1)(hb:Kk e "leads" X.env (eval e X.env)=eval e X.env:=by rfl):EV X (.Attribute e "leads" pos) Γ (ag (ag ai)) s.Ld Γ1:=gC hC (cE (by decide)) he (λK R v ⟨x,dx,vs,e,h1,h2⟩=>by obtain⟨u,q1,q2⟩:=h2.get (f:="leads") rfl;exact⟨x,dx,vs,u,e,h1,q1,q2⟩) hb
theorem EK (hC:bh X.K D dM)(he:EV X e Γ (cf C D) s Γ1)(hb:Kk e "stands" X.env (eval e X.env)=eval e X.env:=by rfl):EV X (.Attribute e "stands" pos) Γ (ag ai) s.St Γ1:=gC hC (cE (by decide)) he (λK R v ⟨x,dx,vs,e,h1,h2⟩=>by obtain⟨u,q1,q2⟩:=h2.get (f:="stands") rfl;exact⟨x,dx,vs,u,e,h1,q1,q2⟩) hb
theorem sT (hC:bh X.K D dM)(he:EV X e Γ (cf C D) s Γ1)(hb:Kk e "rows" X.env (eval e X.env)=eval e X.env:=by rfl):EV X (.Attribute e "rows" pos) Γ (ag bu) (s.rows.map f6) Γ1:=gC hC (cE (by decide)) he (λK R v ⟨x,dx,vs,e,h1,h2⟩=>by obtain⟨u,q1,q2⟩:=h2.get (f:="rows") rfl;exact⟨x,dx,vs,u,e,h1,q1,q2⟩) hb
structure jL (S:List bb)(Ld:List Hs):Prop where
 l:S.length<=1000
 ld:ya S Ld
 li:um S Ld
 pt:∀n:Nat,n<S.length->aF S (n:Int)="part"->(bQ (eL S) (n:Int)).isSome
def cT (S:List bb)(Ld:List Hs):bO:=⟨S,fY S,Ld,dO S Ld,gu S Ld (dO S Ld)⟩
abbrev mh:Stmt:=match top xl with
 | .ClassDef _ _ _ b _ _ _ _ _ _ _=>b.getD 0 (.Pass ⟨0,0,0,0⟩)
 | s=>s
abbrev ki:Ht:=["self","text"]
theorem sX:bq ki ki (ak mh):=OT
def Fq (C D0:Addr):wb:=λK D ps Pd=>D=D0/\∃(x:Str)(S:List bb)(Ld:List Hs),ps=[⟨ae,x⟩]/\tZ x S/\jL S Ld/\Pd=λfs=>fs=FQ C (cT S Ld)
theorem Eo (HD:bh K D dM)(CR:aH P w K mg base "read" 3 (aG (Fp C) K))(CP:aH P w K mg base "parts_in" 2 (aG (FU C) K))(CL:aH P w K mg base "leads_in" 3 (aG (Fm C) K))(CS:aH P w K mg base "stands_in" 1 (aG (Gj C) K))(CW:aH P w K mg base "rows_in" 1 (aG (Fs C) K))(F:cY K "__init__" "Spots.__init__" mh f fd):ck P w K mg base cW 4 f fd ki (rW (Fq C D) K):=by
 have nd:=sX.nd;have CP:=CP.mono (show 2<=3 by decide);have CS:=CS.mono (show 1<=3 by decide);have CW:=CW.mono (show 1<=3 by decide);refine uX (k:=3) F sX (λD qs Pd ⟨_,_,_,_,e,_⟩=>by rw[e];rfl) (λNK A outer st H E D' x dx qs Pd hr hS=>?_);obtain⟨rfl,tx,S,Ld,rfl,hx,Sz,rfl⟩:=hS;have Pj:=Sz.l;refine aj (fc 0 HD (cE (by decide)) (ax (y:=S) (r:=ag (aW C)) CR hr (af (aa 1 rfl) av) ⟨tx,S,rfl,hx,rfl⟩) rfl rfl (by show 0<1000;decide) ?_);refine aj (fc 0 HD (cE (by decide)) (ax CP hr (af (i5 0 HD (cE (by decide)) rfl rfl) av) ⟨S,rfl,Pj,Sz.pt,rfl⟩) rfl rfl (by show 1<1000;decide) ?_);refine aj (fc 0 HD (cE (by decide)) (ax CL hr (af (i5 0 HD (cE (by decide)) rfl rfl) av) ⟨S,Ld,rfl,Pj,Sz.ld,rfl⟩) rfl rfl (by show 2<1000;decide) ?_);refine aj (fc 0 HD (cE (by decide)) (ax CS hr (af (i5 0 HD (cE (by decide)) rfl rfl) (af (i5 0 HD (cE (by decide)) rfl rfl) av)) ⟨S,Ld,rfl,Pj,Sz.li,rfl⟩) rfl rfl (by show 3<1000;decide) ?_);exact ao (fc 0 HD (cE (by decide)) (ax CW hr (af (i5 0 HD (cE (by decide)) rfl rfl) (af (i5 0 HD (cE (by decide)) rfl rfl) (af (i5 0 HD (cE (by decide)) rfl rfl) av))) ⟨S,Ld,dO S Ld,rfl,Pj,Sz.li,iW S.length (JI _),rfl⟩) rfl rfl (by show 4<1000;decide) ⟨_,rfl,rfl⟩)
structure lW (P:Kh)(w:World)(K:MO)(mg:Hq)(base:Heap)(C D:Addr):Prop where
 cl:bh K D dM
 ex:∃fi OE,Mk K D fi/\ck P w K mg base cW 4 fi OE ki (rW (Fq C D) K)/\Binds K OE ki []
 mg:mg "Spots"=some (.ref D)
theorem pY {p:Pos}(G:lW X.prog X.w X.K X.mg X.base C D)(hr:bz 5 X.A)(ha:HA X [e] Γ [⟨ae,x⟩] Γ1)(hx:tZ x S)(hk:jL S Ld)(hg:Gl X "Spots":=by rfl)(he:Kf [e] X.env=(false,eval e X.env)::Kf [] X.env:=by rfl)(N8:(Ko pos (Kf [] X.env)).any (·.1)=false:=by rfl):EV X (.Call (.Name "Spots" p) [e] [] pos) Γ (cf C D) (cT S Ld) Γ1:=by
 obtain⟨fi,OE,MK,SI,bi⟩:=G.ex;exact rD MK SI hr G.mg bi ha ⟨rfl,x,S,Ld,rfl,hx,hk,rfl⟩ (λfs R x dx vs hP h1 h2=>by subst hP;exact⟨x,dx,vs,rfl,h2,h1⟩) hg (by decide) he N8
def Bb (CN:Addr):gN:=λK ps o=>∃(a:Addr)(x:Str)(k:Int),ps=[⟨wV,a⟩,⟨ae,x⟩]/\w8 x k/\o=xw CN k
theorem Dj (CR:gm P w K mg base "read" 4 (fX (AI CN) K))(F:cY K "__init__" "Spots.__init__" mh f fd):ck P w K mg base (bS P w) 5 f fd ki (fX (Bb CN) K):=by
 have nd:=sX.nd;refine Ae (k:=4) F sX (λqs o ⟨_,_,_,e,_⟩=>by rw[e];rfl) (λqs T ⟨_,_,_,_,_,e⟩=>by cases e) (λNK A outer st H R E qs c fs hr hS q=>?_);obtain⟨a,x,k,rfl,hx,e⟩:=hS;cases e
 exact Bk 0 (a:=a) (kT CR hr (af (aa 1 rfl) av) ⟨x,k,rfl,hx,rfl⟩ q)
structure uy (P:Kh)(w:World)(K:MO)(mg:Hq)(base:Heap)(CN D:Addr):Prop where
 ex:∃fi OE,Mk K D fi/\ck P w K mg base (bS P w) 5 fi OE ki (fX (Bb CN) K)/\Binds K OE ki []
 mg:mg "Spots"=some (.ref D)
variable {a:Int}
theorem qu :∃n,bU ws n/\((rx ws n).w=ws.length/\(rx ws n).O=[]∨∃k,dW ws (rx ws n) k):=by
 have key:∀m n,bU ws n->(rx ws n).w<=ws.length->ws.length<=(rx ws n).w+m->∃n,bU ws n/\((rx ws n).w=ws.length/\(rx ws n).O=[]∨∃k,dW ws (rx ws n) k):=by
  intro m
  induction m with
  | zero=>
    intro n h hw hm;by_cases ho:(rx ws n).O=[]
    ·exact⟨n,h,.inl ⟨by omega,ho⟩⟩
    ·exact⟨n,h,.inr ⟨_,.more (by omega) ho⟩⟩
  | succ m ih=>
    intro n h hw hm;rcases JO (rx ws n).w ws.length with lt | ge
    ·cases QW:bJ (NR ws (rx ws n)) ((rx ws n).O.map (aF (rx ws n).S)) with
     | false=>exact⟨n,h,.inr ⟨_,.may lt QW⟩⟩
     | true=>
       by_cases hb:NR ws (rx ws n)∈named/\((rx ws n).w+1=ws.length∨eI (ws.getD ((rx ws n).w+1) "")=false)
       ·exact⟨n,h,.inr ⟨_,.nm lt QW hb.1 hb.2⟩⟩
       ·have hn:NR ws (rx ws n)∈named->(rx ws n).w+1<ws.length/\eI (ws.getD ((rx ws n).w+1) "")=true:=λz=>by
         refine⟨?_,?_⟩
         ·rcases JO ((rx ws n).w+1) ws.length with q | q
          ·exact q
          ·exact Ny ⟨z,.inl (by omega)⟩ hb
         ·cases q:eI (ws.getD ((rx ws n).w+1) "") with
          | true=>rfl
          | false=>exact Ny ⟨z,.inr q⟩ hb
        have e:(rx ws (n+1)).w=(rx ws n).w+(if NR ws (rx ws n)∈named then 2 else 1):=rfl;have e2:(rx ws n).w+1<=(rx ws (n+1)).w/\(rx ws (n+1)).w<=ws.length:=by
         rw[e];by_cases z:NR ws (rx ws n)∈named
         ·rw[ND z];have:=(hn z).1;omega
         ·rw[Nz z];omega
        refine ih (n+1) (λi hi=>?_) e2.2 (by omega);rcases JO i n with q | q
        ·exact h i q
        ·obtain rfl:i=n:=by omega
         exact⟨lt,QW,hn⟩
    ·by_cases ho:(rx ws n).O=[]
     ·exact⟨n,h,.inl ⟨by omega,ho⟩⟩
     ·exact⟨n,h,.inr ⟨_,.more (by omega) ho⟩⟩
 exact key ws.length 0 (λi h=>by omega) (JM _) (by omega)
theorem nP (W:eT ws):(∃n,bU ws n/\rx ws n=⟨(rx ws n).S,[],ws.length⟩)∨∃n k,bU ws n/\dW ws (rx ws n) k:=by
 obtain⟨n,h,⟨h1,h2⟩ | ⟨k,h1⟩⟩:=qu (ws:=ws)
 ·refine .inl ⟨n,h,?_⟩;generalize rx ws n=y at h1 h2;obtain⟨S,O,w⟩:=y;dsimp only at h1 h2;rw[h1,h2]
 ·exact .inr ⟨n,k,h,h1⟩
theorem ji {k:Str}(h:bJ k ks=true):(ks=[]/\k="part")∨(ks≠[]/\(("while":Str)∈ks/\k="leave"∨ks.getLast?.getD ""="if"/\k="else"∨ks.getLast?.getD ""≠"if"/\k="end"∨k="do"∨k="call"∨k="if"∨k="while"∨k="back")):=by
 unfold bJ at h;cases ks with
 | nil=>exact .inl ⟨rfl,NF h⟩
 | cons a r=>
   refine .inr ⟨cons_ne_nil _ _,?_⟩;rw[Nz (by simp)] at h;by_cases h1:k="leave"
   ·rw[ND h1] at h;exact .inl ⟨NF h,h1⟩
   rw[Nz h1] at h;by_cases h2:k="else"
   ·rw[ND h2] at h;exact .inr (.inl ⟨NF h,h2⟩)
   rw[Nz h2] at h;by_cases h3:k="end"
   ·rw[ND h3] at h;exact .inr (.inr (.inl ⟨by simpa using h,h3⟩))
   rw[Nz h3] at h;have:=NF h;simp only[Oi,Ih,Il,or_false] at this;rcases this with e | e | e | e | e | e
   ·exact .inr (.inr (.inr (.inl e)))
   ·exact .inr (.inr (.inr (.inr (.inl e))))
   ·exact .inr (.inr (.inr (.inr (.inr (.inl e)))))
   ·exact .inr (.inr (.inr (.inr (.inr (.inr (.inl e))))))
   ·exact Ny e h1
   ·exact .inr (.inr (.inr (.inr (.inr (.inr (.inr e))))))
abbrev eJ (O:Hs):Int:=O.getLast?.getD (-1)
inductive gb (S:List bb):Hs->Prop
 | one {a:Int} (h:aF S a="part") (h0:0<=a) (h1:a<(S.length:Int)):gb S [a]
 | push {O:Hs} {b:Int} (hO:gb S O) (hk:aF S b="if"∨aF S b="while") (hw:bP S b=eJ O) (h0:0<=b) (h1:b<(S.length:Int)):gb S (O++[b])
 | Pf {O:Hs} {a e:Int} (hO:gb S (O++[a])) (ha:aF S a="if") (hk:aF S e="else") (hw:bP S e=a) (h0:0<=e) (h1:e<(S.length:Int)):gb S (O++[e])
theorem f9 :eJ (O++[a])=a:=by simp[eJ]
theorem gb.ne (h:gb S O):O≠[]:=by cases h<;>simp
theorem gb.pop (h:gb S O):(O.dropLast=[]/\aF S (eJ O)="part")∨gb S O.dropLast:=by
 induction h with
 | one h h0 h1=>exact .inl ⟨rfl,h⟩
 | push hO hk hw h0 h1 ih=>rw[Jh];exact .inr hO
 | Pf hO ha hk hw h0 h1 ih=>
   rw[Jh,f9,ha] at ih;rcases ih with⟨_,e⟩ | ih
   ·exact Ny e (by decide +kernel)
   ·rw[Jh];exact .inr ih
theorem gb.last (h:gb S O):(0<=eJ O/\eJ O<(S.length:Int))/\(aF S (eJ O)="part"∨aF S (eJ O)="if"∨aF S (eJ O)="while"∨aF S (eJ O)="else"):=by
 cases h with
 | one h h0 h1=>exact⟨⟨h0,h1⟩,.inl h⟩
 | push hO hk hw h0 h1=>rw[f9];exact⟨⟨h0,h1⟩,by rcases hk with h | h<;>simp[h]⟩
 | Pf hO ha hk hw h0 h1=>rw[f9];exact⟨⟨h0,h1⟩,by simp[hk]⟩
theorem gb.part (h:gb S O):("part":Str)∈O.map (aF S):=by
 induction h with
 | one h h0 h1=>rw[Jt,h];exact HX.mpr rfl
 | push hO hk hw h0 h1 ih=>rw[IC];exact Ik _ ih
 | Pf hO ha hk hw h0 h1 ih=>
   rw[IC] at ih ⊢;rcases Ij.mp ih with z | z
   ·exact Ik _ z
   ·rw[Jt,ha] at z;exact Ny (HX.mp z) (by decide +kernel)
inductive sA (S:List bb) (kd:Str):Int->Int->Prop
 | here {a:Int} (h0:0<=a) (h1:a<(S.length:Int)) (h:aF S a=kd):sA S kd a a
 | up {a b:Int} (h0:0<=a) (h1:a<(S.length:Int)) (h:aF S a≠kd) (q:sA S kd (bP S a) b):sA S kd a b
theorem gb.up {kd:Str}(h:gb S O)(hk:kd="while"∨kd="part")(hm:kd∈O.map (aF S)):∃b,sA S kd (eJ O) b:=by
 induction h with
 | one h h0 h1=>
   rw[Jt] at hm;exact⟨_,.here h0 h1 (HX.mp hm).symm⟩
 | @push O b hO Pp hw h0 h1 ih=>
   rw[f9];by_cases e:aF S b=kd
   ·exact⟨b,.here h0 h1 e⟩
   ·rw[IC] at hm;rcases Ij.mp hm with z | z
    ·obtain⟨c,hc⟩:=ih z;exact⟨c,.up h0 h1 e (by rw[hw];exact hc)⟩
    ·exact Ny (HX.mp z).symm e
 | @Pf O a e hO ha Pp hw h0 h1 ih=>
   rw[f9] at ih ⊢;have ne:aF S e≠kd:=by rw[Pp];rcases hk with r | r<;>rw[r]<;>decide +kernel
   rw[IC] at hm ih;rcases Ij.mp hm with z | z
   ·obtain⟨c,hc⟩:=ih (Ik _ z);exact⟨c,.up h0 h1 ne (by rw[hw];exact hc)⟩
   ·exact Ny (HX.mp z).symm ne
theorem hZ {α:Type}{f:α->α}{x:α}:∀k,Oh f k (f x)=Oh f (k+1) x
 | 0=>rfl
 | k+1=>by rw[Oh,hZ k];rfl
theorem sA.ar {b:Int}(h:sA S kd a b):(aF S b=kd/\0<=b/\b<(S.length:Int))/\∃k:Nat,Oh (bP S) k a=b/\(∀j,j<=k->0<=Oh (bP S) j a/\Oh (bP S) j a<(S.length:Int))/\(∀j,j<k->aF S (Oh (bP S) j a)≠kd):=by
 induction h with
 | here h0 h1 h=>exact⟨⟨h,h0,h1⟩,0,rfl,λj hj=>by rw[show j=0 by omega];exact⟨h0,h1⟩,λj hj=>by omega⟩
 | @up a b h0 h1 h q ih=>
   obtain⟨r,k,e,N4,N2⟩:=ih;refine⟨r,k+1,by rw[← hZ];exact e,λj hj=>?_,λj hj=>?_⟩
   ·cases j with
    | zero=>exact⟨h0,h1⟩
    | succ j=>rw[← hZ];exact N4 j (by omega)
   ·cases j with
    | zero=>exact h
    | succ j=>rw[← hZ];exact N2 j (by omega)
theorem pd (ws:Ht)(i:Nat):∀j,∃t,(rx ws (i+j)).S=(rx ws i).S++t
 | 0=>⟨[],by simp⟩
 | j+1=>by
   obtain⟨t,e⟩:=pd ws i j;exact⟨t++[ng (NR ws (rx ws (i+j))) (if NR ws (rx ws (i+j))∈named then ws.getD ((rx ws (i+j)).w+1) "" else "") (rx ws (i+j))],by
    show(rx ws (i+j)).S++_=_;rw[e,IQ];rfl⟩
theorem wA (h:i<n):(rx ws n).S.getD i bN=ng (NR ws (rx ws i)) (if NR ws (rx ws i)∈named then ws.getD ((rx ws i).w+1) "" else "") (rx ws i):=by
 obtain⟨t,e⟩:=pd ws (i+1) (n-(i+1));rw[show i+1+(n-(i+1))=n by omega] at e;have hl:=(cz ws i).1;have e2:(rx ws (i+1)).S=(rx ws i).S++[ng (NR ws (rx ws i)) (if NR ws (rx ws i)∈named then ws.getD ((rx ws i).w+1) "" else "") (rx ws i)]:=rfl;rw[e,e2,IQ,HY,IE (by omega),hl,Nat.sub_self];rfl
abbrev fS (ws:Ht)(n:Nat):List bb:=(rx ws n).S
theorem xR (h:i<n):aF (fS ws n) (i:Int)=NR ws (rx ws i):=by
 show((rx ws n).S.getD ((i:Int).toNat) bN).kind=_;rw[show((i:Int)).toNat=i by omega,wA h];rfl
theorem oW (h:i<n):bP (fS ws n) (i:Int)=eJ (rx ws i).O:=by
 show((rx ws n).S.getD ((i:Int).toNat) bN).within=_;rw[show((i:Int)).toNat=i by omega,wA h];rfl
theorem Cy (h:i<=n):(rx ws i).O.map (aF (rx ws i).S)=(rx ws i).O.map (aF (fS ws n)):=by
 obtain⟨t,e⟩:=pd ws i (n-i);rw[show i+(n-i)=n by omega] at e;obtain⟨a,_,_,d⟩:=cz ws i;unfold fS;rw[e,mQ (by rw[a];exact d)]
theorem gf:(fS ws n).length=n:=(cz ws n).1
theorem GL (i:Nat):(rx ws (i+1)).O=(if NR ws (rx ws i)∈NO then(rx ws i).O.dropLast else(rx ws i).O)++(if NR ws (rx ws i)∈NX then[(i:Int)] else[]):=by
 show _++(if NR ws (rx ws i)∈NX then[((rx ws i).S.length:Int)] else[])=_;rw[(cz ws i).1]
theorem yN (h:O≠[]):(O.map (aF S)).getLast?.getD ""=aF S (eJ O):=by
 obtain⟨l,x,rfl⟩:∃l x,O=l++[x]:=⟨O.dropLast,O.getLast h,(Iq h).symm⟩;rw[f9];simp
theorem g7 (hr:bU ws n)(h:i<n):((rx ws i).O=[]/\aF (fS ws n) i="part"/\(rx ws (i+1)).O=[(i:Int)])∨((rx ws i).O≠[]/\(
 (("while":Str)∈(rx ws i).O.map (aF (fS ws n))/\aF (fS ws n) i="leave"/\(rx ws (i+1)).O=(rx ws i).O)∨
 (aF (fS ws n) (eJ (rx ws i).O)="if"/\aF (fS ws n) i="else"/\(rx ws (i+1)).O=(rx ws i).O.dropLast++[(i:Int)])∨
 (aF (fS ws n) (eJ (rx ws i).O)≠"if"/\aF (fS ws n) i="end"/\(rx ws (i+1)).O=(rx ws i).O.dropLast)∨
 ((aF (fS ws n) i="do"∨aF (fS ws n) i="call"∨aF (fS ws n) i="back")/\(rx ws (i+1)).O=(rx ws i).O)∨
 ((aF (fS ws n) i="if"∨aF (fS ws n) i="while")/\(rx ws (i+1)).O=(rx ws i).O++[(i:Int)]))):=by
 have hm:=(hr i h).may;rw[Cy (n:=n) (by omega)] at hm;rw[GL,xR h];generalize NR ws (rx ws i)=k at hm;have nc:∀{k:Str},k∉NO->k∉NX->∀{O:Hs},(if k∈NO then O.dropLast else O)++(if k∈NX then[(i:Int)] else[])=O:=λh1 h2 O=>by rw[Nz h1,Nz h2,Ip]
 have no:∀{k:Str},k∉NO->k∈NX->∀{O:Hs},(if k∈NO then O.dropLast else O)++(if k∈NX then[(i:Int)] else[])=O++[(i:Int)]:=λh1 h2 O=>by rw[Nz h1,ND h2]
 rcases ji hm with⟨h1,rfl⟩ | ⟨h1,h2⟩
 ·have h1:=JC.mp h1;refine .inl ⟨h1,rfl,?_⟩;rw[h1];rfl
 ·have h1:(rx ws i).O≠[]:=λe=>h1 (by rw[e];rfl);rw[yN h1] at h2;refine .inr ⟨h1,?_⟩;rcases h2 with⟨a,rfl⟩ | ⟨a,rfl⟩ | ⟨a,rfl⟩ | rfl | rfl | rfl | rfl | rfl
  ·exact .inl ⟨a,rfl,nc (by decide +kernel) (by decide +kernel)⟩
  ·exact .inr (.inl ⟨a,rfl,by rw[ND (by decide +kernel),ND (by decide +kernel)]⟩)
  ·exact .inr (.inr (.inl ⟨a,rfl,by rw[ND (by decide +kernel),Nz (by decide +kernel),Ip]⟩))
  ·exact .inr (.inr (.inr (.inl ⟨.inl rfl,nc (by decide +kernel) (by decide +kernel)⟩)))
  ·exact .inr (.inr (.inr (.inl ⟨.inr (.inl rfl),nc (by decide +kernel) (by decide +kernel)⟩)))
  ·exact .inr (.inr (.inr (.inr ⟨.inl rfl,no (by decide +kernel) (by decide +kernel)⟩)))
  ·exact .inr (.inr (.inr (.inr ⟨.inr rfl,no (by decide +kernel) (by decide +kernel)⟩)))
  ·exact .inr (.inr (.inr (.inl ⟨.inr (.inr rfl),nc (by decide +kernel) (by decide +kernel)⟩)))
theorem o8 (hr:bU ws n):∀i,i<=n->(rx ws i).O=[]∨gb (fS ws n) (rx ws i).O
 | 0,_=>.inl rfl
 | i+1,h=>by
   have hl:=gf (ws:=ws) (n:=n);have i0:(0:Int)<=(i:Int):=by omega
   have i1:(i:Int)<((fS ws n).length:Int):=by omega
   have wi:=oW (ws:=ws) (n:=n) (i:=i) h;have ih:=o8 hr i (by omega);rcases g7 hr (i:=i) h with⟨e1,e2,e3⟩ | ⟨e1,e2⟩
   ·rw[e3];exact .inr (.one e2 i0 i1)
   ·have ih:=ih.resolve_left e1;rcases e2 with⟨a,b,c⟩ | ⟨a,b,c⟩ | ⟨a,b,c⟩ | ⟨b,c⟩ | ⟨b,c⟩
    ·rw[c];exact .inr ih
    ·rw[c];refine .inr (.Pf (a:=eJ (rx ws i).O) ?_ a b wi i0 i1);have:(rx ws i).O.dropLast++[eJ (rx ws i).O]=(rx ws i).O:=by
      obtain⟨l,x,e⟩:∃l x,(rx ws i).O=l++[x]:=⟨_,_,(Iq e1).symm⟩;rw[e,f9,Jh]
     rw[this];exact ih
    ·rw[c];rcases ih.pop with⟨z,_⟩ | z
     ·exact .inl z
     ·exact .inr z
    ·rw[c];exact .inr ih
    ·rw[c];exact .inr (.push ih b wi i0 i1)
theorem gK (he:(rx ws n).O=[])(h:i<n)(ho:(rx ws (i+1)).O≠[]):i+1<n:=by
 rcases JO (i+1) n with z | z
 ·exact z
 ·exact Ny (by rw[show i+1=n by omega];exact he) ho
theorem xF {a b:Option Int}(h:a.map V.int=b.map V.int):a=b:=by
 cases a<;>cases b<;>simp at h<;>simp[h]
theorem xD (F:Hy)(k v j:Int):bQ (dF F k v) j=if j=k then some v else bQ F j:=by
 have h:=wJ (bR (cw F)) (Nv k:Key) (Nv j) (.int v);rw[lL,iz,iz] at h;apply xF;rw[h];by_cases e:j=k
 ·rw[ND (by rw[e]),ND e];rfl
 ·rw[Nz (λz=>e (Nv.inj z)),Nz e]
theorem mY {a:Int}:∀(zs:List (Int×bb))(F:Hy),(bQ (zs.foldl ee F) a=bQ F a/\∀z∈zs,z.2.kind∈NO->z.2.within≠a)∨∃z∈zs,z.2.kind∈NO/\z.2.within=a/\bQ (zs.foldl ee F) a=some z.1
 | [],F=>.inl ⟨rfl,λz h=>by cases h⟩
 | z::zs,F=>by
   rw[Jw];rcases mY (a:=a) zs (ee F z) with⟨e,hn⟩ | ⟨y,hy,q⟩
   ·rw[e];unfold ee;by_cases hk:z.2.kind∈NO
    ·rw[ND hk,xD];by_cases hw:a=z.2.within
     ·rw[ND hw];exact .inr ⟨z,Ic,hk,hw.symm,rfl⟩
     ·rw[Nz hw];refine .inl ⟨rfl,λy hy Pp=>?_⟩;rcases Ih.mp hy with rfl | hy
      ·exact λq=>hw q.symm
      ·exact hn y hy Pp
    ·rw[Nz hk];refine .inl ⟨rfl,λy hy Pp=>?_⟩;rcases Ih.mp hy with rfl | hy
     ·exact Ny Pp hk
     ·exact hn y hy Pp
   ·exact .inr ⟨y,Ia _ hy,q⟩
theorem ir (hr:bU ws n)(he:(rx ws n).O=[]){a:Int}:∀d j,j+d=n->a∈(rx ws j).O->∃m,m<n/\(aF (fS ws n) (m:Int)="else"∨aF (fS ws n) (m:Int)="end")/\eJ (rx ws m).O=a
 | 0,j,h,ha=>by
   rw[show j=n by omega,he] at ha;cases ha
 | d+1,j,h,ha=>by
   have jn:j<n:=by omega
   have dl:a∈(rx ws j).O->a∉(rx ws j).O.dropLast->eJ (rx ws j).O=a:=λh1 h2=>by
    have N2:(rx ws j).O≠[]:=λe=>by rw[e] at h1;cases h1
    obtain⟨l,x,e⟩:∃l x,(rx ws j).O=l++[x]:=⟨_,_,(Iq N2).symm⟩;rw[e] at h1 h2 ⊢;rw[Jh] at h2;rw[f9];rcases Ij.mp h1 with z | z
    ·exact Ny z h2
    ·exact(HX.mp z).symm
   rcases g7 hr jn with⟨e1,_⟩ | ⟨_,⟨_,_,c⟩ | ⟨_,b,c⟩ | ⟨_,b,c⟩ | ⟨_,c⟩ | ⟨_,c⟩⟩
   ·rw[e1] at ha;cases ha
   ·exact ir hr he d (j+1) (by omega) (by rw[c];exact ha)
   ·by_cases z:a∈(rx ws j).O.dropLast
    ·exact ir hr he d (j+1) (by omega) (by rw[c];exact Ik _ z)
    ·exact⟨j,jn,.inl b,dl ha z⟩
   ·by_cases z:a∈(rx ws j).O.dropLast
    ·exact ir hr he d (j+1) (by omega) (by rw[c];exact z)
    ·exact⟨j,jn,.inr b,dl ha z⟩
   ·exact ir hr he d (j+1) (by omega) (by rw[c];exact ha)
   ·exact ir hr he d (j+1) (by omega) (by rw[c];exact Ik _ ha)
theorem nA (h:i<S.length):((i:Int),S.getD i bN)∈nums S:=by
 refine Iw (i:=i) ?_;unfold nums;rw[Ii,List.getElem?_zipIdx,HY,Ib h];simp
theorem closed (hr:bU ws n)(he:(rx ws n).O=[])(h0:0<=a)(h1:a<(n:Int))(hk:aF (fS ws n) a="part"∨aF (fS ws n) a="if"∨aF (fS ws n) a="while"∨aF (fS ws n) a="else"):∃c:Int,bQ (eL (fS ws n)) a=some c/\0<=c/\c<(n:Int)/\(aF (fS ws n) a≠"part"->c+1<(n:Int)):=by
 obtain⟨i,rfl⟩:∃i:Nat,a=(i:Int):=⟨a.toNat,by omega⟩;have N4:i<n:=by omega
 have ha:(i:Int)∈(rx ws (i+1)).O:=by
  rcases g7 hr N4 with⟨_,_,c⟩ | ⟨_,⟨_,b,c⟩ | ⟨_,b,c⟩ | ⟨_,b,c⟩ | ⟨b,c⟩ | ⟨_,c⟩⟩
  ·rw[c];exact HX.mpr rfl
  ·rw[b] at hk;exact Ny hk (by decide +kernel)
  ·rw[c];exact Ie _ (HX.mpr rfl)
  ·rw[b] at hk;exact Ny hk (by decide +kernel)
  ·rcases b with b | b | b<;>rw[b] at hk<;>exact Ny hk (by decide +kernel)
  ·rw[c];exact Ie _ (HX.mpr rfl)
 obtain⟨m,mn,mk,mw⟩:=ir hr he (n-(i+1)) (i+1) (by omega) ha;have hl:=gf (ws:=ws) (n:=n);have cg:∀{k:Str},k="else"∨k="end"->k∈NO:=λh=>by rcases h with rfl | rfl<;>decide +kernel
 rcases mY (a:=(i:Int)) (nums (fS ws n)) [] with⟨_,hn⟩ | ⟨z,hz,zk,zw,zg⟩
 ·refine Ny ?_ (hn _ (nA (i:=m) (by omega)) ?_)
  ·have:=oW (ws:=ws) (n:=n) mn;rw[mw] at this;exact this
  ·exact cg mk
 ·obtain⟨c,cl,e1,e2⟩:=eN hz;have cn:c<n:=by omega
  have kc:aF (fS ws n) (c:Int)=z.2.kind:=by rw[← e2];rfl
  have wc:eJ (rx ws c).O=(i:Int):=by rw[← oW (n:=n) cn,← zw,← e2];rfl
  refine⟨(c:Int),by rw[← e1];exact zg,by omega,by omega,λhp=>?_⟩;have O7:=o8 hr c (by omega);have nz:(rx ws c).O≠[]:=λz=>by
   rw[z] at wc;have:(-1:Int)=(i:Int):=wc;omega
  have O7:=O7.resolve_left nz;have hd:(rx ws c).O.dropLast≠[]:=λz=>by
   rcases O7.pop with⟨_,q⟩ | q
   ·rw[wc] at q;exact hp q
   ·exact q.ne z
  have:=gK he cn ?_
  ·omega
  ·rcases g7 hr cn with⟨e,_⟩ | ⟨_,⟨_,b,_⟩ | ⟨_,b,c'⟩ | ⟨_,b,c'⟩ | ⟨b,_⟩ | ⟨b,_⟩⟩
   ·exact Ny e nz
   ·rw[← kc,b] at zk;exact Ny zk (by decide +kernel)
   ·rw[c'];simp
   ·rw[c'];exact hd
   ·rw[← kc] at zk;rcases b with b | b | b<;>rw[b] at zk<;>exact Ny zk (by decide +kernel)
   ·rw[← kc] at zk;rcases b with b | b<;>rw[b] at zk<;>exact Ny zk (by decide +kernel)
theorem z9 (hr:bU ws n)(he:(rx ws n).O=[])(h:i<n):∃ls,fG (fS ws n) (eL (fS ws n)) (i:Int) ls/\(∀l∈ls,0<=l/\l<(n:Int))/\ls.length<=2:=by
 have hl:=gf (ws:=ws) (n:=n);have wi:=oW (ws:=ws) (n:=n) (i:=i) h;have cls:=λ{a:Int} h0 h1 hk=>closed hr he (a:=a) h0 h1 hk;have r1:∀{l:Int},0<=l->l<(n:Int)->∀x∈[l],0<=x/\x<(n:Int):=λh0 h1 x hx=>by rw[HX.mp hx];exact⟨h0,h1⟩
 rcases g7 hr h with⟨e1,e2,e3⟩ | ⟨e1,e2⟩
 ·have:=gK he h (by rw[e3];simp);exact⟨[(i:Int)+1],.PN (.inl e2),r1 (by omega) (by omega),by simp⟩
 ·have ch:=(o8 hr i (by omega)).resolve_left e1;obtain⟨⟨la0,la1⟩,lk⟩:=ch.last;rcases e2 with⟨a,b,c⟩ | ⟨a,b,c⟩ | ⟨a,b,c⟩ | ⟨b,c⟩ | ⟨b,c⟩
  ·obtain⟨u,hu⟩:=ch.up (.inl rfl) a;obtain⟨⟨uk,u0,u1⟩,ku,q1,q2,q3⟩:=hu.ar;obtain⟨cl,c1,c2,c3,c4⟩:=cls u0 (by omega) (.inr (.inr (.inl uk)));have:=c4 (by rw[uk];decide +kernel);exact⟨[cl+1],.Qk b ⟨ku,by rw[wi];exact q1,by rw[wi];exact q2,by rw[wi];exact q3,uk⟩ c1,r1 (by omega) (by omega),by simp⟩
  ·obtain⟨cl,c1,c2,c3,c4⟩:=cls (a:=(i:Int)) (by omega) (by omega) (.inr (.inr (.inr b)));exact⟨[cl],.Pf b c1,r1 c2 c3,by simp⟩
  ·have hw0:0<=bP (fS ws n) (i:Int):=by rw[wi];exact la0
   have hw1:bP (fS ws n) (i:Int)<((fS ws n).length:Int):=by rw[wi];exact la1
   rcases lk with k | k | k | k
   ·exact⟨[],.Qq b hw0 hw1 (by rw[wi];exact k),(λl hl=>by cases hl),by simp⟩
   ·exact Ny k a
   ·exact⟨[bP (fS ws n) (i:Int)],.Qp b hw0 hw1 (by rw[wi];exact k),r1 hw0 (by omega),by simp⟩
   ·have:=gK he h (by
     rw[c];intro z;rcases ch.pop with⟨_,q⟩ | q
     ·rw[k] at q;exact Ny q (by decide +kernel)
     ·exact q.ne z)
    exact⟨[(i:Int)+1],.Qr b hw0 hw1 (by rw[wi];exact k),r1 (by omega) (by omega),by simp⟩
  ·rcases b with b | b | b
   ·have:=gK he h (by rw[c];exact e1);exact⟨[(i:Int)+1],.PN (.inr (.inl b)),r1 (by omega) (by omega),by simp⟩
   ·have:=gK he h (by rw[c];exact e1);exact⟨[(i:Int)+1],.PN (.inr (.inr b)),r1 (by omega) (by omega),by simp⟩
   ·obtain⟨u,hu⟩:=ch.up (.inr rfl) ch.part;obtain⟨⟨uk,u0,u1⟩,ku,q1,q2,q3⟩:=hu.ar;obtain⟨cl,c1,c2,c3,c4⟩:=cls u0 (by omega) (.inl uk);exact⟨[cl],.Qt b ⟨ku,by rw[wi];exact q1,by rw[wi];exact q2,by rw[wi];exact q3,uk⟩ c1,r1 c2 c3,by simp⟩
  ·obtain⟨cl,c1,c2,c3,c4⟩:=cls (a:=(i:Int)) (by omega) (by omega) (by rcases b with b | b<;>simp[b])
   have:=c4 (by rcases b with b | b<;>rw[b]<;>decide +kernel)
   have:=gK he h (by rw[c];simp);refine⟨[(i:Int)+1,cl+1],.row b c1,λl hl=>?_,by simp⟩;rcases Ih.mp hl with rfl | hl
   ·omega
   ·rw[HX.mp hl];omega
variable {ps:List d9}
structure kx (s:bO):Prop where
 l:s.S.length<=1000
 li:um s.S s.Ld
 l2:∀ls∈s.Ld,ls.length<=2
 sl:s.St.length=s.S.length
 pl:s.parts.length<=1000
 pv:∀p∈s.parts,0<=p.2.1/\p.2.1<(s.S.length:Int)
 rl:s.rows.length<=2000
 rk:∀r∈s.rows,0<=r.1/\r.1<(s.S.length:Int)
theorem A5 (h:jL S Ld)(h2:∀ls∈Ld,ls.length<=2):kx (cT S Ld):=by
 have hl:=h.l;have nl:=cK S;refine⟨hl,h.li,h2,iW S.length (JI _),?_,λp hp=>?_,?_,λr hr=>?_⟩
 ·show(fY S).length<=_;unfold fY;rw[HU];exact JJ (IA _ _) (by omega)
 ·obtain⟨z,hz,rfl⟩:=Io.mp (show p∈fY S from hp);obtain⟨n,nl,e1,_⟩:=eN (IM.mp hz).1;show 0<=z.1/\z.1<_;exact⟨by omega,by show z.1<(S.length:Int);omega⟩
 ·show(gu S Ld (dO S Ld)).length<=_;have fl:=fF (i4 Ld (dO S Ld)) (nums S);unfold gu;omega
 ·obtain⟨z,hz,hr⟩:=JA.mp (show r∈gu S Ld (dO S Ld) from hr);obtain⟨y,_,rfl⟩:=Io.mp hr;obtain⟨n,nl,e1,_⟩:=eN hz;show 0<=z.1/\z.1<(S.length:Int);omega
theorem wx (W:eT ws)(hr:bU ws n)(he:rx ws n=⟨fS ws n,[],ws.length⟩):∃Ld,jL (fS ws n) Ld/\kx (cT (fS ws n) Ld):=by
 have hO:(rx ws n).O=[]:=by rw[he]
 have hl:=gf (ws:=ws) (n:=n);have hw:=(cz ws n).2.1;rw[show(rx ws n).w=ws.length by rw[he]] at hw;have wl:=W.l;have ex:∀i:Nat,∃ls,i<n->fG (fS ws n) (eL (fS ws n)) (i:Int) ls/\(∀l∈ls,0<=l/\l<(n:Int))/\ls.length<=2:=λi=>by
  by_cases h:i<n
  ·obtain⟨ls,h⟩:=z9 hr hO h;exact⟨ls,λ_=>h⟩
  ·exact⟨[],λz=>Ny z h⟩
 let g:Nat->Hs:=λi=>Classical.choose (ex i)
 have hg:∀i,i<n->fG (fS ws n) (eL (fS ws n)) (i:Int) (g i)/\(∀l∈g i,0<=l/\l<(n:Int))/\(g i).length<=2:=λi=>Classical.choose_spec (ex i);have N4:∀ls∈(IL n).map g,∃i,i<n/\ls=g i:=λls h=>by
  obtain⟨i,hi,rfl⟩:=Io.mp h;exact⟨i,Jb.mp hi,rfl⟩
 have hk:jL (fS ws n) ((IL n).map g):=by
  refine⟨by omega,⟨by rw[HU,Ja,hl],λi hi=>?_⟩,⟨by rw[HU,Ja,hl],λls h l hl'=>?_⟩,λi hi hp=>?_⟩
  ·rw[hl] at hi;rw[HY,Ii,Jl hi];exact(hg i hi).1
  ·obtain⟨i,hi,rfl⟩:=N4 ls h;have:=(hg i hi).2.1 l hl';omega
  ·obtain⟨c,e,_⟩:=closed hr hO (a:=(i:Int)) (by omega) (by omega) (.inl hp);rw[e];rfl
 exact⟨_,hk,A5 hk λls h=>by obtain⟨i,hi,rfl⟩:=N4 ls h;exact(hg i hi).2.2⟩
theorem uV (h:i<=xs.length):cut xs none (some (i:Int))=xs.take i:=by
 have e:HT.NQ xs.length xs.length (some (i:Int))=i:=by
  show(if(i:Int)<0 then((i:Int)+(xs.length:Int)).toNat else min (i:Int).toNat xs.length)=i;rw[Nz (by omega)];omega
 unfold cut;rw[e];rfl
theorem Dd :cut xs (some (i:Int)) none=xs.drop i:=by
 have e:HT.NQ xs.length 0 (some (i:Int))=min i xs.length:=by
  show(if(i:Int)<0 then((i:Int)+(xs.length:Int)).toNat else min (i:Int).toNat xs.length)=_;rw[Nz (by omega)];rfl
 have e2:HT.NQ xs.length xs.length none=xs.length:=rfl;unfold cut;rw[e,e2];rcases JO i xs.length with h | h
 ·rw[Nat.min_eq_left (by omega),List.take_of_length_le (by rw[IY];omega)]
 ·rw[Nat.min_eq_right h,Ju (JI _),Ju h,List.take_nil]
theorem jH:∀(n:Nat)(l:Hs),l.Nodup->(∀x∈l,0<=x/\x<(n:Int))->l.length<=n
 | 0,l,_,h=>by
   cases l with
   | nil=>exact JI _
   | cons x r=>have:=h x Ic;omega
 | n+1,l,nd,h=>by
   by_cases q:(n:Int)∈l
   ·have:=jH n (l.erase (n:Int)) (nd.erase _) λx hx=>by
     have hm:=(nd.mem_erase_iff.mp hx);have:=h x hm.2;have:=hm.1;omega
    rw[List.length_erase_of_mem q] at this;omega
   ·have:=jH n l nd λx hx=>by
     have:=h x hx;have:x≠(n:Int):=λe=>q (e▸hx);omega
    omega
def fA (F:Hy)(k:Int):Hy:=if(bQ F k).isSome then F else F++[(k,(F.length:Int))]
def nB (p:d9)(r:Rw):Bool:=decide (p.2.1<r.1)&&decide (r.1<p.2.2)
def eM (p:d9)(F:Hy)(r:Rw):Hy:=if nB p r then fA (fA F r.1) r.2.1 else F
def gG (s:bO)(p:d9):Hy:=s.rows.foldl (eM p) (dF [(s.St.getD p.2.1.toNat 0,0)] p.2.2 1)
def yB:PV->Str
 | .tup (.str x::_)=>x
 | _=>""
def tK:PV->Int
 | .tup (_:: .int n::_)=>n
 | _=>0
def lV (s:bO)(ps:List d9):Hs:=ps.map λp=>(s.S.getD p.2.1.toNat bN).word+1
theorem jq (h:ps.length<=n):(lV s ps).length<=n:=by unfold lV;rw[HU];exact h
theorem pH {β:Type}(g:α->β)(xs:List α):nums (xs.map g)=(nums xs).map λz=>(z.1,g z.2):=by
 unfold nums;rw[List.zipIdx_map,IS,IS];rfl
variable {p:d9}
abbrev Cw:Stmt:=top oy
def rQ (C D:Addr):cB:=λK ps T=>∃(s:bO)(qs:List d9),ps=[⟨cf C D,s⟩,⟨ag bu,qs.map dA⟩]/\(∀p∈qs,0<=p.2.1/\p.2.1<(s.S.length:Int))/\T=bM K (ag ai) (· =lV s qs)
theorem DH (HC:bh K C ei)(HD:bh K D dM)(Df:Def K mg "name_words" Cw ["spots","parts"]):aH P w K mg base "name_words" 1 (aG (rQ C D) K):=by
 have Ph:Ir [("part":Str),"spots"]:=by decide
 refine bw (N:=["spots","parts"]) Df (λf NK A outer st H E qs T nd hr hS=>?_);obtain⟨s,ps,rfl,hp,rfl⟩:=hS;refine ao (aN (aO.im (cy (own:=["part"]) (fr:=["spots"]) (ix:=[0]) (ra:=bu) (rb:=ai) (p:=λ_=>true) (f:=λz=>(s.S.getD (tK z).toNat bN).word+1) (bY (so:=ak Cw) (N0:=["spots","parts"]) rfl rfl (λx h=>bC h) (by decide +kernel)) (cZ (aa 1 rfl))
  (λC s H ex=>bB 0) (λx=>⟨.inr rfl,.inl rfl,trivial⟩) (λC' s H ex c hc=>eU) (λC' s' H ex o ho _=>by
   obtain⟨p,h,rfl⟩:=Io.mp ho;exact br (oP (C:=C) HC (bc (lh (C:=C) HD (aa 1 rfl)) (EV.iP (n:=p.2.1) (c0 (aa 0 rfl) ah rfl)) (aV (xs:=s.S) (i:=p.2.1) bN (hp p h).1 (hp p h).2))) ah))) ?_)
 rw[II.mpr λ_ _=>rfl,IS];rfl
def fk (C D:Addr)(g:bO->Hs):cB:=λK ps T=>∃s:bO,ps=[⟨cf C D,s⟩]/\kx s/\T=bM K (ag ai) (· =g s)
abbrev yE:Stmt:=top nk
abbrev A1:Ht:=["spots","names"]
def sh (s:bO):List d9:=((nums s.parts).filter λz=>decide (z.2.1∈cut (s.parts.map (·.1)) none (some z.1))).map (·.2)
def ux (s:bO):Hs:=lV s (sh s)
theorem C4 (h:p∈sh s):p∈s.parts:=by
 obtain⟨z,hz,rfl⟩:=Io.mp h;obtain⟨i,hi⟩:=IU.mp (IM.mp hz).1;exact Iw (jR hi).2
theorem EE (M:cm K mg)(HD:bh K D dM)(CN:aH P w K mg base "name_words" 1 (aG (rQ C D) K))(Df:Def K mg "named_again" yE ["spots"]):aH P w K mg base "named_again" 2 (aG (fk C D ux) K):=by
 have Ph:Ir [("part":Str)]:=by decide
 have QN:Ir [("place":Str),"part","names"]:=by decide
 refine bw (N:=A1) (k:=1) Df (λf NK A outer st H E qs T nd hr hS=>?_);obtain⟨s,rfl,hG,rfl⟩:=hS;have hnm:((s.parts.map dA).filter λ_=>true).map yB=s.parts.map (·.1):=by rw[II.mpr λ_ _=>rfl,IS];rfl
 refine aj (aL 1 (y:=s.parts.map (·.1)) (EV.cast (aO.im (cy (own:=["part"]) (fr:=[]) (ix:=[]) (ra:=bu) (rb:=ae) (p:=λ_=>true) (f:=yB) (bY (so:=ak yE) (N0:=A1) rfl rfl (λx h=>bC h) (by decide +kernel)) (cZ (gB (C:=C) HD (aa 0 rfl)))
  (λC s H ex=>bB 0) (λx=>⟨.inr rfl,trivial⟩) (λC' s H ex c hc=>eU) (λC' s H ex o ho _=>by
   obtain⟨p,_,rfl⟩:=Io.mp ho;exact EV.sP (x:=p.1) (c0 (aa 0 rfl) ah rfl)))) hnm) ?_)
 change WS _ _ [.im (cf C D) s,.im (ag ae) (s.parts.map (·.1))] _ _;refine ao (aN (ax CN hr (af (aa 0 rfl) (af (x:=(sh s).map dA) (EV.cast (aO.im (cy (own:=["place","part"]) (fr:=["names"]) (ix:=[1]) (ra:=de ai bu) (rb:=bu) (p:=λz=>decide (yB z.2∈cut (s.parts.map (·.1)) none (some z.1))) (f:=λz=>z.2) (bY (so:=ak yE) (N0:=A1) rfl rfl (λx h=>bC h) (by decide +kernel)) (gH M.enumerate (gB (C:=C) HD (aa 0 rfl)))
  (λC s H ex=>fJ 0 1) (λx=>⟨.inr rfl,.inr rfl,.inl rfl,trivial⟩) (λC' s H ex z hz=>?_) (λC' s H ex z hz _=>aa 1 rfl))) ?_) av)) ⟨s,sh s,rfl,λp h=>hG.pv p (C4 h),rfl⟩) rfl)
 ·rw[pH] at hz;obtain⟨y,_,rfl⟩:=Io.mp hz;exact eo (aw my (EV.sP (x:=y.2.1) (c0 (aa 1 rfl) ah rfl)) (aO.im (dB (aa 2 rfl) d8 (d7 (aa 0 rfl)))))
 ·rw[pH,JG,IS];unfold sh;rw[IS];rfl
variable {t:bb}
abbrev Fy:Stmt:=top kM
abbrev nCA:Ht:=["spots","found","behind","step"]
def jo (ks:Ht)(t:bb):Ht:=if t.kind="part" then qN ks t.name else ks
def vZ (ks:Ht)(t:bb):Bool:=decide (t.kind="call")&& !decide (t.name∈ks)
def yd (x:Hs×Ht)(t:bb):Hs×Ht:=(if vZ (jo x.2 t) t then x.1++[t.word+1] else x.1,jo x.2 t)
def Ox (s:bO)(i:Nat):Hs×Ht:=(s.S.reverse.take i).foldl yd ([],[])
def nN (s:bO):Hs:=(Ox s s.S.length).1
theorem BH (ks:Ht)(k:Str):(qN ks k).length<=ks.length+1:=by unfold qN;split<;>simp
theorem mZ (h:s.S.reverse[i]?=some t):Ox s (i+1)=yd (Ox s i) t:=by
 unfold Ox;rw[IK,h,Jj];rfl
theorem ly (s:bO):∀i,(Ox s i).1.length<=i/\(Ox s i).2.length<=i
 | 0=>⟨JI _,JI _⟩
 | i+1=>by
   obtain⟨a,b⟩:=ly s i;cases e:s.S.reverse[i]? with
   | none=>
     have:Ox s (i+1)=Ox s i:=by unfold Ox;rw[IK,e];simp
     rw[this];omega
   | some t=>
     rw[mZ e];refine⟨?_,?_⟩
     ·show List.length (if vZ (jo (Ox s i).2 t) t=true then(Ox s i).1++[t.word+1] else(Ox s i).1)<=_;split
      ·rw[HV];simp;omega
      ·omega
     ·show(jo (Ox s i).2 t).length<=_;unfold jo;split
      ·have:=BH (Ox s i).2 t.name;omega
      ·omega
theorem D4 (M:cm K mg)(HC:bh K C ei)(HD:bh K D dM)(Df:Def K mg "called_astray" Fy ["spots"]):aH P w K mg base "called_astray" 1 (aG (fk C D nN) K):=by
 refine bw (N:=nCA) Df (λf NK A outer st H E qs T nd hr hS=>?_);obtain⟨s,rfl,hG,rfl⟩:=hS;have hu:=ru hr;have hl:=hG.l;refine aj (cD 1 (r:=ai) (ys:=[]) (aE aK (JM _)) ?_);refine aj (mP 2 ?_);refine WS.EM 2 rfl λa=>?_;refine bL (N1:=λΓ=>∃ks e3,Γ=[.im (cf C D) s,.mu ai (nN s),.ob (lN a ks),e3]) (dj (λi Γ=>∃e3,Γ=[.im (cf C D) s,.mu ai (Ox s i).1,.ob (lN a (Ox s i).2),e3]) (uK M.reversed (lh (C:=C) HD (aa 0 rfl))) (bB 3) ⟨_,rfl⟩ (λi t Γ ht hΓ=>?_) (λΓ hΓ=>?_)) ?_
 ·obtain⟨e3,rfl⟩:=hΓ;have il:i<s.S.length:=by have:=(HW.mp ht).1;rwa [IT] at this
  obtain⟨l1,l2⟩:=ly s i;rw[mZ ht];generalize Ox s i=x at l1 l2;obtain⟨fo,ks⟩:=x;dsimp only at l1 l2;change WS _ _ [.im (cf C D) s,.mu ai fo,.ob (lN a ks),.im (aW C) t] _ _;refine bL (N1:=λΓ=>Γ=[.im (cf C D) s,.mu ai fo,.ob (lN a (jo ks t)),.im (aW C) t]) (aP (aw bW (eu (C:=C) HC (aa 3 rfl)) aq) (λh=>?_) (λh=>aI ?_)) ?_
  ·have h:t.kind="part":=NF h;refine ao (zA 2 hu (lJ (C:=C) HC (aa 3 rfl)) sJ rfl (JN (show _<=1000 by omega) (by decide)) ?_);unfold jo;rw[ND h];rfl
  ·have h:¬t.kind="part":=NG h;unfold jo;rw[Nz h]
  rintro _ rfl;refine ao (aP (TW.tv (cR (aw bW (eu (C:=C) HC (aa 3 rfl)) aq) (λ_=>cI (xQ 2 hu (lJ (C:=C) HC (aa 3 rfl)) rfl)))) (λh=>?_) (λh=>aI ⟨.im (aW C) t,?_⟩))
  ·refine ao (cb 1 (br (oP (C:=C) HC (aa 3 rfl)) ah) rfl rfl (JN (show _<=1000 by omega) (by decide)) ⟨.im (aW C) t,?_⟩);unfold yd;rw[ND (show vZ (jo ks t) t=true from h)];rfl
  ·unfold yd;rw[Nz (by rw[show vZ (jo ks t) t=false from h];decide)]
 ·obtain⟨e3,rfl⟩:=hΓ;rw[IT];exact⟨_,e3,rfl⟩
 rintro _ ⟨ks,e3,rfl⟩;refine WS.freeze 1 rfl (aM (by have:=(ly s s.S.length).1;unfold nN;omega)) ?_;exact ao (aN (aa 1 rfl) rfl)
abbrev x4:Stmt:=top tF
abbrev FK:Ht:=["spots","found","waiting","number"]
theorem Bc:bq FK ["spots"] (ak x4):=OT
def dT (fd:Hs):List (Int×V):=fd.map λk=>(k,V.bl true)
theorem lA (fd:Hs)(k:Int):fR (dT fd) k=decide (k∈fd):=by
 unfold fR dT;rw[any_map];by_cases h:k∈fd
 ·rw[decide_eq_true h,Jz];exact⟨k,h,by simp⟩
 ·rw[NH h];rw[List.any_eq_false];intro x hx;have:x≠k:=λe=>h (e▸hx);simpa using this
def ky (s:bO)(x:Hs×Hs):Hs×Hs:=
 match x.2.getLast? with
 | none=>x
 | some n=>if n∈x.1 then(x.1,x.2.dropLast) else(x.1++[n],x.2.dropLast++s.Ld.getD n.toNat [])
abbrev nG (s:bO):Nat:=3*s.S.length+s.parts.length
abbrev nC (s:bO)(i:Nat):Hs×Hs:=Oh (ky s) i ([],s.parts.map (·.2.1))
def dR (s:bO):Hs:=(nC s (nG s)).1
theorem vR {α:Type}{f:α->α}{x:α}(h:f x=x):∀k,Oh f k x=x
 | 0=>rfl
 | k+1=>by rw[Oh,vR h k,h]
def C9 (C D:Addr):cB:=λK ps T=>∃s:bO,ps=[⟨cf C D,s⟩]/\kx s/\T=bM K fV (· =dT (dR s))
structure F2 (s:bO)(fd wt:Hs):Prop where
 nd:fd.Nodup
 fv:∀n∈fd,0<=n/\n<(s.S.length:Int)
 wv:∀n∈wt,0<=n/\n<(s.S.length:Int)
theorem ES (M:cm K mg)(HD:bh K D dM)(F:cY K "come_to" "come_to" x4 f fd)(hm:mg "come_to"=some (.ref f))(hb:Binds K fd ["spots"] []):aH P w K mg base "come_to" 1 (aG (C9 C D) K):=by
 have nd:=Bc.nd;have Ph:Ir [("part":Str)]:=by decide
 refine h9 F Bc hm hb (λqs T ⟨_,e,_⟩=>by rw[e];rfl) (λNK A outer st H E qs T hr hS=>?_);obtain⟨s,rfl,hG,rfl⟩:=hS;have hu:=ru hr;have hl:=hG.l;obtain⟨Rg,N4⟩:=hG.li;have N8:=hG.pl;refine aj (mP 1 ?_);have O6:((s.parts.map dA).filter λ_=>true).map tK=s.parts.map (·.2.1):=by rw[II.mpr λ_ _=>rfl,IS];rfl
 refine aj (lj 2 (own:=["part"]) (fr:=[]) (ix:=[]) (ra:=bu) (rb:=ai) (p:=λ_=>true) (f:=tK) (bY (so:=ak x4) (N0:=FK) rfl rfl (λx h=>bC h) (by decide +kernel)) (cZ (gB (C:=C) HD (aa 0 rfl)))
  (λC s H ex=>bB 0) (λx=>⟨.inr rfl,trivial⟩) (λC' s H ex c hc=>eU) (λC' s H ex o ho _=>by
   obtain⟨p,_,rfl⟩:=Io.mp ho;exact EV.iP (n:=p.2.1) (c0 (aa 0 rfl) ah rfl)) ?_)
 rw[O6];refine bL (N1:=λΓ=>∃e3,Γ=[.im (cf C D) s,.di (dT (dR s)),.mu ai [],e3]) (iM (λm Γ=>∃(i:Nat)(fd wt:Hs)(e3:Ent),Γ=[.im (cf C D) s,.di (dT fd),.mu ai wt,e3]/\nC s i=(fd,wt)/\F2 s fd wt/\3*(s.S.length-fd.length)+wt.length=m/\m+i<=nG s) (m0:=nG s) ⟨0,[],s.parts.map (·.2.1),.no,rfl,rfl,⟨List.nodup_nil,(λn h=>by cases h),(λn h=>?_)⟩,by rw[HU];rfl,JI _⟩ (λm Γ hI=>?_)) ?_
 ·obtain⟨p,hp,rfl⟩:=Io.mp h;exact hG.pv p hp
 ·obtain⟨i,fd,wt,e3,rfl,hit,hC,hmm,hm1⟩:=hI;have fl:=jH s.S.length fd hC.nd hC.fv;have hcN:nG s=3*s.S.length+s.parts.length:=rfl;have Oj:nC s (i+1)=ky s (fd,wt):=by show ky s (nC s i)=_;rw[hit]
  refine⟨!wt.isEmpty,_,mq 2 rfl,λh=>?_,λh=>?_⟩
  ·have N2:wt≠[]:=λz=>by rw[z] at h;cases h
   obtain⟨wi,n,rfl⟩:∃l x,wt=l++[x]:=⟨wt.dropLast,wt.getLast N2,(Iq N2).symm⟩;have hc:ky s (fd,wi++[n])=if n∈fd then(fd,wi) else(fd++[n],wi++s.Ld.getD n.toNat []):=by
    unfold ky;simp
   rw[hc] at Oj;rw[HV,IB] at hmm;obtain⟨n0,n1⟩:=hC.wv n (Ie _ (HX.mpr rfl));refine aj (aL 3 (y:=n) (lU 2 rfl (by simp)) ?_);rw[show(wi++[n]).dropLast=wi by simp];refine ao (aP (za 1 true hu (aa 3 rfl) rfl) (λh=>?_) (λh=>aI ?_))
   ·have Po:n∉fd:=by rw[ND rfl,lA] at h;simpa using h
    rw[Nz Po] at Oj;have Ow:cC s.Ld n=some (s.Ld.getD n.toNat []):=aV (xs:=s.Ld) (i:=n) [] n0 (by omega);have Qn:s.Ld.getD n.toNat []∈s.Ld:=getD_in (by omega);have h2:=hG.l2 _ Qn;have QX:=N4 _ Qn;have SD:∀x∈fd++[n],0<=x/\x<(s.S.length:Int):=λx hx=>by
     rcases Ij.mp hx with z | z
     ·exact hC.fv x z
     ·rw[HX.mp z];exact⟨n0,n1⟩
    have fl2:=jH s.S.length (fd++[n]) (iA hC.nd Po) SD;rw[HV,IB] at fl2;refine aj (uw 1 hu (aa 3 rfl) sJ rfl (by rw[lA];exact NH Po) (by unfold dT;rw[HU];exact JN (show _<=1000 by omega) (by decide)) ?_);have e:dT fd++[(n,V.bl true)]=dT (fd++[n]):=by unfold dT;rw[IC];rfl
    rw[e];refine ao (vV 2 (bc (Fb (C:=C) HD (aa 0 rfl)) (aa 3 rfl) Ow) rfl rfl (aM (by omega)) ⟨3*(s.S.length-(fd++[n]).length)+(wi++s.Ld.getD n.toNat []).length,by rw[HV,HV,IB];omega,i+1,fd++[n],wi++s.Ld.getD n.toNat [],aR n,rfl,Oj,⟨iA hC.nd Po,SD,λx hx=>?_⟩,rfl,by rw[HV,HV,IB];omega⟩);rcases Ij.mp hx with z | z
    ·exact hC.wv x (Ik _ z)
    ·exact QX x z
   ·have Po:n∈fd:=by rw[ND rfl,lA] at h;simpa using h
    rw[ND Po] at Oj;exact⟨3*(s.S.length-fd.length)+wi.length,by omega,i+1,fd,wi,aR n,rfl,Oj,⟨hC.nd,hC.fv,λx hx=>hC.wv x (Ik _ hx)⟩,rfl,by omega⟩
  ·have hwt:wt=[]:=by cases wt with
    | nil=>rfl
    | cons _ _=>cases h
   subst hwt;refine⟨e3,?_⟩;have:dR s=fd:=by
    unfold dR nC;rw[show nG s=i+(nG s-i) by omega,rB,show Oh (ky s) i ([],s.parts.map (·.2.1))=(fd,[]) from hit,vR rfl]
   rw[this]
 rintro _ ⟨e3,rfl⟩;exact ao (Cv 1 rfl rfl)
abbrev ye:Stmt:=top mI
abbrev BW:Ht:=["spots","known","lost"]
def xW (s:bO):List bb:=((nums s.S).filter λz=> !fR (dT (dR s)) z.1).map λz=>z.2
def rF (s:bO):Hs:=((xW s).filter λt=>decide (t.kind∈Oi)).map λt=>t.word
theorem rM (s:bO):(xW s).length<=s.S.length:=by
 unfold xW;rw[HU];exact JJ (IA _ _) (by rw[cK];exact JI _)
theorem Dx (M:cm K mg)(M2:fU K mg)(HC:bh K C ei)(HD:bh K D dM)(CT:aH P w K mg base "come_to" 1 (aG (C9 C D) K))(Df:Def K mg "not_come_to" ye ["spots"]):aH P w K mg base "not_come_to" 2 (aG (fk C D rF) K):=by
 have Ph:Ir [("number":Str),"step","known"]:=by decide
 have QN:Ir [("step":Str)]:=by decide
 refine bw (N:=BW) (k:=1) Df (λf NK A outer st H E qs T nd hr hS=>?_);obtain⟨s,rfl,hG,rfl⟩:=hS;have hu:=ru hr;have hl:=hG.l;refine aj (aL 1 (y:=dT (dR s)) (ax CT hr (af (aa 0 rfl) av) ⟨s,rfl,hG,rfl⟩) ?_);change WS _ _ [.im (cf C D) s,.im fV (dT (dR s)),.no] _ _;refine aj (lj 2 (own:=["number","step"]) (fr:=["known"]) (ix:=[1]) (ra:=de ai (aW C)) (rb:=aW C) (p:=λz=> !fR (dT (dR s)) z.1) (f:=λz=>z.2) (bY (so:=ak ye) (N0:=BW) rfl rfl (λx h=>bC h) (by decide +kernel)) (gH M.enumerate (lh (C:=C) HD (aa 0 rfl)))
  (λC s H ex=>fJ 0 1) (λx=>⟨.inr rfl,.inr rfl,.inl rfl,trivial⟩) (λC' s H ex z hz=>eo (su hu (aa 0 rfl) (aa 2 rfl))) (λC' s H ex z hz _=>aa 1 rfl) ?_)
 have lz:=rM s;unfold xW at lz;refine WS.freeze 2 rfl (aM (by omega)) ?_;exact ao (aN (aO.im (cy (own:=["step"]) (fr:=[]) (ix:=[]) (ra:=aW C) (rb:=ai) (p:=λt=>decide (t.kind∈Oi)) (f:=λt=>t.word) (bY (so:=ak ye) (N0:=BW) rfl rfl (λx h=>bC h) (by decide +kernel)) (cZ (aa 2 rfl))
  (λC s H ex=>bB 0) (λx=>⟨.inr rfl,trivial⟩) (λC' s H ex t ht=>eo (aw gA (eu (C:=C) HC (aa 0 rfl)) (dP M2.Oi))) (λC' s H ex t ht _=>oP (C:=C) HC (aa 0 rfl)))) rfl)
abbrev yc:Stmt:=top oB
abbrev Bt:Ht:=["spots","called"]
def xT (s:bO):Ht:=(s.S.filter λt=>decide (t.kind=("call":Str))).map (λt=>t.name)
def Dc (s:bO):List d9:=(s.parts.drop 1).filter λp=> !decide (p.1∈xT s)
def uT (s:bO):Hs:=lV s (Dc s)
theorem xm {β:Type}{g:α->β}:cut (xs.map g) (some (n:Int)) none=(xs.drop n).map g:=by rw[Dd,List.map_drop]
theorem DD (M:cm K mg)(HC:bh K C ei)(HD:bh K D dM)(CN:aH P w K mg base "name_words" 1 (aG (rQ C D) K))(Df:Def K mg "not_called" yc ["spots"]):aH P w K mg base "not_called" 2 (aG (fk C D uT) K):=by
 have Ph:Ir [("step":Str)]:=by decide
 have QN:Ir [("part":Str),"called"]:=by decide
 refine bw (N:=Bt) (k:=1) Df (λf NK A outer st H E qs T nd hr hS=>?_);obtain⟨s,rfl,hG,rfl⟩:=hS;refine aj (aL 1 (y:=xT s) (aO.im (cy (own:=["step"]) (fr:=[]) (ix:=[]) (ra:=aW C) (rb:=ae) (p:=λt=>decide (t.kind="call")) (f:=λt=>t.name) (bY (so:=ak yc) (N0:=Bt) rfl rfl (λx h=>bC h) (by decide +kernel)) (cZ (lh (C:=C) HD (aa 0 rfl)))
  (λC s H ex=>bB 0) (λx=>⟨.inr rfl,trivial⟩) (λC' s H ex t ht=>eo (aw bW (eu (C:=C) HC (aa 0 rfl)) aq)) (λC' s H ex t ht _=>lJ (C:=C) HC (aa 0 rfl)))) ?_)
 change WS _ _ [.im (cf C D) s,.im (ag ae) (xT s)] _ _;have e1:cut (s.parts.map dA) (some 1) none=(s.parts.drop 1).map dA:=xm (n:=1);refine ao (aN (ax CN hr (af (aa 0 rfl) (af (x:=(Dc s).map dA) (EV.cast (aO.im (cy (own:=["part"]) (fr:=["called"]) (ix:=[1]) (ra:=bu) (rb:=bu) (xs:=cut (s.parts.map dA) (some 1) none) (p:=λz=> !decide (yB z∈xT s)) (f:=λz=>z) (bY (so:=ak yc) (N0:=Bt) rfl rfl (λx h=>bC h) (by decide +kernel)) (cZ (aO.im (dB (gB (C:=C) HD (aa 0 rfl)) (d7 ah) d8)))
  (λC s H ex=>bB 0) (λx=>⟨.inr rfl,.inl rfl,trivial⟩) (λC' s H ex z hz=>?_) (λC' s H ex z hz _=>aa 0 rfl))) ?_) av)) ⟨s,Dc s,rfl,λp h=>hG.pv p (Ji (IM.mp h).1),rfl⟩) rfl)
 ·rw[e1] at hz;obtain⟨p,_,rfl⟩:=Io.mp hz;exact eo (aw jI (EV.sP (x:=p.1) (c0 (aa 0 rfl) ah rfl)) (aa 1 rfl))
 ·rw[e1,JG,IS];rfl
structure jd (mg:Hq):Prop where
 beg:∃t,mg "BEGIN"=some (.int 0 t)
 end_:∃t,mg "END"=some (.int 1 t)
 parts:∃t,mg "MOST_PARTS"=some (.int 4 t)
 places:∃t,mg "MOST_PLACES"=some (.int 16 t)
 rows:∃t,mg "MOST_PROGRAM_ROWS"=some (.int 30 t)
theorem p9 (i j:Nat){z:Str}{p1 p2 ap:Pos}{k y:Int}(hD:bh X.K D dM)(hΓ:Γ[i]?=some (.im (cf C D) s))(hj:Γ[j]?=some (aR k))(hk:cC s.St k=some y)(hN:X.N[i]?=some x:=by rfl)(hv:autoParam (dc X.env.scope x) OA)(hd:N3 x:=by decide)(NV:Ov x:=by decide)(hN':X.N[j]?=some z:=by rfl)(PH:autoParam (dc X.env.scope z) OA)(Q2:(z==("__debug__":Str))=false:=by decide)(hcd':(z==("__classdict__":Str))=false:=by decide)(hb:Kk (.Name x p1) "stands" X.env (eval (.Name x p1) X.env)=eval (.Name x p1) X.env:=by rfl)(hsx:fE (.Name z p2):=by exact λ_ _=>rfl):lT X (.Subscript (.Attribute (.Name x p1) "stands" ap) (.Name z p2) pos) Γ y:=λσ H0 R0 H R E H' Q sR q=>by
 obtain⟨v,ea,xx,dx,vs,rfl,h1,h2⟩:=E.ent i _ hΓ;obtain⟨u,q1,q2⟩:=h2.get (f:="stands") rfl;obtain⟨b,ws,rfl,OM,pp,hz⟩:=(show(ag ai).R X.K R u s.St from q2);obtain⟨v0,e0,hv0⟩:=E.ent j _ hj;cases hv0
 obtain⟨w,e3,e4⟩:=gz pp hk;cases e4
 exact eS (j4 j6 (qA (bD hN hv hd NV) hb) (bD hN' PH Q2 hcd') hsx) ⟨.ref xx,at_of ea,xx,D,dx,vs,.ref b,rfl,sR _ _ h1,hD.cl,hD.no _ (cE (by decide)),q1,.int k,at_of e0,b,ws,k,.int y,rfl,rfl,bp.of (sR _ _ OM),e3,q⟩
abbrev Aw:Stmt:=top kg
def G3:PV->Int
 | .tup (_::_:: .int n::_)=>n
 | _=>0
def A7 (s:bO):List d9:=s.parts.filter λp=>decide (s.St.getD p.2.1.toNat 0=p.2.2)
def yy (s:bO):Hs:=lV s (A7 s)
theorem DW (HD:bh K D dM)(CN:aH P w K mg base "name_words" 1 (aG (rQ C D) K))(Df:Def K mg "ended_at_begin" Aw ["spots"]):aH P w K mg base "ended_at_begin" 2 (aG (fk C D yy) K):=by
 have Ph:Ir [("part":Str),"spots"]:=by decide
 refine bw (N:=["spots"]) (k:=1) Df (λf NK A outer st H E qs T nd hr hS=>?_);obtain⟨s,rfl,hG,rfl⟩:=hS;refine ao (aN (ax CN hr (af (aa 0 rfl) (af (x:=(A7 s).map dA) (EV.cast (aO.im (cy (own:=["part"]) (fr:=["spots"]) (ix:=[0]) (ra:=bu) (rb:=bu) (p:=λz=>decide (s.St.getD (tK z).toNat 0=G3 z)) (f:=λz=>z) (bY (so:=ak Aw) (N0:=["spots"]) rfl rfl (λx h=>bC h) (by decide +kernel)) (cZ (gB (C:=C) HD (aa 0 rfl)))
  (λC s H ex=>bB 0) (λx=>⟨.inr rfl,.inl rfl,trivial⟩) (λC' s' H ex z hz=>?_) (λC' s H ex z hz _=>aa 0 rfl))) ?_) av)) ⟨s,A7 s,rfl,λp h=>hG.pv p (IM.mp h).1,rfl⟩) rfl)
 ·obtain⟨p,hp,rfl⟩:=Io.mp hz;obtain⟨p0,p1⟩:=hG.pv p hp;exact eo (aw da (bc (EK (C:=C) HD (aa 1 rfl)) (EV.iP (n:=p.2.1) (c0 (aa 0 rfl) ah rfl)) (aV (xs:=s.St) (i:=p.2.1) 0 p0 (by rw[hG.sl];exact p1))) (EV.iP (n:=p.2.2) (c0 (aa 0 rfl) ah rfl)))
 ·rw[JG,IS];rfl
def qf:PV->Int
 | .tup (.int n::_)=>n
 | _=>0
abbrev BK:Stmt:=top nh
def uQ (s:bO):Hs:=(s.rows.drop 30).map λr=>(s.S.getD r.1.toNat bN).word
theorem Ej (M3:jd mg)(HC:bh K C ei)(HD:bh K D dM)(Df:Def K mg "rows_beyond" BK ["spots"]):aH P w K mg base "rows_beyond" 1 (aG (fk C D uQ) K):=by
 have Ph:Ir [("row":Str),"spots"]:=by decide
 refine bw (N:=["spots"]) Df (λf NK A outer st H E qs T nd hr hS=>?_);obtain⟨s,rfl,hG,rfl⟩:=hS;obtain⟨t,ht⟩:=M3.rows;have hc:cut (s.rows.map f6) (some 30) none=(s.rows.drop 30).map f6:=xm (n:=30);refine ao (aN (aO.im (cy (own:=["row"]) (fr:=["spots"]) (ix:=[0]) (ra:=bu) (rb:=ai) (xs:=(s.rows.drop 30).map f6) (p:=λ_=>true) (f:=λz=>(s.S.getD (qf z).toNat bN).word) (bY (so:=ak BK) (N0:=["spots"]) rfl rfl (λx h=>bC h) (by decide +kernel)) (cZ (EV.cast (aO.im (dB (sT (C:=C) HD (aa 0 rfl)) (d7 (iJ ht)) d8)) hc))
  (λC s H ex=>bB 0) (λx=>⟨.inr rfl,.inl rfl,trivial⟩) (λC' s H ex c hc=>eU) (λC' s' H ex o ho _=>by
   obtain⟨r,OK,rfl⟩:=Io.mp ho;obtain⟨r0,r1⟩:=hG.rk r (Ji OK);exact oP (C:=C) HC (bc (lh (C:=C) HD (aa 1 rfl)) (EV.iP (n:=r.1) (c0 (aa 0 rfl) ah rfl)) (aV (xs:=s.S) (i:=r.1) bN r0 r1))))) ?_)
 rw[II.mpr λ_ _=>rfl,IS];rfl
abbrev Fo:Stmt:=top lC
def yi (s:bO):Hs:=lV s (s.parts.drop 4)
theorem DG (M3:jd mg)(HD:bh K D dM)(CN:aH P w K mg base "name_words" 1 (aG (rQ C D) K))(Df:Def K mg "parts_beyond" Fo ["spots"]):aH P w K mg base "parts_beyond" 2 (aG (fk C D yi) K):=by
 refine bw (N:=["spots"]) (k:=1) Df (λf NK A outer st H E qs T nd hr hS=>?_);obtain⟨s,rfl,hG,rfl⟩:=hS;obtain⟨t,ht⟩:=M3.parts;have hc:cut (s.parts.map dA) (some 4) none=(s.parts.drop 4).map dA:=xm (n:=4);exact ao (aN (ax CN hr (af (aa 0 rfl) (af (x:=(s.parts.drop 4).map dA) (EV.cast (aO.im (dB (gB (C:=C) HD (aa 0 rfl)) (d7 (iJ ht)) d8)) hc) av)) ⟨s,_,rfl,λp h=>hG.pv p (Ji h),rfl⟩) rfl)
abbrev BP:Stmt:=top qt
abbrev Gp:Ht:=["spots","part","first","last","told","row","step"]
def BV (C D:Addr):cB:=λK ps T=>∃(s:bO)(i:Nat)(p:d9),ps=[⟨cf C D,s⟩,⟨ai,(i:Int)⟩]/\kx s/\s.parts[i]?=some p/\T=bM K nU (· =gG s p)
theorem jW (F:Hy)(k:Int):(fA F k).length<=F.length+1:=by
 unfold fA;split
 ·omega
 ·rw[HV];simp
theorem zz (p:d9)(F:Hy)(r:Rw):(eM p F r).length<=F.length+2:=by
 unfold eM;split
 ·exact JJ (jW _ _) (by have:=jW F r.1;omega)
 ·omega
theorem AB (p:d9)(F:Hy)(rs:List Rw):(rs.foldl (eM p) F).length<=F.length+2*rs.length:=by
 induction rs generalizing F with
 | nil=>exact JI _
 | cons r rs ih=>
   rw[Jw,Iy];have:=ih (eM p F r);have:=zz p F r;omega
theorem AU (M:cm K mg)(M3:jd mg)(HD:bh K D dM)(Df:Def K mg "places_in" BP ["spots","part"]):aH P w K mg base "places_in" 1 (aG (BV C D) K):=by
 refine bw (N:=Gp) Df (λf NK A outer st H E qs T nd hr hS=>?_);obtain⟨s,i,p,rfl,hG,hp,rfl⟩:=hS;obtain⟨t1,hbg⟩:=M3.beg;obtain⟨t2,Sj⟩:=M3.end_;have pm:=Iw hp;have il:=(HW.mp hp).1;obtain⟨p0,p1⟩:=hG.pv p pm;have hrl:=hG.rl;have Ow:cC (s.parts.map dA) (i:Int)=some (dA p):=by
  rw[lR (by omega) (by rw[HU];omega),show((i:Nat):Int).toNat=i by omega,Ii,hp];rfl
 refine aj (aL 2 (y:=p.2.1) (EV.iP (c0 (xs:=[.str p.1,.int p.2.1,.int p.2.2]) (bc (gB (C:=C) HD (aa 0 rfl)) (aa 1 rfl) Ow) ah rfl)) ?_);refine aj (aL 3 (y:=p.2.2) (EV.iP (c0 (xs:=[.str p.1,.int p.2.1,.int p.2.2]) (bc (gB (C:=C) HD (aa 0 rfl)) (aa 1 rfl) Ow) ah rfl)) ?_);refine aj (yW 4 (v:=0) (u:=1) (p9 (C:=C) 0 2 HD rfl rfl (aV (xs:=s.St) (i:=p.2.1) 0 p0 (by rw[hG.sl];exact p1))) (rm 3 rfl) (fQ rfl hbg ⟨t1,rfl⟩) (fQ rfl Sj ⟨t2,rfl⟩) ?_);have f0l:(dF [(s.St.getD p.2.1.toNat 0,(0:Int))] p.2.2 1).length<=2:=qv _ _ _;generalize hF0:dF [(s.St.getD p.2.1.toNat 0,(0:Int))] p.2.2 1=F0 at f0l;have N8:gG s p=s.rows.foldl (eM p) F0:=by unfold gG;rw[hF0]
 rw[N8];refine bL (N1:=λΓ=>∃e5 e6,Γ=[.im (cf C D) s,aR (i:Int),aR p.2.1,aR p.2.2,.di (cw (s.rows.foldl (eM p) F0)),e5,e6]) (dj (λj Γ=>∃e5 e6,Γ=[.im (cf C D) s,aR (i:Int),aR p.2.1,aR p.2.2,.di (cw ((s.rows.take j).foldl (eM p) F0)),e5,e6]) (cZ (sT (C:=C) HD (aa 0 rfl))) (bB 5) ⟨_,_,rfl⟩ (λj z Γ hz hΓ=>?_) (λΓ hΓ=>?_)) ?_
 ·obtain⟨e5,e6,rfl⟩:=hΓ;rw[Ii] at hz;obtain⟨r,OK,rfl⟩:=JZ.mp hz;have jl:=(HW.mp OK).1;have fl:=AB p F0 (s.rows.take j);have tl:(s.rows.take j).length<=2000:=by rw[Im];omega
  have Qm:(s.rows.take (j+1)).foldl (eM p) F0=eM p ((s.rows.take j).foldl (eM p) F0) r:=by rw[IK,OK,Jj];rfl
  rw[Qm];generalize (s.rows.take j).foldl (eM p) F0=Fj at fl;have fj:Fj.length<=4002:=by omega
  change WS _ _ [.im (cf C D) s,aR (i:Int),aR p.2.1,aR p.2.2,.di (cw Fj),.im bu (f6 r),e6] _ _;refine ao (aP (xg fM fM (aa 2 rfl) (EV.iP (n:=r.1) (c0 (aa 5 rfl) ah rfl)) (aa 3 rfl)) (λh=>?_) (λh=>aI ⟨.im bu (f6 r),e6,?_⟩))
  ·have N4:nB p r=true:=h;have hcut:cut [PV.int r.1,.int r.2.1,.str r.2.2.1,.str r.2.2.2] none (some 2)=[.int r.1,.int r.2.1]:=rfl;have g:eM p Fj r=fA (fA Fj r.1) r.2.1:=ND N4;rw[g];have l1:=jW Fj r.1;refine ao (dj (r:=bu) (xs:=[.int r.1,.int r.2.1]) (λq Γ=>∃e6,Γ=[.im (cf C D) s,aR (i:Int),aR p.2.1,aR p.2.2,.di (cw (([r.1,r.2.1].take q).foldl fA Fj)),.im bu (f6 r),e6]) (zG (by show 2<=Ke;decide) (EV.cast (B7 (aa 5 rfl) d8 (d7 ah)) (congrArg PV.tup hcut))) (bB 6) ⟨_,rfl⟩ (λq y Γ hy hΓ=>?_) (λΓ hΓ=>?_))
   ·obtain⟨e6,rfl⟩:=hΓ;obtain⟨n,hn,rfl⟩:∃n,[r.1,r.2.1][q]?=some n/\PV.int n=y:=by
     have:([r.1,r.2.1].map PV.int)[q]?=some y:=hy;rw[Ii] at this;exact JZ.mp this
    have hnq:([r.1,r.2.1].take (q+1)).foldl fA Fj=fA (([r.1,r.2.1].take q).foldl fA Fj) n:=by rw[IK,hn,Jj];rfl
    rw[hnq];have hql:(([r.1,r.2.1].take q).foldl fA Fj).length<=4004:=by
     have key:∀(ks:Hs)(G:Hy),(ks.foldl fA G).length<=G.length+ks.length:=by
      intro ks
      induction ks with
      | nil=>intro G;exact JI _
      | cons k ks ih=>intro G;rw[Jw,Iy];have:=ih (fA G k);have:=jW G k;omega
     have:=key ([r.1,r.2.1].take q) Fj;have:([r.1,r.2.1].take q).length<=2:=by rw[Im];exact JW _ _
     omega
    generalize ([r.1,r.2.1].take q).foldl fA Fj=G at hql;change WS _ _ [.im (cf C D) s,aR (i:Int),aR p.2.1,aR p.2.2,.di (cw G),.im bu (f6 r),.im bu (.int n)] _ _;refine ao (Dm 4 (k:=n) (EV.iP (aa 6 rfl)) (xt 4 M.len rfl) rfl (JN hql (by decide)) ⟨.im bu (.int n),?_⟩);unfold fA;rfl
   ·obtain⟨e6,rfl⟩:=hΓ;exact⟨.im bu (f6 r),e6,rfl⟩
  ·have N4:¬nB p r=true:=by
    rw[show nB p r=false from h];decide
   rw[show eM p Fj r=Fj from Nz N4]
 ·obtain⟨e5,e6,rfl⟩:=hΓ;refine⟨e5,e6,?_⟩;rw[HU,Je]
 rintro _ ⟨e5,e6,rfl⟩;exact ao (rV 4 rfl rfl)
variable {CT CP:Addr}
abbrev yh:Stmt:=top kL
abbrev Cj:Ht:=["spots","known","lost","found","number","part","whole"]
def kD (s:bO):Hs:=(s.rows.filter λr=> !fR (dT (dR s)) r.1).map (·.1)
def px (s:bO)(p:d9):Bool:= !((kD s).any λn=>decide (p.2.1<n)&&decide (n<p.2.2))
def jj (s:bO)(p:d9):Bool:=px s p&&decide ((16:Int)<((gG s p).length:Int))
def vA (s:bO):Hs:=lV s (s.parts.filter (jj s))
theorem DN (M:cm K mg)(M3:jd mg)(HD:bh K D dM)(CN:aH P w K mg base "name_words" 1 (aG (rQ C D) K))(CT:aH P w K mg base "come_to" 1 (aG (C9 C D) K))(CP:aH P w K mg base "places_in" 1 (aG (BV C D) K))(Df:Def K mg "places_beyond" yh ["spots"]):aH P w K mg base "places_beyond" 2 (aG (fk C D vA) K):=by
 have Ph:Ir [("row":Str),"known"]:=by decide
 have QN:Ir [("row":Str),"part"]:=by decide
 refine bw (N:=Cj) (k:=1) Df (λf NK A outer st H E qs T nd hr hS=>?_);obtain⟨s,rfl,hG,rfl⟩:=hS;obtain⟨t,hmp⟩:=M3.places;have hu:=ru hr;have N8:=hG.pl;have hrl:=hG.rl;refine aj (aL 1 (y:=dT (dR s)) (ax CT hr (af (aa 0 rfl) av) ⟨s,rfl,hG,rfl⟩) ?_);change WS _ _ [.im (cf C D) s,.im fV (dT (dR s)),.no,.no,.no,.no,.no] _ _;have R9:(((s.rows.map f6).filter λz=> !fR (dT (dR s)) (qf z)).map qf)=kD s:=by
  rw[JG,IS];rfl
 refine aj (lj 2 (own:=["row"]) (fr:=["known"]) (ix:=[1]) (ra:=bu) (rb:=ai) (p:=λz=> !fR (dT (dR s)) (qf z)) (f:=qf) (bY (so:=ak yh) (N0:=Cj) rfl rfl (λx h=>bC h) (by decide +kernel)) (cZ (sT (C:=C) HD (aa 0 rfl)))
  (λC s H ex=>bB 0) (λx=>⟨.inr rfl,.inl rfl,trivial⟩) (λC' s H ex z hz=>by
   obtain⟨r,_,rfl⟩:=Io.mp hz;exact eo (su hu (EV.iP (n:=r.1) (c0 (aa 0 rfl) ah rfl)) (aa 1 rfl))) (λC' s H ex z hz _=>by
   obtain⟨r,_,rfl⟩:=Io.mp hz;exact EV.iP (n:=r.1) (c0 (aa 0 rfl) ah rfl)) ?_)
 rw[R9];have ll:(kD s).length<=2000:=by
  unfold kD;rw[HU];exact JJ (IA _ _) hrl
 refine WS.freeze 2 rfl (aM (by omega)) ?_;refine aj (cD 3 (r:=bu) (ys:=[]) (aE aK (JM _)) ?_);refine bL (N1:=λΓ=>∃e4 e5 e6,Γ=[.im (cf C D) s,.im fV (dT (dR s)),kj (kD s),.mu bu ((s.parts.filter (jj s)).map dA),e4,e5,e6]) (dj (λi Γ=>∃e4 e5 e6,Γ=[.im (cf C D) s,.im fV (dT (dR s)),kj (kD s),.mu bu (((s.parts.take i).filter (jj s)).map dA),e4,e5,e6]) (gH M.enumerate (gB (C:=C) HD (aa 0 rfl))) (fJ 4 5) ⟨_,_,_,rfl⟩ (λi z Γ hz hΓ=>?_) (λΓ hΓ=>?_)) ?_
 ·obtain⟨e4,e5,e6,rfl⟩:=hΓ;obtain⟨e1,e2⟩:=jR hz;rw[Ii] at e2;obtain⟨p,hp,ep⟩:=JZ.mp e2;obtain⟨zn,zp⟩:=z;dsimp only at e1 ep;subst ep;subst e1;have il:=(HW.mp hp).1;have Qm:(s.parts.take (i+1)).filter (jj s)=(s.parts.take i).filter (jj s)++(if jj s p then[p] else[]):=by
   rw[IK,hp,Js];congr 1;by_cases h:jj s p=true
   ·rw[ND h];exact List.filter_cons_of_pos h
   ·rw[Nz h];exact List.filter_cons_of_neg h
  have Ri:((s.parts.take i).filter (jj s)).length<=1000:=JJ (IA _ _) (by rw[Im];omega);rw[Qm];generalize (s.parts.take i).filter (jj s)=fo at Ri;change WS _ _ [.im (cf C D) s,.im fV (dT (dR s)),kj (kD s),.mu bu (fo.map dA),aR (i:Int),.im bu (dA p),e6] _ _;refine aj (aL 6 (y:=px s p) (EV.cast (uW (Ap M.any (aO.im (cy (own:=["row"]) (fr:=["part"]) (ix:=[5]) (ra:=ai) (rb:=aY) (p:=λ_=>true) (f:=λn=>decide (p.2.1<n)&&decide (n<p.2.2)) (bY (so:=ak yh) (N0:=Cj) rfl rfl (λx h=>bC h) (by decide +kernel)) (cZ (aa 2 rfl))
   (λC s H ex=>bB 0) (λx=>⟨.inr rfl,.inl rfl,trivial⟩) (λC' s H ex c hc=>eU) (λC' s H ex o ho _=>kR fM fM (EV.iP (n:=p.2.1) (c0 (aa 1 rfl) ah rfl)) (aa 0 rfl) (EV.iP (n:=p.2.2) (c0 (aa 1 rfl) ah rfl))))))) ?_) ?_)
  ·unfold px;rw[II.mpr λ_ _=>rfl,any_map];rfl
  change WS _ _ [.im (cf C D) s,.im fV (dT (dR s)),kj (kD s),.mu bu (fo.map dA),aR (i:Int),.im bu (dA p),.im aY (px s p)] _ _;refine ao (aP (TW.tv (cR (cV (aa 6 rfl)) (λ_=>cI (aw kW (xG M.len (ax CP hr (af (aa 0 rfl) (af (aa 4 rfl) av)) ⟨s,i,p,rfl,hG,hp,rfl⟩)) (iJ hmp))))) (λh=>?_) (λh=>aI ⟨aR (i:Int),.im bu (dA p),.im aY (px s p),?_⟩))
  ·refine ao (cb 3 (aa 5 rfl) rfl rfl (JN (show _<=1000 by rw[HU];exact Ri) (by decide)) ⟨aR (i:Int),.im bu (dA p),.im aY (px s p),?_⟩);rw[ND (show jj s p=true from h),IC];rfl
  ·rw[Nz (by rw[show jj s p=false from h];decide),Ip]
 ·obtain⟨e4,e5,e6,rfl⟩:=hΓ;rw[cK,HU,Je];exact⟨e4,e5,e6,rfl⟩
 rintro _ ⟨e4,e5,e6,rfl⟩;refine WS.freeze 3 rfl (aM (by rw[HU];exact JJ (IA _ _) (by omega))) ?_;exact ao (aN (ax CN hr (af (aa 0 rfl) (af (aa 3 rfl) av)) ⟨s,_,rfl,λp h=>hG.pv p (IM.mp h).1,rfl⟩) rfl)
abbrev FW:Stmt:=top oF
abbrev nHI:Ht:=["spots","found"]
def fz (s:bO):Hs:=(ux s++nN s++rF s++uT s)++yy s++uQ s++vA s++yi s
theorem iF {p:α->Bool}(h:xs.length<=n):(xs.filter p).length<=n:=JJ (IA _ _) h
theorem Bx (h:kx s):((ux s).length<=2000/\(nN s).length<=2000/\(rF s).length<=2000/\(uT s).length<=2000)/\(yy s).length<=2000/\(uQ s).length<=2000/\(vA s).length<=2000/\(yi s).length<=2000:=by
 have hl:=h.l;have hp:=h.pl;have hr:=h.rl;refine⟨⟨jq ?_,?_,?_,jq (iF (by rw[IY];omega))⟩,jq (iF (by omega)),?_,jq (iF (by omega)),jq (by rw[IY];omega)⟩
 ·unfold sh;rw[HU];exact iF (by rw[cK];omega)
 ·have:=(ly s s.S.length).1;unfold nN;omega
 ·unfold rF;rw[HU];exact iF (by have:=rM s;omega)
 ·unfold uQ;rw[HU,IY];omega
theorem DL (NA:aH P w K mg base "named_again" 2 (aG (fk C D ux) K))(CA:aH P w K mg base "called_astray" 1 (aG (fk C D nN) K))(NC:aH P w K mg base "not_come_to" 2 (aG (fk C D rF) K))(NL:aH P w K mg base "not_called" 2 (aG (fk C D uT) K))(EB:aH P w K mg base "ended_at_begin" 2 (aG (fk C D yy) K))(RB:aH P w K mg base "rows_beyond" 1 (aG (fk C D uQ) K))(PY:aH P w K mg base "places_beyond" 2 (aG (fk C D vA) K))(PB:aH P w K mg base "parts_beyond" 2 (aG (fk C D yi) K))(Df:Def K mg "hindrances" FW ["spots"]):aH P w K mg base "hindrances" 3 (aG (fk C D fz) K):=by
 have CA:=CA.mono (show 1<=2 by decide);have RB:=RB.mono (show 1<=2 by decide);refine bw (N:=nHI) (k:=2) Df (λf NK A outer st H E qs T nd hr hS=>?_);obtain⟨s,rfl,hG,rfl⟩:=hS;obtain⟨⟨l1,l2,l3,l4⟩,l5,l6,l7,l8⟩:=Bx hG;refine aj (aL 1 (y:=ux s++nN s++rF s++uT s) (aO.im (bF (aO.im (bF (aO.im (bF (ax NA hr (af (aa 0 rfl) av) ⟨s,rfl,hG,rfl⟩) (ax CA hr (af (aa 0 rfl) av) ⟨s,rfl,hG,rfl⟩) (aM (by omega)))) (ax NC hr (af (aa 0 rfl) av) ⟨s,rfl,hG,rfl⟩) (aM (by simp;omega)))) (ax NL hr (af (aa 0 rfl) av) ⟨s,rfl,hG,rfl⟩) (aM (by simp;omega)))) ?_);exact ao (aN (aO.im (bF (aO.im (bF (aO.im (bF (aO.im (bF (aa 1 rfl) (ax EB hr (af (aa 0 rfl) av) ⟨s,rfl,hG,rfl⟩) (aM (by simp;omega)))) (ax RB hr (af (aa 0 rfl) av) ⟨s,rfl,hG,rfl⟩) (aM (by simp;omega)))) (ax PY hr (af (aa 0 rfl) av) ⟨s,rfl,hG,rfl⟩) (aM (by simp;omega)))) (ax PB hr (af (aa 0 rfl) av) ⟨s,rfl,hG,rfl⟩) (aM (by simp;omega)))) rfl)
abbrev yk:Stmt:=top lP
abbrev nNP:Ht:=["text","spots","found"]
theorem t9:bq nNP ["text"] (ak yk):=OT
def Txt2 (x:Str)(s:bO):Prop:=∃(S:List bb)(Ld:List Hs),tZ x S/\jL S Ld/\s=cT S Ld/\kx s
def F4 (C D:Addr):cB:=λK ps T=>∃(x:Str)(s:bO),ps=[⟨ae,x⟩]/\Txt2 x s/\fz s=[]/\T=bM K (cf C D) (· =s)
theorem DF (G:lW P w K mg base C D)(CH:aH P w K mg base "hindrances" 3 (aG (fk C D fz) K))(Df:Def K mg "need_program" yk ["text"]):aH P w K mg base "need_program" 6 (aG (F4 C D) K):=by
 have nd:=t9.nd;have CH:=CH.mono (show 3<=5 by decide);refine bw (Sc:=t9) (k:=5) Df (λf NK A outer st H E qs T _ hr hS=>?_);obtain⟨x,s,rfl,⟨S,Ld,hx,hk,rfl,hG⟩,h0,rfl⟩:=hS;refine aj (aL 1 (y:=cT S Ld) (pY G hr (af (aa 0 rfl) av) hx hk) ?_);refine aj (aL 2 (y:=([]:Hs)) (EV.cast (ax CH hr (af (aa 1 rfl) av) ⟨cT S Ld,rfl,hG,rfl⟩) h0) ?_);refine aj (aP (lu (aa 2 rfl)) (λh=>by cases h) (λ_=>aI ?_));exact ao (aN (aa 1 rfl) rfl)
inductive Ref (CT CP:Addr) (x:Str):pN->Prop
 | txt {k:Int} (h:w8 x k):Ref CT CP x (xw CT k)
 | pro {s:bO} (h:Txt2 x s) (hn:fz s≠[]):Ref CT CP x (xw CP (least (fz s)))
def tR (CT CP:Addr):gN:=λK ps o=>∃x:Str,ps=[⟨ae,x⟩]/\Ref CT CP x o
theorem Dh (QV:mg "min"=none)(G:lW P w K mg base C D)(GD:uy P w K mg base CT D)(GP:rY P w K mg base "NoProgram" CP)(CH:aH P w K mg base "hindrances" 3 (aG (fk C D fz) K))(F:cY K "need_program" "need_program" yk f fd)(hm:mg "need_program"=some (.ref f))(hb:Binds K fd ["text"] []):gm P w K mg base "need_program" 7 (fX (tR CT CP) K):=by
 have nd:=t9.nd;have CH:=CH.mono (show 3<=6 by decide);refine lK (k:=6) F t9 hm hb (λqs o ⟨_,e,_⟩=>by rw[e];rfl) (λqs T ⟨_,_,e⟩=>by cases e) (λNK A outer st H R E qs c fs hr hS q=>?_);obtain⟨x,rfl,hR⟩:=hS;cases hR with
 | txt h=>
   obtain⟨fi,OE,MK,SI,bi⟩:=GD.ex;exact vh 1 (Ac MK SI hr GD.mg bi (af (aa 0 rfl) av) (λa=>⟨a,x,_,rfl,h,rfl⟩) q)
 | @pro s h hn=>
   obtain⟨S,Ld,hx,hk,rfl,hG⟩:=h;refine dY (N1:=λΓ=>Γ=[.im ae x,.im (cf C D) (cT S Ld),.no]) (aL 1 (y:=cT S Ld) (pY G (hr.mono (by decide)) (af (aa 0 rfl) av) hx hk) rfl) ?_;rintro _ rfl;refine dY (N1:=λΓ=>Γ=[.im ae x,.im (cf C D) (cT S Ld),kj (fz (cT S Ld))]) (aL 2 (y:=fz (cT S Ld)) (ax CH hr (af (aa 1 rfl) av) ⟨cT S Ld,rfl,hG,rfl⟩) rfl) ?_;rintro _ rfl;refine oX (TV.cast (lu (aa 2 rfl)) ?_) (jX GP (hr.mono (by decide)) (af (y4 QV (aa 2 rfl) hn) av) q);cases e:fz (cT S Ld) with
   | nil=>exact Ny e hn
   | cons _ _=>rfl
abbrev xV:Stmt:=top vo
theorem tM:bq ["text"] ["text"] (ak xV):=OT
def FL:cB:=λK ps T=>∃(x:Str)(s:bO),ps=[⟨ae,x⟩]/\Txt2 x s/\fz s=[]/\T=bM K c9 (· =())
theorem Dw (CN:aH P w K mg base "need_program" 6 (aG (F4 C D) K))(Df:Def K mg "looked" xV ["text"]):aH P w K mg base "looked" 7 (aG FL K):=by
 have nd:=tM.nd;refine Ai (Sc:=tM) (k:=6) Df (λf NK A outer st H E qs T _ hr hS=>?_);obtain⟨x,s,rfl,hx,h0,rfl⟩:=hS;refine⟨λH0 H' R'=>⟨(),rfl,rfl⟩,?_⟩;change WS _ _ [.im ae x] _ _;exact ao (jB (ax CN hr (af (aa 0 rfl) av) ⟨x,s,rfl,hx,h0,rfl⟩) trivial)
theorem BU (CN:gm P w K mg base "need_program" 7 (fX (tR CT CP) K))(F:cY K "looked" "looked" xV f fd)(hm:mg "looked"=some (.ref f))(hb:Binds K fd ["text"] []):gm P w K mg base "looked" 8 (fX (tR CT CP) K):=by
 have nd:=tM.nd;refine lK (k:=7) F tM hm hb (λqs o ⟨_,e,_⟩=>by rw[e];rfl) (λqs T ⟨_,_,e⟩=>by cases e) (λNK A outer st H R E qs c fs hr hS q=>?_);obtain⟨x,rfl,hR⟩:=hS;change RS _ H R _ [.im ae x];exact z5 (kT CN hr (af (aa 0 rfl) av) ⟨x,rfl,hR⟩ q)
theorem boot_bool:Kz "bool"=some (.type "bool"):=by decide +kernel
theorem zZ:Kz "ValueError"=some (.type "ValueError"):=by decide +kernel
abbrev CU:Ht:=["NoText","NoProgram","NoAnswer","NoChoice","NoPlan","NoLog","NoChain","NoCode","NoCounts","NoGuess","NoLoose","NoMarks","NoName","NoRow","NoRun","NoWay","NoWeb"]
structure lF (mg:Hq):Prop where
 isinstance:mg "isinstance"=none
 bool:mg "bool"=none
 VE:mg "ValueError"=none
structure XG (K:MO)(mg:Hq)(x:Str)(C:Addr)(j:Nat):Prop where
 ci:∃CE fi,jE K mg x "word" C CE fi/\mg "CountError"=some (.ref CE)/\Nj K (.ref C) (.ref CE)=some true
 cs:∀i,i<17->∃D,mg (CU.getD i "")=some (.ref D)/\M4 K (.ref C) (.ref D)=some (decide (i=j))
 v:M4 K (.ref C) (.type "ValueError")=some true
 j:j=0∨j=1
variable {j:Nat}
abbrev Gd:Stmt:=top mR
abbrev nCG:Ht:=["_law_text","_law_caught_here","e"]
def SCG (CT CP:Addr):cB:=λK ps T=>∃x:Str,ps=[⟨ae,x⟩]/\((∃s,Txt2 x s/\fz s=[]/\T=bM K c9 (· =()))∨(∃k,Ref CT CP x (xw CT k)/\T=bM K (iU CT "word") (· =k))∨∃k,Ref CT CP x (xw CP k)/\T=bM K (iU CP "word") (· =k))
theorem Ec (GT:XG K mg "NoText" CT 0)(GP:XG K mg "NoProgram" CP 1)(CL:aH P w K mg base "looked" 7 (aG FL K))(CD:gm P w K mg base "looked" 8 (fX (tR CT CP) K))(Df:Def K mg "_law_caught" Gd ["_law_text"]):aH P w K mg base "_law_caught" 9 (aG (SCG CT CP) K):=by
 have CL:=CL.mono (show 7<=8 by decide);refine bw (N:=nCG) (k:=8) Df (λf NK A outer s H E qs T nd hr hS=>?_);obtain⟨x,rfl,hS⟩:=hS;change WS _ _ [.im ae x,.no,.no] _ _;refine aj (aL 1 cF ?_);change WS _ _ [.im ae x,.im c9 (),.no] _ _;rcases hS with⟨sp,hx,h0,rfl⟩ | ⟨k,hR,rfl⟩ | ⟨k,hR,rfl⟩
 ·refine xH (N1:=λΓ=>Γ=[.im ae x,.im c9 (),.no]) (ao (jB (ax CL hr (af (aa 0 rfl) av) ⟨x,sp,rfl,hx,h0,rfl⟩) rfl)) ?_;rintro _ rfl;exact ao (aN (aa 1 rfl) rfl)
 ·obtain⟨CE,fi,ci,hCE,hxm⟩:=GT.ci;exact rE 2 1 (D:=CT) (CE:=CE) (nm:="word") (m:=k) (pf CD hr (af (aa 0 rfl) av) ⟨x,rfl,hR⟩) rfl hCE hxm (by decide)
 ·obtain⟨CE,fi,ci,hCE,hxm⟩:=GP.ci;exact rE 2 1 (D:=CP) (CE:=CE) (nm:="word") (m:=k) (pf CD hr (af (aa 0 rfl) av) ⟨x,rfl,hR⟩) rfl hCE hxm (by decide)
abbrev yI:Stmt:=top oC
abbrev nCL:Ht:=["_law_caught_here","_law_tests"]
theorem sW:bq nCL ["_law_caught_here"] (ak yI):=OT
def SCL:cB:=λK ps T=>(ps=[⟨c9,()⟩]/\T=bM K ai (· = -1))
def vD (x:Str)(C:Addr)(j:Nat):cB:=λK ps T=>∃k:Int,ps=[⟨iU C "word",k⟩]/\T=bM K ai (· =(j:Int))
theorem AN (Df:Def K mg "_law_class" yI ["_law_caught_here"]):aH P w K mg base "_law_class" 1 (aG SCL K):=by
 have nd:=sW.nd;refine bw (Sc:=sW) Df (λf NK A outer s H E qs T _ hr hS=>?_);obtain⟨rfl,rfl⟩:=hS;exact aj (aP (aw hV (aa 0 rfl) cF) (λ_=>ao (aN (cX ah) rfl)) (λh=>Ny h (by decide)))
theorem vN (M6:lF mg)(G:XG K mg x C j)(F:cY K "_law_class" "_law_class" yI f fd)(hm:mg "_law_class"=some (.ref f))(hb:Binds K fd ["_law_caught_here"] []):aH P w K mg base "_law_class" 1 (aG (vD x C j) K):=by
 have nd:=sW.nd;refine h9 F sW hm hb (λqs T ⟨_,e,_⟩=>by rw[e];rfl) (λNK A outer s H E qs T hr hS=>?_);obtain⟨k,rfl,rfl⟩:=hS;obtain⟨CE,fi,ci,_,_⟩:=G.ci;have el:=ci.look;have mi:=M6.isinstance;obtain⟨_,m0,k0⟩:=G.cs 0 (by decide);obtain⟨_,m1,k1⟩:=G.cs 1 (by decide);obtain⟨_,m2,k2⟩:=G.cs 2 (by decide);obtain⟨_,m3,k3⟩:=G.cs 3 (by decide);obtain⟨_,m4,k4⟩:=G.cs 4 (by decide);obtain⟨_,m5,k5⟩:=G.cs 5 (by decide);obtain⟨_,m6,k6⟩:=G.cs 6 (by decide);obtain⟨_,m7,k7⟩:=G.cs 7 (by decide);obtain⟨_,m8,k8⟩:=G.cs 8 (by decide);obtain⟨_,m9,k9⟩:=G.cs 9 (by decide);obtain⟨_,m10,k10⟩:=G.cs 10 (by decide);obtain⟨_,m11,k11⟩:=G.cs 11 (by decide);obtain⟨_,m12,k12⟩:=G.cs 12 (by decide);obtain⟨_,m13,k13⟩:=G.cs 13 (by decide);obtain⟨_,m14,k14⟩:=G.cs 14 (by decide);obtain⟨_,m15,k15⟩:=G.cs 15 (by decide);obtain⟨_,m16,k16⟩:=G.cs 16 (by decide);have z3:3<=Ke:=by decide
 have z2:2<=Ke:=by decide
 have hz:∀n,n<=100->n<=Ke:=λn h=>JJ h (by decide);change WS _ _ [.im (iU C "word") k,.no] _ _;refine aj (aP (aw E9 (aa 0 rfl) cF) (λh=>Ny h (by decide)) (λ_=>aI ?_));refine aj (aL 1 (aO.im (aE (r:=aY) (au (cQ el mi (aa 0 rfl) m0 k0) (au (cQ el mi (aa 0 rfl) m1 k1) (au (cQ el mi (aa 0 rfl) m2 k2) aK))) z3)) ?_);refine aj (aL 1 (aO.im (bF (aa 1 rfl) (aO.im (aE (r:=aY) (au (cQ el mi (aa 0 rfl) m3 k3) (au (cQ el mi (aa 0 rfl) m4 k4) (au (cQ el mi (aa 0 rfl) m5 k5) aK))) z3)) (hz _ (by simp)))) ?_);refine aj (aL 1 (aO.im (bF (aa 1 rfl) (aO.im (aE (r:=aY) (au (cQ el mi (aa 0 rfl) m6 k6) (au (cQ el mi (aa 0 rfl) m7 k7) (au (cQ el mi (aa 0 rfl) m8 k8) aK))) z3)) (hz _ (by simp)))) ?_);refine aj (aL 1 (aO.im (bF (aa 1 rfl) (aO.im (aE (r:=aY) (au (cQ el mi (aa 0 rfl) m9 k9) (au (cQ el mi (aa 0 rfl) m10 k10) (au (cQ el mi (aa 0 rfl) m11 k11) aK))) z3)) (hz _ (by simp)))) ?_);refine aj (aL 1 (aO.im (bF (aa 1 rfl) (aO.im (aE (r:=aY) (au (cQ el mi (aa 0 rfl) m12 k12) (au (cQ el mi (aa 0 rfl) m13 k13) (au (cQ el mi (aa 0 rfl) m14 k14) aK))) z3)) (hz _ (by simp)))) ?_);refine aj (aL 1 (aO.im (bF (aa 1 rfl) (aO.im (aE (r:=aY) (au (cQ el mi (aa 0 rfl) m15 k15) (au (cQ el mi (aa 0 rfl) m16 k16) aK)) z2)) (hz _ (by simp)))) ?_);refine aj (aP (TV.cast (b':=false) (TW.tv (gy (aw Gu (vK (aa 1 rfl) fB) ah) (λ_=>fZ (dv (cV (Bj el mi (aa 0 rfl) M6.VE zZ G.v)))))) (by rcases G.j with rfl | rfl<;>rfl)) (λh=>Ny h (by decide)) (λ_=>aI ?_))
 refine ao (aN (uO (j:=j) (aa 1 rfl) fB ?_ λm h=>?_) rfl)
 ·rcases G.j with rfl | rfl<;>rfl
 ·rcases G.j with rfl | rfl
  ·omega
  ·rw[show m=0 by omega];rfl
abbrev Ft:Stmt:=top oz
def Bs:cB:=λK ps T=>∃x:Int,ps=[⟨ai,x⟩]/\T=bM K aY (· =true)
theorem Fe (M:cm K mg)(M6:lF mg)(Df:Def K mg "_law_whole" Ft ["_law_told"]):aH P w K mg base "_law_whole" 1 (aG Bs K):=by
 refine bw (N:=["_law_told"]) Df (λf NK A outer s H E qs T nd hr hS=>?_);obtain⟨x,rfl,rfl⟩:=hS;exact ao (aN (iT (nH M6.isinstance M.int PyProof.Rows.boot_int (aa 0 rfl) ty_int) (λ_=>mz (uW (nH M6.isinstance M6.bool boot_bool (aa 0 rfl) ty_int)))) rfl)
abbrev Ao:Stmt:=top oE
abbrev CQ:Ht:=["_law_caught_here","_law_due"]
theorem Bu:bq CQ CQ (ak Ao):=OT
def Aq (CT CP:Addr):cB:=λK ps T=>(ps=[⟨c9,()⟩,⟨c9,()⟩]∨(∃k,ps=[⟨iU CP "word",k⟩,⟨c9,()⟩])∨∃k:Int,ps=[⟨iU CT "word",k⟩,⟨ai,k⟩])/\T=bM K aY (· =true)
theorem EL (GT:XG K mg "NoText" CT 0)(CN:aH P w K mg base "_law_class" 1 (aG SCL K))(CX:aH P w K mg base "_law_class" 1 (aG (vD "NoText" CT 0) K))(CY:aH P w K mg base "_law_class" 1 (aG (vD "NoProgram" CP 1) K))(CW:aH P w K mg base "_law_whole" 1 (aG Bs K))(F:cY K "_law_right" "_law_right" Ao f fd)(hm:mg "_law_right"=some (.ref f))(hb:Binds K fd CQ []):aH P w K mg base "_law_right" 2 (aG (Aq CT CP) K):=by
 have nd:=Bu.nd;refine h9 F Bu hm hb (λqs T ⟨e,_⟩=>by rcases e with e | ⟨_,e⟩ | ⟨_,e⟩<;>rw[e]<;>rfl) (λNK A outer s H E qs T hr hS=>?_)
 obtain⟨hS,rfl⟩:=hS;rcases hS with rfl | ⟨k,rfl⟩ | ⟨k,rfl⟩
 ·exact aj (aP (aw hV (aa 1 rfl) cF) (λ_=>ao (aN (dh Az (ax CN hr (af (aa 0 rfl) av) ⟨rfl,rfl⟩) (aO.im (aE (r:=ai) (au (cX ah) (au ah aK)) (by show 2<=Ke;decide)))) rfl)) (λh=>Ny h (by decide)))
 ·exact aj (aP (aw hV (aa 1 rfl) cF) (λ_=>ao (aN (dh Az (ax CY hr (af (aa 0 rfl) av) ⟨k,rfl,rfl⟩) (aO.im (aE (r:=ai) (au (cX ah) (au ah aK)) (by show 2<=Ke;decide)))) rfl)) (λh=>Ny h (by decide)))
 ·obtain⟨CE,fi,ci,_,_⟩:=GT.ci;obtain⟨cd,NV,_,Ol⟩:=ci.cls;refine aj (aP (aw lZ (aa 1 rfl) cF) (λh=>Ny h (by decide)) (λ_=>aI ?_));refine ao (aN (iT (dh da (ax CX hr (af (aa 0 rfl) av) ⟨k,rfl,rfl⟩) ah) (λ_=>iT (ax CW hr (af (lX ci.look NV Ol ci.no (aa 0 rfl)) av) ⟨_,rfl,rfl⟩) (λ_=>mz (dh da (lX ci.look NV Ol ci.no (aa 0 rfl)) (aa 1 rfl))))) ?_);show(decide (((0:Nat):Int)=0)&&(true&&decide (k=k)))=true;rw[decide_eq_true rfl];rfl
theorem B4:∀n:Nat,n<128->(Ln.Str.occurrences eB ⟨#[n]⟩ 0 eB.length 1).isEmpty= !rJ n:=by decide +kernel
abbrev NU (y:fu):Ht:=y.O.map (aF y.S)
def eV (k:Str)(ks:Ht):Ht:=
 if ks.isEmpty∨k="if"∨k="while" then ks++[k] else if k="else" then ks.dropLast++[("else":Str)] else if k="end" then ks.dropLast else ks
theorem yv {k n:Str}(ro:∀o∈y.O,0<=o/\o<(y.S.length:Int)):NU (O5 k n y)=(if k∈NO then(NU y).dropLast else NU y)++(if k∈NX then[k] else[]):=by
 show List.map (aF (y.S++[ng k (if k∈named then n else "") y])) ((if k∈NO then y.O.dropLast else y.O)++(if k∈NX then[(y.S.length:Int)] else[]))=_;rw[IC];congr 1
 ·by_cases h:k∈NO
  ·rw[ND h,ND h,mQ λo ho=>ro o ((Jd _).mem ho),List.map_dropLast]
  ·rw[Nz h,Nz h,mQ ro]
 ·by_cases h:k∈NX
  ·rw[ND h,ND h,Jt,C8];rfl
  ·rw[Nz h,Nz h];rfl
theorem oR {k n:Str}(ro:∀o∈y.O,0<=o/\o<(y.S.length:Int))(hm:bJ k (NU y)=true):NU (O5 k n y)=eV k (NU y):=by
 rw[yv ro];generalize NU y=ks at hm;unfold eV;rcases ji hm with⟨rfl,rfl⟩ | ⟨h1,h2⟩
 ·rfl
 ·have h1:¬ks.isEmpty=true:=λz=>h1 (Jf.mp z);rcases h2 with⟨_,rfl⟩ | ⟨_,rfl⟩ | ⟨_,rfl⟩ | rfl | rfl | rfl | rfl | rfl
  ·rw[Nz (by decide +kernel),Nz (by decide +kernel),Nz (λz=>z.elim h1 (by decide +kernel)),Nz (by decide +kernel),Nz (by decide +kernel),Ip]
  ·rw[ND (by decide +kernel),ND (by decide +kernel),Nz (λz=>z.elim h1 (by decide +kernel)),ND rfl]
  ·rw[ND (by decide +kernel),Nz (by decide +kernel),Nz (λz=>z.elim h1 (by decide +kernel)),Nz (by decide +kernel),ND rfl,Ip]
  ·rw[Nz (by decide +kernel),Nz (by decide +kernel),Nz (λz=>z.elim h1 (by decide +kernel)),Nz (by decide +kernel),Nz (by decide +kernel),Ip]
  ·rw[Nz (by decide +kernel),Nz (by decide +kernel),Nz (λz=>z.elim h1 (by decide +kernel)),Nz (by decide +kernel),Nz (by decide +kernel),Ip]
  ·rw[Nz (by decide +kernel),ND (by decide +kernel),ND (.inr (.inl rfl))]
  ·rw[Nz (by decide +kernel),ND (by decide +kernel),ND (.inr (.inr rfl))]
  ·rw[Nz (by decide +kernel),Nz (by decide +kernel),Nz (λz=>z.elim h1 (by decide +kernel)),Nz (by decide +kernel),Nz (by decide +kernel),Ip]
theorem uI {k:Str}(hm:bJ k ks=true):decide (k∈named)=(ks.isEmpty ||decide (k∈(["do","call","if","while"]:Ht))):=by
 rcases ji hm with⟨rfl,rfl⟩ | ⟨h1,h2⟩
 ·rfl
 ·have h1:ks.isEmpty=false:=by cases ks with
   | nil=>exact Ny rfl h1
   | cons _ _=>rfl
  rw[h1];rcases h2 with⟨_,rfl⟩ | ⟨_,rfl⟩ | ⟨_,rfl⟩ | rfl | rfl | rfl | rfl | rfl<;>decide +kernel
abbrev BO:Stmt:=top kX
theorem D8 (M:cm K mg)(Df:Def K mg "_law_is_name" BO ["_law_word"]):aH P w K mg base "_law_is_name" 1 (aG v5 K):=by
 have Ph:Ir [("_law_sign":Str)]:=by decide
 refine bw (N:=["_law_word"]) Df (λf NK A outer s H E qs T nd hr hS=>?_);obtain⟨x,rfl,hx,rfl⟩:=hS;have hu:=ru hr;change WS _ _ [.im ae x] _ _;refine aj (aP (TW.tv (gy (aw fM (mO M.len (aa 0 rfl) hx.le) ah) (λ_=>fZ (aw kW (mO M.len (aa 0 rfl) hx.le) ah)))) (λh=>?_) (λh=>aI ?_))
 ·refine ao (aN fB ?_);unfold eI;rcases HH.mp h with h | h
  ·have h:(x.length:Int)<1:=NF h;rw[NH (show¬1<=x.length by omega)];rfl
  ·have h:(8:Int)<(x.length:Int):=NF h;rw[NH (show¬x.length<=8 by omega),HM];rfl
 ·obtain⟨h1,h2⟩:=HJ.mp h;have h1:¬(x.length:Int)<1:=NG h1;have h2:¬(8:Int)<(x.length:Int):=NG h2;have sg:∀c∈je x,∃n,c=⟨#[n]⟩/\n<128:=λc hc=>by
   unfold je at hc;obtain⟨i,hi,rfl⟩:=Io.mp hc;have hi:i<x.cps.size:=by simpa using hi
   refine⟨x.cps.getD i 0,rfl,hx.a _ ?_⟩;rw[HB];simp[hi]
  refine ao (aN (dh (A3 (Nat.lt_of_succ_lt hu)) (aO.im (cy (own:=["_law_sign"]) (fr:=[]) (ix:=[]) (ra:=ae) (rb:=ae) (p:=λc=> !rJ (c.cps.getD 0 0)) (f:=λc=>c) (bY (so:=ak BO) (N0:=["_law_word"]) rfl rfl (λx h=>bC h) (by decide +kernel)) (vc (aa 0 rfl) hx.asc hx.le)
   (λC s H ex=>bB 0) (λx=>⟨.inr rfl,trivial⟩) (λC s H ex c hc=>?_) (λC s H ex c hc _=>aa 0 rfl))) (aO.im (aE (r:=ae) aK (JM _)))) ?_)
  ·obtain⟨n,rfl,hn⟩:=sg c hc;exact eo (TV.cast (aw vd (aa 0 rfl) aq) (B4 n hn))
  ·unfold eI;rw[← r8,decide_eq_true (show 1<=x.length by omega),decide_eq_true (show x.length<=8 by omega)];show(List.map (λc=>c) _).isEmpty=_;rw[List.map_id'];rw[HG,Jf,List.filter_eq_nil_iff];simp
abbrev x5:Stmt:=top qF
abbrev FO:Ht:=["_law_words","_law_opened","_law_at","_law_word","_law_named"]
theorem Dp:bq FO ["_law_words"] (ak x5):=OT
abbrev x3 (ws:Ht)(y:fu)(e3 e4:Ent):Ga:=[.im (ag ae) ws,.mu ae (NU y),aR (y.w:Int),e3,e4]
inductive uD (K:MO) (ws:Ht) (y:fu):RT->Prop
 | may (h:y.w<ws.length) (hm:bJ (NR ws y) (NU y)=false):uD K ws y (bM K (de ai (ag ae)) (· =((y.w:Int),NU y)))
 | nm (h:y.w<ws.length) (hm:bJ (NR ws y) (NU y)=true) (hn:NR ws y∈named) (hb:y.w+1=ws.length∨eI (ws.getD (y.w+1) "")=false):uD K ws y (bM K (de ai (ag ae)) (· =((y.w:Int)+1,NU y++[NR ws y])))
 | fin (h:y.w=ws.length):uD K ws y (bM K (de c9 (ag ae)) (· =((),NU y)))
structure Gi (ws:Ht):Prop where
 l:ws.length<=1000
 w:∀w∈ws,cJ w
def BS:cB:=λK ps T=>∃(ws:Ht)(n:Nat),ps=[⟨ag ae,ws⟩]/\Gi ws/\bU ws n/\uD K ws (rx ws n) T
abbrev w4:Ht:=["do","call","if","while"]
abbrev w5:Ht:=["else","end","leave","back"]
theorem zT {k:Str}(N2:ks.isEmpty=false):bJ k ks= !((decide (k="else")&& !decide (ks.getLast?.getD ""="if") ||decide (k="end")&&decide (ks.getLast?.getD ""="if")) ||(decide (k="leave")&& !decide (("while":Str)∈ks)) ||(!decide (k∈w4)&& !decide (k∈w5))):=by
 unfold bJ;rw[Nz (by rw[N2];decide)];by_cases h1:k="leave"
 ·subst h1;rw[ND rfl];have e:(decide (("leave":Str)="else"))=false:=by decide +kernel
  have e2:(decide (("leave":Str)="end"))=false:=by decide +kernel
  have e3:(decide (("leave":Str)∈w5))=true:=by decide +kernel
  rw[e,e2,e3];simp
 by_cases h2:k="else"
 ·subst h2;rw[Nz (by decide +kernel),ND rfl];have e:(decide (("else":Str)="leave"))=false:=by decide +kernel
  have e2:(decide (("else":Str)="end"))=false:=by decide +kernel
  have e3:(decide (("else":Str)∈w5))=true:=by decide +kernel
  rw[e,e2,e3];simp
 by_cases h3:k="end"
 ·subst h3;rw[Nz (by decide +kernel),Nz (by decide +kernel),ND rfl];have e:(decide (("end":Str)="leave"))=false:=by decide +kernel
  have e2:(decide (("end":Str)="else"))=false:=by decide +kernel
  have e3:(decide (("end":Str)∈w5))=true:=by decide +kernel
  rw[e,e2,e3];simp
 rw[Nz h1,Nz h2,Nz h3,NH h1,NH h2,NH h3];simp only[Oi,w4,w5,Ih,Il,or_false,Bool.false_and,Bool.or_false,Bool.false_or,h1,h2,h3,false_or];by_cases g1:k="do"<;>by_cases g2:k="call"<;>by_cases g3:k="if"<;>by_cases g4:k="while"<;>by_cases g5:k="back"<;>simp[g1,g2,g3,g4,g5]
theorem qD (h:ks≠[]):fw ks.length (-1)=some (ks.length-1)/\ks.set (ks.length-1) "else"=ks.dropLast++[("else":Str)]:=by
 obtain⟨l,x,rfl⟩:∃l x,ks=l++[x]:=⟨ks.dropLast,ks.getLast h,(Iq h).symm⟩;refine⟨by unfold fw;simp;omega,?_⟩;simp
theorem nW (h:ks≠[]):ks[ks.length-1]?=some (ks.getLast?.getD ""):=by
 obtain⟨l,x,rfl⟩:∃l x,ks=l++[x]:=⟨ks.dropLast,ks.getLast h,(Iq h).symm⟩;simp
theorem DB (M:cm K mg)(CN:aH P w K mg base "_law_is_name" 1 (aG v5 K))(F:cY K "_law_read" "_law_read" x5 f fd)(hm:mg "_law_read"=some (.ref f))(hb:Binds K fd ["_law_words"] []):aH P w K mg base "_law_read" 2 (aG BS K):=by
 have nd:=Dp.nd;refine h9 F Dp hm hb (λqs T ⟨_,_,e,_⟩=>by rw[e];rfl) (λNK A outer s H E qs T hr hS=>?_);obtain⟨ws,n,rfl,W,OF,hT⟩:=hS;have wl:=W.l;have z4:4<=Ke:=by decide
 refine aj (cD 1 (r:=ae) (ys:=[]) (aE aK (JM _)) ?_);refine aj (aL 2 (y:=(0:Int)) ah ?_);refine bL (N1:=λΓ=>(rx ws n).w=ws.length/\∃e3 e4,Γ=x3 ws (rx ws n) e3 e4) (iM (λk Γ=>∃i,k+i=n/\∃e3 e4,Γ=x3 ws (rx ws i) e3 e4) (m0:=n) ⟨0,rfl,_,_,rfl⟩ (λm Γ hI=>?_)) ?_
 ·obtain⟨i,P9,e3,e4,rfl⟩:=hI;refine⟨decide (((rx ws i).w:Int)<(ws.length:Int)),_,aw fM (aa 2 rfl) (cj M.len (aa 0 rfl)),λh=>?_,λh=>?_⟩
  ·have h:((rx ws i).w:Int)<(ws.length:Int):=NF h;obtain⟨iS,iw,iO,io⟩:=cz ws i;have Oj:rx ws (i+1)=O5 (NR ws (rx ws i)) (ws.getD ((rx ws i).w+1) "") (rx ws i):=rfl
   -- what is known of this turn
   have P1:(i<n/\xp ws (rx ws i))∨(i=n/\uD K ws (rx ws i) T):=by
    rcases JO i n with z | z
    ·exact .inl ⟨z,OF i z⟩
    ·obtain rfl:i=n:=by omega
     exact .inr ⟨rfl,hT⟩
   have Sb:bJ (NR ws (rx ws i)) (NU (rx ws i))=true->NU (rx ws (i+1))=eV (NR ws (rx ws i)) (NU (rx ws i)):=λhm=>by rw[Oj];exact oR (by rw[iS];exact io) hm
   have hwn:(rx ws (i+1)).w=(rx ws i).w+(if NR ws (rx ws i)∈named then 2 else 1):=rfl;have lO:(NU (rx ws i)).length<=1000:=by rw[HU];omega
   have hkk:NR ws (rx ws i)=ws.getD (rx ws i).w "":=rfl
   -- no more is asked of it than this
   have t1:bJ (NR ws (rx ws i)) (NU (rx ws i))=false->T=bM K (de ai (ag ae)) (· =(((rx ws i).w:Int),NU (rx ws i))):=λz=>by
    rcases P1 with⟨_,q⟩ | ⟨_,q⟩
    ·rw[q.may] at z;cases z
    ·cases q with
     | may=>rfl
     | nm _ hm=>rw[hm] at z;cases z
     | fin h'=>omega
   have t2:bJ (NR ws (rx ws i)) (NU (rx ws i))=true->NR ws (rx ws i)∈named->((rx ws i).w+1=ws.length∨eI (ws.getD ((rx ws i).w+1) "")=false)->T=bM K (de ai (ag ae)) (· =(((rx ws i).w:Int)+1,NU (rx ws i)++[NR ws (rx ws i)])):=λz1 z2 z3=>by
    rcases P1 with⟨_,q⟩ | ⟨_,q⟩
    ·have:=q.nm z2;rcases z3 with z3 | z3
     ·omega
     ·rw[this.2] at z3;cases z3
    ·cases q with
     | may _ hm=>rw[hm] at z1;cases z1
     | nm=>rfl
     | fin h'=>omega
   have t3:bJ (NR ws (rx ws i)) (NU (rx ws i))=true->(NR ws (rx ws i)∈named->(rx ws i).w+1<ws.length/\eI (ws.getD ((rx ws i).w+1) "")=true)->i<n:=λz1 z2=>by
    rcases P1 with⟨q,_⟩ | ⟨_,q⟩
    ·exact q
    ·cases q with
     | may _ hm=>rw[hm] at z1;cases z1
     | nm _ _ hn hb=>
       have:=z2 hn;rcases hb with hb | hb
       ·omega
       ·rw[this.2] at hb;cases hb
     | fin h'=>omega
   generalize hk:NR ws (rx ws i)=k at Sb hwn t1 t2 t3 hkk;generalize hkl:NU (rx ws i)=ks at Sb lO t1 t2 t3;generalize hww:(rx ws i).w=wy at h hwn hkk t1 t2 t3;have Ow:cC ws (wy:Int)=some k:=by rw[hkk];exact aV (xs:=ws) (i:=(wy:Int)) "" (by omega) h
   show WS _ _ (x3 ws (rx ws i) e3 e4) _ _;unfold x3;rw[hkl,hww];refine aj (aL 3 (y:=k) (bc (aa 0 rfl) (aa 2 rfl) Ow) ?_);refine aj (aL 4 (y:=decide (k∈w4)) (dh my (aa 3 rfl) (aO.im (aE (r:=ae) (au aq (au aq (au aq (au aq aK)))) z4))) ?_);change WS _ _ [.im (ag ae) ws,.mu ae ks,aR (wy:Int),.im ae k,.im aY (decide (k∈w4))] _ _;have Qj:bJ k ks=false->∀(e4:Ent)(N:Ga->Prop)(p1 p2 p3 p4:Pos)(j:Nat),WS (aT cW P w K mg base FO "_law_read" (ak x5) f NK A outer s H E).bV [.Return (some (.Tuple [.Name "_law_at" p1,.Name "_law_opened" p2] j p3)) p4] [.im (ag ae) ws,.mu ae ks,aR (wy:Int),.im ae k,e4] N T:=λz e4 N p1 p2 p3 p4 j=>by
    rw[t1 z];refine WS.freeze 1 rfl (aM (by omega)) ?_;exact ao (aN (nq (af (aa 2 rfl) (af (aa 1 rfl) av))) rfl)
   refine bL (N1:=λΓ=>bJ k ks=true/\Γ=[.im (ag ae) ws,.mu ae ks,aR (wy:Int),.im ae k,.im aY (decide (k∈named))]) (aP (aw da (jQ 1 M.len rfl) ah) (λh0=>?_) (λh0=>?_)) ?_
   ·have h0:(ks.length:Int)=0:=NF h0;have h0:ks=[]:=Jk.mp (by omega);refine aj (aP (aw jY (aa 3 rfl) aq) (λhh=>Qj ?_ _ _ _ _ _ _ _) (λhh=>aI ?_))
    ·have hh:¬k="part":=by simpa using hh
     rw[h0];exact NH hh
    ·have hh:k="part":=by simpa using hh
     exact ao (aL 4 fB ⟨by rw[h0,hh];rfl,by rw[hh];rfl⟩)
   ·have h0:¬(ks.length:Int)=0:=NG h0;have N2:ks≠[]:=λz=>h0 (by rw[z];rfl);have hie:ks.isEmpty=false:=by cases ks with
     | nil=>exact Ny rfl N2
     | cons _ _=>rfl
    have Rf:=zT (k:=k) hie;have hla:=iN N2;refine ao (aP (TV.cast (b:=(decide (k="else")&& !decide (ks.getLast?.getD ""="if")) ||(decide (k="end")&&decide (ks.getLast?.getD ""="if"))) (TW.tv (gy (TW.tv (cR (aw bW (aa 3 rfl) aq) (λ_=>cI (aw jY (iK 1 (cX ah) rfl rfl hla) aq)))) (λ_=>fZ (TW.tv (cR (aw bW (aa 3 rfl) aq) (λ_=>cI (aw bW (iK 1 (cX ah) rfl rfl hla) aq))))))) rfl) (λg1=>Qj (by rw[Rf,g1];rfl) _ _ _ _ _ _ _) (λg1=>?_));refine ao (aP (TW.tv (cR (aw bW (aa 3 rfl) aq) (λ_=>cI (TV.OG (uL (i:=1) rfl (aM (by omega))) (aw jI aq (aa 1 rfl)))))) (λg2=>Qj (by rw[Rf,g1];rw[show(decide (k="leave")&& !decide (("while":Str)∈ks))=true from g2];rfl) _ _ _ _ _ _ _) (λg2=>?_));refine ao (aP (TW.tv (cR (dv (cV (aa 4 rfl))) (λ_=>cI (aw jI (aa 3 rfl) (aO.im (aE (r:=ae) (au aq (au aq (au aq (au aq aK)))) z4)))))) (λg3=>Qj (by rw[Rf,g1];rw[show(decide (k="leave")&& !decide (("while":Str)∈ks))=false from g2,show(!decide (k∈w4)&& !decide (k∈w5))=true from g3];rfl) _ _ _ _ _ _ _) (λg3=>aI ?_));have Rc:bJ k ks=true:=by rw[Rf,g1];rw[show(decide (k="leave")&& !decide (("while":Str)∈ks))=false from g2,show(!decide (k∈w4)&& !decide (k∈w5))=false from g3];rfl
    refine⟨Rc,?_⟩;rw[uI Rc,hie];rfl
   rintro _ ⟨Rc,rfl⟩;have OC:∀b:Bool,(decide (k∈named)&&b)=true->(b=true->(wy+1=ws.length∨eI (ws.getD (wy+1) "")=false))->T=bM K (de ai (ag ae)) (· =((wy:Int)+1,ks++[k])):=λb hb hq=>by
    obtain⟨b1,b2⟩:=HK.mp hb;exact t2 Rc (NF b1) (hq b2)
   refine aj (aP (TV.cast (b:=decide (k∈named)&&(decide ((wy:Int)+1=(ws.length:Int)) || !eI (ws.getD (wy+1) ""))) (TW.tv (cR (cV (aa 4 rfl)) (λ_=>cI (TW.tv (gy (aw da (br (aa 2 rfl) ah) (cj M.len (aa 0 rfl))) (λh=>fZ (dv (cV (ax CN hr (af (bc (aa 0 rfl) (br (aa 2 rfl) ah) (aV (xs:=ws) (i:=((wy:Int)+1)) "" (by omega) (by have h:=NG h;omega))) av) ⟨_,rfl,W.w _ (getD_in (by have h:=NG h;omega)),rfl⟩))))))))) rfl) (λg=>?_) (λg=>aI ?_))
   ·rw[OC _ g λq=>by
     rcases HH.mp q with q | q
     ·exact .inl (by have:=NF q;omega)
     ·exact .inr (by simpa using q)]
    refine WS.freeze 1 rfl (aM (by omega)) ?_;exact ao (aN (nq (af (br (aa 2 rfl) ah) (af (aO.im (bF (aa 1 rfl) (aO.im (aE (r:=ae) (au (aa 3 rfl) aK) (by show 1<=Ke;decide))) (aM (by simp;omega)))) av))) rfl)
   have N4:i<n:=t3 Rc λhn=>by
    rw[decide_eq_true hn,Bool.true_and] at g;obtain⟨g1,g2⟩:=HJ.mp g;have g1:=NG g1;exact⟨by omega,by simpa using g2⟩
   have Sb:=Sb Rc;refine bL (N1:=λΓ=>Γ=[.im (ag ae) ws,.mu ae (eV k ks),aR (wy:Int),.im ae k,.im aY (decide (k∈named))]) (aP (TV.cast (b:=decide ((ks.length:Int)=0) ||(decide (k="if") ||decide (k="while"))) (TW.tv (gy (aw da (jQ 1 M.len rfl) ah) (λ_=>gy (aw bW (aa 3 rfl) aq) (λ_=>fZ (aw bW (aa 3 rfl) aq))))) rfl) (λg=>?_) (λg=>?_)) ?_
   ·refine ao (cb 1 (aa 3 rfl) rfl rfl (JN lO (by decide)) ?_);have:ks.isEmpty=true∨k="if"∨k="while":=by
     rcases HH.mp g with g | g
     ·have g:=NF g;exact .inl (Jf.mpr (Jk.mp (by omega)))
     ·rcases HH.mp g with g | g
      ·exact .inr (.inl (NF g))
      ·exact .inr (.inr (NF g))
    unfold eV;rw[ND this];rfl
   ·obtain⟨g0,g⟩:=HJ.mp g;obtain⟨g1,g2⟩:=HJ.mp g;have g0:=NG g0;have N2:ks≠[]:=λz=>g0 (by rw[z];rfl);have OP:¬(ks.isEmpty=true∨k="if"∨k="while"):=by
     rintro(q | q | q)
     ·exact N2 (Jf.mp q)
     ·exact NG g1 q
     ·exact NG g2 q
    refine ao (aP (aw bW (aa 3 rfl) aq) (λq1=>?_) (λq1=>?_))
    ·obtain⟨x1,x2⟩:=qD N2;refine ao (mS 1 (y:=("else":Str)) aq (cX ah) rfl rfl x1 ?_);unfold eV;rw[Nz OP,ND (NF q1),← x2];rfl
    ·have q1:=NG q1;refine ao (aP (aw bW (aa 3 rfl) aq) (λq2=>?_) (λq2=>aI ?_))
     ·refine ao (jB (lU 1 rfl (nW N2)) ?_);unfold eV;rw[Nz OP,Nz q1,ND (NF q2)];rfl
     ·unfold eV;rw[Nz OP,Nz q1,Nz (NG q2)]
   rintro _ rfl;refine ao (aL 2 (br (br (aa 2 rfl) ah) (zx M.int (aa 4 rfl))) ⟨m-1,by omega,i+1,by omega,.im ae k,.im aY (decide (k∈named)),?_⟩);rw[Sb,hwn];by_cases q:k∈named
   ·rw[ND q,decide_eq_true q,show((wy:Int)+1+if true=true then 1 else 0)=((wy+2:Nat):Int) by simp;omega];rfl
   ·rw[Nz q,NH q,show((wy:Int)+1+if false=true then 1 else 0)=((wy+1:Nat):Int) by simp];rfl
  ·have h:¬((rx ws i).w:Int)<(ws.length:Int):=NG h;have N4:i=n:=by
    rcases JO i n with z | z
    ·exact Ny (by have:=(OF i z).w;omega) h
    ·omega
   subst N4;refine⟨?_,e3,e4,rfl⟩;cases hT with
   | may h' _=>omega
   | nm h' _ _ _=>omega
   | fin h'=>exact h'
 rintro _ ⟨hw,e3,e4,rfl⟩;have lO:(NU (rx ws n)).length<=1000:=by
  obtain⟨_,a,b,_⟩:=cz ws n;rw[HU];omega
 have e:T=bM K (de c9 (ag ae)) (· =((),NU (rx ws n))):=by
  cases hT with
  | may h' _=>omega
  | nm h' _ _ _=>omega
  | fin h'=>rfl
 rw[e];refine WS.freeze 1 rfl (aM (by omega)) ?_;exact ao (aN (nq (af cF (af (aa 1 rfl) av))) rfl)
abbrev B6:Stmt:=top oH
abbrev nLW:Ht:=["_law_words","_law_at","_law_opened"]
theorem A2:bq nLW ["_law_words"] (ak B6):=OT
def FV:cB:=λK ps T=>∃(ws:Ht)(n:Nat),ps=[⟨ag ae,ws⟩]/\eT ws/\bU ws n/\((∃k,dW ws (rx ws n) k/\T=bM K ai (· =k))∨((rx ws n).w=ws.length/\(rx ws n).O=[]/\T=bM K c9 (· =())))
theorem D9 (M:cm K mg)(CR:aH P w K mg base "_law_read" 2 (aG BS K))(F:cY K "_law_wrong" "_law_wrong" B6 f fd)(hm:mg "_law_wrong"=some (.ref f))(hb:Binds K fd ["_law_words"] []):aH P w K mg base "_law_wrong" 3 (aG FV K):=by
 have nd:=A2.nd;refine h9 (k:=2) F A2 hm hb (λqs T ⟨_,_,e,_⟩=>by rw[e];rfl) (λNK A outer s H E qs T hr hS=>?_);obtain⟨ws,n,rfl,W,OF,hS⟩:=hS;rcases hS with⟨k,hb,rfl⟩ | ⟨hw,ho,rfl⟩
 ·cases hb with
  | may h hm=>
    refine aj (gP 1 2 (ax CR hr (af (aa 0 rfl) av) ⟨ws,n,rfl,⟨W.l,W.w⟩,OF,.may h hm⟩) ?_);refine aj (aP (TV.cast (b:=false&&true) (b':=false) (TW.tv (cR (aw lZ (aa 1 rfl) cF) (λh=>Ny h (by decide)))) rfl) (λh=>Ny h (by decide)) (λ_=>aI ?_));exact ao (aN (aa 1 rfl) rfl)
  | nm h hm hn hb=>
    refine aj (gP 1 2 (ax CR hr (af (aa 0 rfl) av) ⟨ws,n,rfl,⟨W.l,W.w⟩,OF,.nm h hm hn hb⟩) ?_);refine aj (aP (TV.cast (b:=false&&true) (b':=false) (TW.tv (cR (aw lZ (aa 1 rfl) cF) (λh=>Ny h (by decide)))) rfl) (λh=>Ny h (by decide)) (λ_=>aI ?_));exact ao (aN (aa 1 rfl) rfl)
  | more h ho=>
    refine aj (gP 1 2 (ax CR hr (af (aa 0 rfl) av) ⟨ws,n,rfl,⟨W.l,W.w⟩,OF,.fin h⟩) ?_);have:0<(NU (rx ws n)).length:=by rw[HU];exact List.length_pos_iff.mpr ho
    refine aj (aP (TV.cast (b':=true) (TW.tv (cR (aw hV (aa 1 rfl) cF) (λ_=>cI (aw kW (cj M.len (aa 2 rfl)) ah)))) (by rw[decide_eq_true (show(0:Int)<((NU (rx ws n)).length:Int) by omega)];rfl)) (λ_=>?_) (λh=>Ny h (by decide)));exact ao (aN (cj M.len (aa 0 rfl)) rfl)
 ·refine aj (gP 1 2 (ax CR hr (af (aa 0 rfl) av) ⟨ws,n,rfl,⟨W.l,W.w⟩,OF,.fin hw⟩) ?_);refine aj (aP (TV.cast (b':=false) (TW.tv (cR (aw hV (aa 1 rfl) cF) (λ_=>cI (aw kW (cj M.len (aa 2 rfl)) ah)))) (by rw[show NU (rx ws n)=[] by unfold NU;rw[ho];rfl];rfl)) (λh=>Ny h (by decide)) (λ_=>aI ?_));exact ao (aN (aa 1 rfl) rfl)
variable {ws':Ht}{v:Str}{vs:Ht}
theorem kS (ws:Ht)(i:Nat):(rx ws (i+1)).w=(rx ws i).w+(if NR ws (rx ws i)∈named then 2 else 1):=rfl
theorem eG {ws ws':Ht}{m:Nat}(h:∀j,j<m->ws'.getD j ""=ws.getD j ""):∀i,(rx ws i).w<=m->rx ws' i=rx ws i
 | 0,_=>rfl
 | i+1,hw=>by
   have e:=kS ws i;have lt:(rx ws i).w<m:=by
    rw[e] at hw;split at hw<;>omega
   have ih:=eG h i (by omega);show ko ws' (rx ws' i)=ko ws (rx ws i);rw[ih];unfold ko;have ek:NR ws' (rx ws i)=NR ws (rx ws i):=h _ lt;rw[ek];by_cases hk:NR ws (rx ws i)∈named
   ·rw[ND hk] at e;rw[h _ (by omega)]
   ·unfold O5;rw[Nz hk,Nz hk,Nz hk]
theorem eA {m:Nat}(h:∀j,j<m->ws'.getD j ""=ws.getD j "")(hl:m<=ws'.length)(hn:(rx ws n).w<=m)(hr:bU ws n):bU ws' n:=λi hi=>by
 have mono:∀j k,(rx ws j).w<=(rx ws (j+k)).w:=by
  intro j k
  induction k with
  | zero=>exact JI _
  | succ k ih=>
    have e:=kS ws (j+k);rw[show j+(k+1)=j+k+1 by omega,e];split<;>omega
 have h1:=mono (i+1) (n-(i+1));rw[show i+1+(n-(i+1))=n by omega] at h1;have e:=kS ws i;obtain⟨a,b,c⟩:=hr i hi;have lt:(rx ws i).w<m:=by
  rw[e] at h1;split at h1<;>omega
 rw[eG h i (by omega)];have ek:NR ws' (rx ws i)=NR ws (rx ws i):=h _ lt;refine⟨by omega,by rw[ek];exact b,λhk=>?_⟩;rw[ek] at hk;rw[ND hk] at e;have:=c hk;exact⟨by omega,by rw[h _ (by omega)];exact this.2⟩
theorem xh {k:Nat}(hr:bU ws n)(hb:dW ws (rx ws n) (k:Int))(hk:k<ws.length)(Pp:k<ws'.length)(h:∀j,j<k+1->ws'.getD j ""=ws.getD j ""):bU ws' n/\dW ws' (rx ws' n) (k:Int):=by
 generalize hkk:(k:Int)=kk at hb;cases hb with
 | may h1 hm=>
   obtain rfl:k=(rx ws n).w:=by omega
   refine⟨eA h (by omega) (by omega) hr,?_⟩;have e:=eG h n (by omega);have ek:NR ws' (rx ws n)=NR ws (rx ws n):=h _ (by omega);rw[e];exact .may Pp (by rw[ek];exact hm)
 | nm h1 hm hn hb=>
   have e1:k=(rx ws n).w+1:=by omega
   refine⟨eA h (by omega) (by omega) hr,?_⟩;have e:=eG h n (by omega);have ek:NR ws' (rx ws n)=NR ws (rx ws n):=h _ (by omega);rw[e];refine .nm (by omega) (by rw[ek];exact hm) (by rw[ek];exact hn) (.inr ?_);rw[h _ (by omega)];exact hb.resolve_left (by omega)
 | more h1 ho=>exact Ny hk (by omega)
def f7 (k:Str):Ht:=if k="if" then["else","end"] else["end"]
def dJ (ks:Ht):Ht:=ks.reverse.flatMap f7
theorem zF {k:Str}:dJ (ks++[k])=f7 k++dJ ks:=by unfold dJ;rw[List.reverse_append,Jq];simp
theorem mH {w:Nat}(h:ws.drop w=v::vs):w<ws.length/\ws.getD w ""=v/\ws.drop (w+1)=vs:=by
 have hl:w<ws.length:=by
  rcases JO w ws.length with z | z
  ·exact z
  ·rw[Ju z] at h;cases h
 rw[List.drop_eq_getElem_cons hl] at h;injection h with h1 h2;exact⟨hl,by rw[HY,Ib hl];exact h1,h2⟩
theorem mJ (hr:bU ws n)(hd:ws.drop (rx ws n).w=v::vs)(hv:v∉named)(hm:bJ v (NU (rx ws n))=true):bU ws (n+1)/\NU (rx ws (n+1))=eV v (NU (rx ws n))/\ws.drop (rx ws (n+1)).w=vs:=by
 obtain⟨hl,e,Q2⟩:=mH hd;have ek:NR ws (rx ws n)=v:=e;obtain⟨a,_,_,d⟩:=cz ws n;refine⟨λi hi=>?_,?_,?_⟩
 ·rcases JO i n with z | z
  ·exact hr i z
  ·obtain rfl:i=n:=by omega
   exact⟨hl,by rw[ek];exact hm,λz=>Ny (ek▸z) hv⟩
 ·show NU (O5 (NR ws (rx ws n)) _ (rx ws n))=_;rw[ek];exact oR (by rw[a];exact d) hm
 ·rw[kS,ek,Nz hv];exact Q2
theorem gW {ws:Ht}:∀(ks:Ht)(n:Nat),bU ws n->NU (rx ws n)=ks.reverse->ws.drop (rx ws n).w=dJ ks.reverse->∃n',bU ws n'/\(rx ws n').O=[]/\ws.length<=(rx ws n').w
 | [],n,hr,hk,hd=>⟨n,hr,JC.mp hk,by
     have:ws.drop (rx ws n).w=[]:=hd;exact List.drop_eq_nil_iff.mp this⟩
 | k::ks,n,hr,hk,hd=>by
   rw[List.reverse_cons] at hk hd;rw[zF] at hd;have ne:∀{x:Str},(ks.reverse++[x]).isEmpty=false:=λ{x}=>by cases ks.reverse<;>rfl
   have la:∀{x:Str},(ks.reverse++[x]).getLast?.getD ""=x:=λ{x}=>by simp
   have dl:∀{x:Str},(ks.reverse++[x]).dropLast=ks.reverse:=λ{x}=>by simp
   have mE:∀{x:Str},x≠"if"->bJ "end" (ks.reverse++[x])=true:=λ{x} hx=>by
    unfold bJ;rw[Nz (by rw[ne];decide),Nz (by decide +kernel),Nz (by decide +kernel),ND rfl,la,NH hx];rfl
   have lE:∀{x:Str},eV "end" (ks.reverse++[x])=ks.reverse:=λ{x}=>by
    unfold eV;rw[Nz (λz=>by rw[ne] at z;exact Ny z (by decide +kernel)),Nz (by decide +kernel),ND rfl,dl]
   unfold f7 at hd;by_cases h:k="if"
   ·rw[ND h] at hd;obtain⟨r1,k1,d1⟩:=mJ hr (v:="else") (vs:="end"::dJ ks.reverse) hd (by decide +kernel) (by
     rw[hk];unfold bJ;rw[Nz (by rw[ne];decide),Nz (by decide +kernel),ND rfl,la,decide_eq_true h])
    have e1:eV "else" (NU (rx ws n))=ks.reverse++[("else":Str)]:=by
     rw[hk];unfold eV;rw[Nz (λz=>by rw[ne] at z;exact Ny z (by decide +kernel)),ND rfl,dl]
    rw[e1] at k1;obtain⟨r2,k2,d2⟩:=mJ r1 (v:="end") (vs:=dJ ks.reverse) d1 (by decide +kernel) (by rw[k1];exact mE (by decide +kernel));rw[k1,lE] at k2;exact gW ks (n+1+1) r2 k2 d2
   ·rw[Nz h] at hd;obtain⟨r1,k1,d1⟩:=mJ hr (v:="end") (vs:=dJ ks.reverse) hd (by decide +kernel) (by rw[hk];exact mE h);rw[hk,lE] at k1;exact gW ks (n+1) r1 k1 d1
def c8 (x:Str):Bool:= !decide (x="do")&& !decide (x="call")
def PJ (ws:Ht)(m0 op:Ht):Ht:=if ws.isEmpty then["part","name","end"] else ws++(m0++dJ (op.filter c8))
inductive nE (ws:Ht) (y:fu):Ht->Ht->Prop
 | may (h:y.w<ws.length) (hm:bJ (NR ws y) (NU y)=false):nE ws y ["name"] (NU y)
 | nm (h:y.w<ws.length) (hm:bJ (NR ws y) (NU y)=true) (hn:NR ws y∈named) (hb:y.w+1=ws.length∨eI (ws.getD (y.w+1) "")=false):nE ws y ["name"] (NU y++[NR ws y])
 | fin (h:y.w=ws.length):nE ws y [] (NU y)
theorem sk (k:Str):(f7 k).length<=2:=by unfold f7;split<;>decide
abbrev rp:Stmt:=top lq
abbrev C7:Ht:=["_law_words","_law_at","_law_opened","_law_more","_law_word"]
theorem A8:bq C7 ["_law_words"] (ak rp):=OT
def FZ:cB:=λK ps T=>∃(ws:Ht)(n:Nat)(m0 op:Ht),ps=[⟨ag ae,ws⟩]/\Gi ws/\bU ws n/\nE ws (rx ws n) m0 op/\T=bM K (ag ae) (· =PJ ws m0 op)
theorem DC (M:cm K mg)(CR:aH P w K mg base "_law_read" 2 (aG BS K))(F:cY K "_law_closing" "_law_closing" rp f fd)(hm:mg "_law_closing"=some (.ref f))(hb:Binds K fd ["_law_words"] []):aH P w K mg base "_law_closing" 3 (aG FZ K):=by
 have nd:=A8.nd;have Ph:Ir [("_law_one":Str)]:=by decide
 refine h9 (k:=2) F A8 hm hb (λqs T ⟨_,_,_,_,e,_⟩=>by rw[e];rfl) (λNK A outer s H E qs T hr hS=>?_);obtain⟨ws,n,m0,op,rfl,W,OF,hX,rfl⟩:=hS;have wl:=W.l;have opl:op.length<=2000/\m0.length<=1:=by
  obtain⟨_,a,b,_⟩:=cz ws n;have kl:(NU (rx ws n)).length=(rx ws n).O.length:=HU _;cases hX with
  | may h _=>exact⟨by omega,by decide⟩
  | nm h _ _ _=>exact⟨by rw[HV,IB];omega,by decide⟩
  | fin h=>exact⟨by omega,by decide⟩
 have fl:∀{o1:Ht},o1.length<=2000->((o1.filter c8).reverse).length<=2000:=λ{o1} h=>by rw[IT];exact JJ (IA _ _) h
 have ckl:∀(xs:Ht),(xs.flatMap f7).length<=2*xs.length:=λxs=>fF sk xs;have key:∀(e1:Ent)(N:Ga->Prop),WS (aT cW P w K mg base C7 "_law_closing" (ak rp) f NK A outer s H E).bV ((ba rp).drop 3) [.im (ag ae) ws,e1,.im (ag ae) op,.mu ae m0,.no] N (bM K (ag ae) (· =PJ ws m0 op)):=λe1 N=>by
  refine bL (N1:=λΓ=>∃m1 o1:Ht,Γ=[.im (ag ae) ws,e1,.im (ag ae) o1,.mu ae m1,.no]/\m1.length<=2/\o1.length<=2000/\ws++(m1++dJ (o1.filter c8))=PJ ws m0 op) (aP (aw da (cj M.len (aa 0 rfl)) ah) (λh=>?_) (λh=>aI ?_)) ?_
  ·have h:(ws.length:Int)=0:=NF h;have h0:ws=[]:=Jk.mp (by omega);refine aj (cD 3 (r:=ae) (ys:=["part","name"]) (aE (au aq (au aq aK)) (by show 2<=Ke;decide)) ?_);refine ao (aL 2 (y:=[("part":Str)]) (aO.im (aE (r:=ae) (au aq aK) (by show 1<=Ke;decide))) ⟨_,_,rfl,by decide,by decide,?_⟩);rw[h0];show _=[("part":Str),"name","end"];decide +kernel
  ·have h:¬(ws.length:Int)=0:=NG h;refine⟨m0,op,rfl,by omega,by omega,?_⟩;unfold PJ;rw[Nz (λz=>h (by rw[Jf.mp z];rfl))]
  rintro _ ⟨m1,o1,rfl,ml,ol,he⟩;have hl:=fl ol;have hx:((o1.filter c8).map λx=>x).reverse=(o1.filter c8).reverse:=by rw[List.map_id']
  refine bL (N1:=λΓ=>∃e4,Γ=[.im (ag ae) ws,e1,.im (ag ae) o1,.mu ae (m1++dJ (o1.filter c8)),e4]) (dj (λi Γ=>∃e4,Γ=[.im (ag ae) ws,e1,.im (ag ae) o1,.mu ae (m1++((o1.filter c8).reverse.take i).flatMap f7),e4]) (uK M.reversed (aO.im (cy (own:=["_law_one"]) (fr:=[]) (ix:=[]) (ra:=ae) (rb:=ae) (p:=c8) (f:=λx=>x) (bY (so:=ak rp) (N0:=C7) rfl rfl (λx h=>bC h) (by decide +kernel)) (cZ (aa 2 rfl))
   (λC s H ex=>bB 0) (λx=>⟨.inr rfl,trivial⟩) (λC' s H ex c hc=>eo (TW.tv (cR (aw jY (aa 0 rfl) aq) (λ_=>cI (aw jY (aa 0 rfl) aq))))) (λC' s H ex o ho _=>aa 0 rfl)))) (bB 4) ⟨_,by rw[List.take_zero,List.flatMap_nil,Ip]⟩ (λi x Γ hi hΓ=>?_) (λΓ hΓ=>?_)) ?_
  ·obtain⟨e4,rfl⟩:=hΓ;rw[hx] at hi;have il:=(HW.mp hi).1;have c1:=ckl ((o1.filter c8).reverse.take i);rw[Im] at c1;have Qm:m1++((o1.filter c8).reverse.take (i+1)).flatMap f7=m1++((o1.filter c8).reverse.take i).flatMap f7++f7 x:=by
    rw[IK,hi,Jq,IQ];simp
   rw[Qm];have c2:(m1++((o1.filter c8).reverse.take i).flatMap f7).length<=5000:=by rw[HV];omega
   generalize m1++((o1.filter c8).reverse.take i).flatMap f7=mm at c2;change WS _ _ [.im (ag ae) ws,e1,.im (ag ae) o1,.mu ae mm,.im ae x] _ _;refine bL (N1:=λΓ=>∃m2:Ht,Γ=[.im (ag ae) ws,e1,.im (ag ae) o1,.mu ae m2,.im ae x]/\m2.length<=5001/\m2++[("end":Str)]=mm++f7 x) (aP (aw bW (aa 4 rfl) aq) (λh=>?_) (λh=>aI ⟨mm,rfl,by omega,?_⟩)) ?_
   ·refine ao (cb 3 aq rfl rfl (JN c2 (by decide)) ⟨_,rfl,by rw[HV];exact Nat.succ_le_succ c2,?_⟩);unfold f7;rw[ND (NF h),IQ];rfl
   ·unfold f7;rw[Nz (NG h)]
   rintro _ ⟨m2,rfl,c3,e3⟩;refine ao (cb 3 aq rfl rfl (JN c3 (by decide)) ⟨.im ae x,?_⟩);rw[← e3];rfl
  ·obtain⟨e4,rfl⟩:=hΓ;rw[hx,Je];exact⟨e4,rfl⟩
  rintro _ ⟨e4,rfl⟩;have c4:(m1++dJ (o1.filter c8)).length<=5000:=by
   have:=ckl (o1.filter c8).reverse;unfold dJ;rw[HV];omega
  refine WS.freeze 3 rfl (aM (by omega)) ?_;exact ao (aN (aO.im (bF (aa 0 rfl) (aa 3 rfl) (aM (by omega)))) he)
 cases hX with
 | may h hm=>
   refine aj (gP 1 2 (ax CR hr (af (aa 0 rfl) av) ⟨ws,n,rfl,W,OF,.may h hm⟩) ?_);refine aj (cD 3 (r:=ae) (ys:=[]) (aE aK (JM _)) ?_);exact aj (aP (aw uU (aa 1 rfl) cF) (λ_=>ao (cb 3 aq rfl rfl (by decide) (key _ _))) (λh=>Ny h (by decide)))
 | nm h hm hn hb=>
   refine aj (gP 1 2 (ax CR hr (af (aa 0 rfl) av) ⟨ws,n,rfl,W,OF,.nm h hm hn hb⟩) ?_);refine aj (cD 3 (r:=ae) (ys:=[]) (aE aK (JM _)) ?_);exact aj (aP (aw uU (aa 1 rfl) cF) (λ_=>ao (cb 3 aq rfl rfl (by decide) (key _ _))) (λh=>Ny h (by decide)))
 | fin h=>
   refine aj (gP 1 2 (ax CR hr (af (aa 0 rfl) av) ⟨ws,n,rfl,W,OF,.fin h⟩) ?_);refine aj (cD 3 (r:=ae) (ys:=[]) (aE aK (JM _)) ?_);exact aj (aP (aw xC (aa 1 rfl) cF) (λh=>Ny h (by decide)) (λ_=>aI (key _ _)))
abbrev mD:Ht:=["part","end","do","call","if","else","while","leave","back","","A","Do","a1","abcdefghi"]
abbrev pK:Ht:=["a-b","_","7",">","doo","en","parts","elsE","abcdefgh","a","zz","x~","("]
abbrev eX:Ht:=mD++pK
def kN (n:Int):Str:=eX.getD (n%(eX.length:Int)).toNat ""
def x9 (w:Str):Bool:=(decide (w.length<=9)&&decide (32∉w.cps.toList))&&w.cps.toList.all λc=>decide (c<128)
theorem zP:eX.all x9=true:=by decide +kernel
theorem vJ (n:Int):cJ (kN n):=by
 have hn:(n%(eX.length:Int)).toNat<eX.length:=by
  have h1:=HS n (show(eX.length:Int)≠0 by decide);have h2:=HR n (show(0:Int)<(eX.length:Int) by decide);omega
 have:=IZ.mp zP _ (getD_in (d:=("":Str)) hn);unfold x9 at this;rw[HF,HF] at this;exact⟨NF this.1.1,NF this.1.2,λc hc=>NF (IZ.mp this.2 c hc)⟩
abbrev Ca:Stmt:=top rh
abbrev nOD:Ht:=["_law_number","_law_words"]
theorem Dt:bq nOD ["_law_number"] (ak Ca):=OT
def AM:cB:=λK ps T=>∃n:Int,ps=[⟨ai,n⟩]/\T=bM K ae (· =kN n)
theorem D6 (M:cm K mg)(F:cY K "_law_odd" "_law_odd" Ca f fd)(hm:mg "_law_odd"=some (.ref f))(hb:Binds K fd ["_law_number"] []):aH P w K mg base "_law_odd" 1 (aG AM K):=by
 have nd:=Dt.nd;refine h9 F Dt hm hb (λqs T ⟨_,e,_⟩=>by rw[e];rfl) (λNK A outer s H E qs T hr hS=>?_);obtain⟨n,rfl,rfl⟩:=hS;have z:∀m:Nat,m<=100->m<=Ke:=λm h=>JJ h (by decide);refine @aj (X:=_) (Γ:=_) (N:=_) (T:=_) (st:=_) (rest:=_) (h:=@aL (X:=_) (Γ:=_) (Γ1:=_) (α:=_) (N:=_) (T:=_) (i:=1) (x:=_) (p1:=_) (pos:=_) (e:=_) (r:=ag ae) (y:=mD) (he:=@aO.im (X:=_) (Γ:=_) (Γ1:=_) (α:=_) (e:=_) (r:=ae) (ys:=mD) (h:=@aE (X:=_) (Γ:=_) (Γ1:=_) (α:=_) (es:=_) (pos:=_) (r:=ae) (ys:=mD) (h:=@mX _ _ _ mD ?_) (hz:=z _ (by simp)))) (h:=?_) (hN:=nd) (hi:=rfl) (hx:=by first | exact J3 rfl | exact J2 rfl) (hs:=rfl) (hf:=by first | exact .inl rfl | exact .inr rfl))
 ·repeat' first | exact trivial | refine⟨⟨_,_,rfl⟩,?_⟩
 refine @aj (X:=_) (Γ:=_) (N:=_) (T:=_) (st:=_) (rest:=_) (h:=@aL (X:=_) (Γ:=_) (Γ1:=_) (α:=_) (N:=_) (T:=_) (i:=1) (x:=_) (p1:=_) (pos:=_) (e:=_) (r:=ag ae) (y:=eX) (he:=@aO.im (X:=_) (Γ:=_) (Γ1:=_) (α:=_) (e:=_) (r:=ae) (ys:=eX) (h:=@bF (X:=_) (Γ:=_) (Γ1:=_) (Γ2:=_) (α:=_) (a:=_) (b:=_) (pos:=_) (r:=ae) (xs:=mD) (ys:=pK) (ha:=aa 1 rfl) (hb:=@aO.im (X:=_) (Γ:=_) (Γ1:=_) (α:=_) (e:=_) (r:=ae) (ys:=pK) (h:=@aE (X:=_) (Γ:=_) (Γ1:=_) (α:=_) (es:=_) (pos:=_) (r:=ae) (ys:=pK) (h:=@mX _ _ _ pK ?_) (hz:=z _ (by simp)))) (hz:=z _ (by simp)))) (h:=?_) (hN:=nd) (hi:=rfl) (hx:=by first | exact J3 rfl | exact J2 rfl) (hs:=rfl) (hf:=by first | exact .inl rfl | exact .inr rfl))
 ·repeat' first | exact trivial | refine⟨⟨_,_,rfl⟩,?_⟩
 change WS _ _ [aR n,.im (ag ae) eX] _ _;have h1:=HS n (show(eX.length:Int)≠0 by decide);have h2:=HR n (show(0:Int)<(eX.length:Int) by decide);exact ao (aN (bc (aa 1 rfl) (bZ (aa 0 rfl) (cj M.len (aa 1 rfl)) (by decide)) (aV (xs:=eX) (i:=n%(eX.length:Int)) "" h1 h2)) rfl)
theorem t8.woa (h:t8 x):cJ x:=⟨Nat.le_succ_of_le h.l8,λz=>by have:=(h.az _ z).1;omega,λc z=>by have:=(h.az _ z).2;omega⟩
theorem cq {w:Str}(h:x9 w=true):cJ w:=by
 unfold x9 at h;rw[HF,HF] at h;exact⟨NF h.1.1,NF h.1.2,λc hc=>NF (IZ.mp h.2 c hc)⟩
theorem er {a b:Ht}(ha:∀w∈a,cJ w)(hb:∀w∈b,cJ w):∀w∈a++b,cJ w:=λw hw=>(Ij.mp hw).elim (ha w) (hb w)
theorem e9 (h:cJ x):∀w∈[x],cJ w:=λw hw=>by rw[HX.mp hw];exact h
theorem gU {y:Str}(h:cJ x)(h':cJ y):∀w∈[x,y],cJ w:=λw hw=>by
 rcases Ih.mp hw with rfl | hw
 ·exact h
 ·rw[HX.mp hw];exact h'
structure BN (i:Nat)(ws ks:Ht):Prop where
 l:ws.length<=2*i
 w:∀w∈ws,cJ w
 kl:ks.length<=i
 k:∀w∈ks,cJ w
abbrev FD:Stmt:=top oK
abbrev nGR:Ht:=["_law_script","_law_start","_law_opened","_law_words","_law_k","_law_number","_law_way","_law_name_here"]
def FY:cB:=λK ps T=>∃ns:Hs,ps=[⟨bI,ns⟩,⟨ai,0⟩]/\yt ns/\T=bM K (ag ae) (λws=>ws.length<=120/\∀w∈ws,cJ w)
theorem DY (M:cm K mg)(CM:aH P w K mg base "_law_mixed" 1 (aG yg K))(CN:aH P w K mg base "_law_name" 1 (aG Fv K))(CO:aH P w K mg base "_law_odd" 1 (aG AM K))(Df:Def K mg "_law_grown" FD ["_law_script","_law_start"]):aH P w K mg base "_law_grown" 2 (aG FY K):=by
 refine bw (N:=nGR) Df (λf NK A outer s H E qs T nd hr hS=>?_);obtain⟨ns,rfl,hs,rfl⟩:=hS;have mb:=iV ns 0;obtain⟨m,hmm,ml⟩:∃m:Nat,N6 ns 0%60=(m:Int)/\m<60:=⟨(N6 ns 0%60).toNat,by omega,by omega⟩;have z2:2<=Ke:=by decide
 change WS _ _ [.im bI ns,aR 0,.no,.no,.no,.no,.no,.no] _ _;refine aj (cD 2 (r:=ae) (ys:=[]) (aE aK (JM _)) ?_);refine aj (cD 3 (r:=ae) (ys:=[]) (aE aK (JM _)) ?_);refine bL (N1:=λΓ=>∃ws ks e4 e5 e6 e7,Γ=[.im bI ns,aR 0,.mu ae ks,.mu ae ws,e4,e5,e6,e7]/\BN m ws ks) (dj (λi Γ=>∃ws ks e4 e5 e6 e7,Γ=[.im bI ns,aR 0,.mu ae ks,.mu ae ws,e4,e5,e6,e7]/\BN i ws ks) (xs:=ups 0 (m:Int).toNat) (eF M.range (EV.cast (bZ (ax CM hr (af (aa 0 rfl) (af (aa 1 rfl) av)) ⟨ns,0,rfl,hs,by decide,by decide,rfl⟩) ah (by decide)) hmm) ⟨by omega,by omega⟩) (bB 4) ⟨[],[],_,_,_,_,rfl,⟨JI _,(λw h=>by cases h),JI _,(λw h=>by cases h)⟩⟩ (λi j Γ hj hΓ=>?_) (λΓ hΓ=>?_)) ?_
 ·obtain⟨ws,ks,e4,e5,e6,e7,rfl,g⟩:=hΓ;obtain⟨jl,ej⟩:=iB hj;have jl:i<m:=by omega
  obtain rfl:j=(i:Int):=by omega
  have gl:=g.l;have gk:=g.kl;change WS _ _ [.im bI ns,aR 0,.mu ae ks,.mu ae ws,aR (i:Int),e5,e6,e7] _ _;refine aj (aL 5 (y:=N6 ns (0+1+(i:Int))) (ax CM hr (af (aa 0 rfl) (af (br (br (aa 1 rfl) ah) (aa 4 rfl)) av)) ⟨ns,_,rfl,hs,by omega,by omega,rfl⟩) ?_);have nb:=iV ns (0+1+(i:Int));generalize N6 ns (0+1+(i:Int))=nu at nb;refine aj (aL 6 (y:=nu/24%11) (bZ (gL (aa 5 rfl) ah ⟨by decide,by decide⟩) ah (by decide)) ?_);refine aj (aL 7 (y:=Od (nu/264)) (ax CN hr (af (gL (aa 5 rfl) ah ⟨by decide,by decide⟩) av) ⟨nu/264,rfl,by omega,by omega,rfl⟩) ?_);have nw:=(xv (nu/264)).woa;have y0:0<=nu/24%11:=by omega
  have y1:nu/24%11<11:=by omega
  generalize Od (nu/264)=na at nw;generalize hway:nu/24%11=way at y0 y1;change WS _ _ [.im bI ns,aR 0,.mu ae ks,.mu ae ws,aR (i:Int),aR nu,aR way,.im ae na] _ _;have ext:∀(v:Ht)(ks':Ht)(e4 e5 e6 e7:Ent),v.length<=2->(∀w∈v,cJ w)->ks'.length<=i+1->(∀w∈ks',cJ w)->∃ws' RH e4' e5' e6' e7',([.im bI ns,aR 0,.mu ae ks',.mu ae (ws++v),e4,e5,e6,e7]:Ga)=[.im bI ns,aR 0,.mu ae RH,.mu ae ws',e4',e5',e6',e7']/\BN (i+1) ws' RH:=λv ks' e4 e5 e6 e7 vl vw kl kw=>⟨_,_,_,_,_,_,rfl,⟨by rw[HV];omega,er g.w vw,kl,kw⟩⟩;have zw:ws.length<Ke:=JN (show _<=1000 by omega) (by decide);have zk:ks.length<Ke:=JN (show _<=1000 by omega) (by decide);refine ao (aP (aw da (bZ (aa 5 rfl) ah (by decide)) ah) (λh=>?_) (λh=>?_))
  ·exact ao (cb 3 (ax CO hr (af (gL (aa 5 rfl) ah ⟨by decide,by decide⟩) av) ⟨_,rfl,rfl⟩) rfl rfl zw (ext [kN (nu/24)] ks _ _ _ _ (by simp) (e9 (vJ _)) (by omega) g.k))
  refine ao (aP (aw da (jQ 2 M.len rfl) ah) (λh=>?_) (λh=>?_))
  ·refine WS.freeze 3 rfl (JT zw) ?_;refine aj (cD 3 (r:=ae) (ys:=ws++[("part":Str),na]) (bF (aa 3 rfl) (aO.im (aE (r:=ae) (au aq (au (aa 7 rfl) aK)) z2)) (aM (by simp;omega))) ?_);exact ao (cb 2 aq rfl rfl zk (ext [("part":Str),na] (ks++[("part":Str)]) _ _ _ _ (by simp) (gU (cq (by decide +kernel)) nw) (by simp;omega) (er g.k (e9 (cq (by decide +kernel))))))
  have N2:ks≠[]:=λz=>(NG h) (by rw[z];rfl);have hla:=iN N2;refine ao (aP (aw fM (aa 6 rfl) ah) (λh=>?_) (λh1=>?_))
  ·have h:way<2:=NF h;have hx:∃x:Str,cC (["do","call"]:Ht) way=some x/\cJ x:=by
    rcases(show way=0∨way=1 by omega) with rfl | rfl
    ·exact⟨"do",rfl,cq (by decide +kernel)⟩
    ·exact⟨"call",rfl,cq (by decide +kernel)⟩
   obtain⟨x,hx,xw⟩:=hx;refine WS.freeze 3 rfl (JT zw) ?_;exact ao (cD 3 (r:=ae) (ys:=ws++[x,na]) (bF (aa 3 rfl) (aO.im (aE (r:=ae) (au (bc (aO.im (aE (r:=ae) (au aq (au aq aK)) z2)) (aa 6 rfl) hx) (au (aa 7 rfl) aK)) z2)) (aM (by simp;omega))) (ext [x,na] ks _ _ _ _ (by simp) (gU xw nw) (by omega) g.k))
  have h1:¬way<2:=NG h1;refine ao (aP (aw fM (aa 6 rfl) ah) (λh=>?_) (λh2=>?_))
  ·have h:way<5:=NF h;have hx:∃x:Str,cC (["if","while","if"]:Ht) (way-2)=some x/\cJ x:=by
    rcases(show way=2∨way=3∨way=4 by omega) with rfl | rfl | rfl
    ·exact⟨"if",rfl,cq (by decide +kernel)⟩
    ·exact⟨"while",rfl,cq (by decide +kernel)⟩
    ·exact⟨"if",rfl,cq (by decide +kernel)⟩
   obtain⟨x,hx,xw⟩:=hx;refine aj (cb 2 (bc (aO.im (aE (r:=ae) (au aq (au aq (au aq aK))) (by show 3<=Ke;decide))) (lH (aa 6 rfl) ah) hx) rfl rfl zk ?_);refine WS.freeze 3 rfl (JT zw) ?_;refine ao (cD 3 (r:=ae) (ys:=ws++[x,na]) (bF (aa 3 rfl) (aO.im (aE (r:=ae) (au (iK 2 (xs:=ks++[x]) (cX ah) rfl rfl (by rw[iN (by simp)];simp)) (au (aa 7 rfl) aK)) z2)) (aM (by simp;omega))) (ext [x,na] (ks++[x]) _ _ _ _ (by simp) (gU xw nw) (by simp;omega) (er g.k (e9 xw))))
  have h2:¬way<5:=NG h2;refine ao (aP (TW.tv (gy (aw da (aa 6 rfl) ah) (λ_=>fZ (TW.tv (cR (aw da (aa 6 rfl) ah) (λ_=>cI (TV.OG (uL (i:=2) rfl (JT zk)) (aw my aq (aa 2 rfl))))))))) (λh=>?_) (λh3=>?_))
  ·have hx:∃x:Str,cC (["back","leave"]:Ht) (way-5)=some x/\cJ x:=by
    rcases HH.mp h with h | h
    ·have h:way=5:=NF h;subst h;exact⟨"back",rfl,cq (by decide +kernel)⟩
    ·have h:way=6:=NF (HK.mp h).1;subst h;exact⟨"leave",rfl,cq (by decide +kernel)⟩
   obtain⟨x,hx,xw⟩:=hx;exact ao (cb 3 (bc (aO.im (aE (r:=ae) (au aq (au aq aK)) z2)) (lH (aa 6 rfl) ah) hx) rfl rfl zw (ext [x] ks _ _ _ _ (by simp) (e9 xw) (by omega) g.k))
  refine ao (aP (aw bW (iK 2 (cX ah) rfl rfl hla) aq) (λh=>?_) (λh=>?_))
  ·obtain⟨x1,x2⟩:=qD N2;refine aj (cb 3 aq rfl rfl zw ?_);refine ao (mS 2 (y:=("else":Str)) aq (cX ah) rfl rfl x1 ?_);rw[x2];exact ext [("else":Str)] (ks.dropLast++[("else":Str)]) _ _ _ _ (by simp) (e9 (cq (by decide +kernel))) (by rw[HV,Jg];simp;omega) (er (λw q=>g.k w ((Jd _).mem q)) (e9 (cq (by decide +kernel))))
  ·refine aj (cb 3 aq rfl rfl zw ?_);exact ao (jB (lU 2 rfl (nW N2)) (ext [("end":Str)] ks.dropLast _ _ _ _ (by simp) (e9 (cq (by decide +kernel))) (by rw[Jg];omega) λw q=>g.k w ((Jd _).mem q)))
 ·obtain⟨ws,ks,e4,e5,e6,e7,rfl,g⟩:=hΓ;rw[cL] at g;exact⟨ws,ks,e4,e5,e6,e7,rfl,g⟩
 rintro _ ⟨ws,ks,e4,e5,e6,e7,rfl,g⟩;have gl:=g.l;refine WS.freeze 3 rfl (aM (by omega)) ?_;exact ao (aN (aa 3 rfl) ⟨by omega,g.w⟩)
variable {r:Rw}
section
variable {d:Nat}{tl:Ht}
theorem Af {k:Str}(h:k∈NX):c8 k=true:=by
 simp only[NX,Ih,Il,or_false] at h;rcases h with rfl | rfl | rfl | rfl<;>decide +kernel
theorem oN (ws:Ht):∀i,∀x∈NU (rx ws i),c8 x=true
 | 0,x,h=>by cases h
 | i+1,x,h=>by
   obtain⟨a,_,_,d⟩:=cz ws i;have e:NU (rx ws (i+1))=_:=yv (y:=rx ws i) (k:=NR ws (rx ws i)) (n:=ws.getD ((rx ws i).w+1) "") (by rw[a];exact d);rw[e] at h;rcases Ij.mp h with z | z
   ·split at z
    ·exact oN ws i x ((Jd _).mem z)
    ·exact oN ws i x z
   ·split at z
    ·next q=>rw[HX.mp z];exact Af q
    ·cases z
theorem vy (h:∀x∈ks,c8 x=true):ks.filter c8=ks:=II.mpr h
theorem kU (h:j<ws.length):(ws++vs).getD j ""=ws.getD j "":=by
 rw[HY,HY,IF h]
theorem n8 {m:Nat}(h:j<m):(ws.take m).getD j ""=ws.getD j "":=by
 rw[HY,HY,List.getElem?_take,ND h]
theorem iC (ks:Ht):ks.reverse.reverse=ks:=List.reverse_reverse _
theorem AJ (hr:bU ws n)(hw:(rx ws n).w=ws.length):∃n',bU (ws++dJ (NU (rx ws n))) n'/\(rx (ws++dJ (NU (rx ws n))) n').O=[]/\(ws++dJ (NU (rx ws n))).length<=(rx (ws++dJ (NU (rx ws n))) n').w:=by
 generalize hv:dJ (NU (rx ws n))=vs;have hc:∀j,j<ws.length->(ws++vs).getD j ""=ws.getD j "":=λj h=>kU h;have e:=eG hc n (by omega);refine gW (NU (rx ws n)).reverse n (eA hc (by rw[HV];omega) (by omega) hr) (by rw[e,iC]) ?_;rw[e,iC,hw,hv,drop_left]
theorem Ew {k:Str}(hm:bJ k ks=true)(hn:k∈named)(hk:∀x∈ks,c8 x=true):(ks++[k]).filter c8=eV k ks:=by
 rw[Js,vy hk];rcases ji hm with⟨rfl,rfl⟩ | ⟨h1,h2⟩
 ·decide +kernel
 ·have h1:¬ks.isEmpty=true:=λz=>h1 (Jf.mp z);unfold eV;rcases h2 with⟨_,rfl⟩ | ⟨_,rfl⟩ | ⟨_,rfl⟩ | rfl | rfl | rfl | rfl | rfl
  ·exact Ny hn (by decide +kernel)
  ·exact Ny hn (by decide +kernel)
  ·exact Ny hn (by decide +kernel)
  ·rw[Nz (λz=>z.elim h1 (by decide +kernel)),Nz (by decide +kernel),Nz (by decide +kernel),show[("do":Str)].filter c8=[] by decide +kernel,Ip]
  ·rw[Nz (λz=>z.elim h1 (by decide +kernel)),Nz (by decide +kernel),Nz (by decide +kernel),show[("call":Str)].filter c8=[] by decide +kernel,Ip]
  ·rw[ND (.inr (.inl rfl)),show[("if":Str)].filter c8=[("if":Str)] by decide +kernel]
  ·rw[ND (.inr (.inr rfl)),show[("while":Str)].filter c8=[("while":Str)] by decide +kernel]
  ·exact Ny hn (by decide +kernel)
theorem EZ (hr:bU ws n)(hw:(rx ws n).w+1=ws.length)(hm:bJ (NR ws (rx ws n)) (NU (rx ws n))=true)(hn:NR ws (rx ws n)∈named):∃cl n',cl=ws++([("name":Str)]++dJ ((NU (rx ws n)++[NR ws (rx ws n)]).filter c8))/\bU cl n'/\(rx cl n').O=[]/\cl.length<=(rx cl n').w:=by
 rw[Ew hm hn (oN ws n)];generalize hv:dJ (eV (NR ws (rx ws n)) (NU (rx ws n)))=vs;refine⟨ws++([("name":Str)]++vs),?_⟩;have hc:∀j,j<ws.length->(ws++([("name":Str)]++vs)).getD j ""=ws.getD j "":=λj h=>kU h;have Rg:(ws++([("name":Str)]++vs)).length=ws.length+1+vs.length:=by simp;omega
 have e:=eG hc n (by omega);have ek:NR (ws++([("name":Str)]++vs)) (rx ws n)=NR ws (rx ws n):=hc _ (by omega);have en:(ws++([("name":Str)]++vs)).getD ((rx ws n).w+1) ""="name":=by
  rw[hw,HY,IE (JI _),Nat.sub_self];rfl
 have r0:=eA hc (by omega) (by omega) hr;obtain⟨a,_,_,d⟩:=cz ws n;have r1:bU (ws++([("name":Str)]++vs)) (n+1):=λi hi=>by
  rcases JO i n with z | z
  ·exact r0 i z
  ·obtain rfl:i=n:=by omega
   rw[e];exact⟨by omega,by rw[ek];exact hm,λ_=>⟨by omega,by rw[en];decide +kernel⟩⟩
 have hs:rx (ws++([("name":Str)]++vs)) (n+1)=O5 (NR ws (rx ws n)) "name" (rx ws n):=by
  show ko _ (rx (ws++([("name":Str)]++vs)) n)=_;rw[e];unfold ko;rw[ek,en]
 have hk:NU (rx (ws++([("name":Str)]++vs)) (n+1))=eV (NR ws (rx ws n)) (NU (rx ws n)):=by rw[hs];exact oR (by rw[a];exact d) hm
 have hw2:(rx (ws++([("name":Str)]++vs)) (n+1)).w=ws.length+1:=by
  rw[hs];show(rx ws n).w+(if NR ws (rx ws n)∈named then 2 else 1)=_;rw[ND hn];omega
 obtain⟨n',q⟩:=gW (eV (NR ws (rx ws n)) (NU (rx ws n))).reverse (n+1) r1 (by rw[hk,iC]) (by
  rw[hw2,iC,hv,show ws++([("name":Str)]++vs)=(ws++[("name":Str)])++vs by simp,show ws.length+1=(ws++[("name":Str)]).length by simp,drop_left])
 exact⟨n',rfl,q⟩
def nR (ws:Ht):Prop:=∃n,bU ws n/\rx ws n=⟨(rx ws n).S,[],ws.length⟩
theorem yK:∀{n:Nat},bU ws n->(rx ws n).w<=ws.length
 | 0,_=>JM _
 | n+1,h=>by
   obtain⟨a,_,c⟩:=h n (JQ n);rw[kS];split
   ·next q=>have:=(c q).1;omega
   ·omega
theorem mj (hr:bU ws n)(ho:(rx ws n).O=[])(hl:ws.length<=(rx ws n).w):nR ws:=by
 refine⟨n,hr,?_⟩;have:=yK hr;have e:(rx ws n).w=ws.length:=by omega
 generalize rx ws n=y at ho e;obtain⟨S,O,w⟩:=y;dsimp only at ho e;rw[ho,e]
theorem C3 (ws:Ht)(n:Nat):(NU (rx ws n)).filter c8=NU (rx ws n):=vy (oN ws n)
theorem BC:nR ["part","name","end"]:=by
 refine mj (n:=2) (λi hi=>?_) (by decide +kernel) (by decide +kernel);rcases(show i=0∨i=1 by omega) with rfl | rfl
 ·exact⟨by decide +kernel,by decide +kernel,λ_=>⟨by decide +kernel,by decide +kernel⟩⟩
 ·exact⟨by decide +kernel,by decide +kernel,λh=>Ny h (by decide +kernel)⟩
theorem Av {k:Int}(hr:bU ws n)(hb:dW ws (rx ws n) k):∃m:Nat,k=(m:Int)/\m<=ws.length/\∃(n':Nat)(m0 op:Ht),bU (ws.take m) n'/\nE (ws.take m) (rx (ws.take m) n') m0 op/\nR (PJ (ws.take m) m0 op)/\op.length<=m/\m0.length<=1/\∀w∈m0,w=("name":Str):=by
 have hc:∀{m:Nat} j,j<m->(ws.take m).getD j ""=ws.getD j "":=λ{m} j h=>n8 h;have kl:(NU (rx ws n)).length=(rx ws n).O.length:=HU _;obtain⟨_,i1,i2,_⟩:=cz ws n;have key:(rx ws n).w<=ws.length->∃(n':Nat)(m0 op:Ht),bU (ws.take (rx ws n).w) n'/\nE (ws.take (rx ws n).w) (rx (ws.take (rx ws n).w) n') m0 op/\nR (PJ (ws.take (rx ws n).w) m0 op)/\op.length<=(rx ws n).w/\m0.length<=1/\∀w∈m0,w=("name":Str):=λhl=>by
  have vl:(ws.take (rx ws n).w).length=(rx ws n).w:=by rw[Im];omega
  have e:=eG (ws':=ws.take (rx ws n).w) hc n (JI _);have r1:bU (ws.take (rx ws n).w) n:=eA hc (by omega) (JI _) hr;refine⟨n,[],NU (rx (ws.take (rx ws n).w) n),r1,.fin (by rw[e,vl]),?_,by rw[e,kl];omega,by decide,λw h=>by cases h⟩;unfold PJ;by_cases h0:(ws.take (rx ws n).w).isEmpty=true
  ·rw[ND h0];exact BC
  ·rw[Nz h0,C3,List.nil_append];obtain⟨n'',q1,q2,q3⟩:=AJ r1 (by rw[e,vl]);exact mj q1 q2 q3
 cases hb with
 | may h hm=>exact⟨(rx ws n).w,rfl,by omega,key (by omega)⟩
 | more h ho=>exact⟨(rx ws n).w,by omega,by omega,key (by omega)⟩
 | nm h hm hn hb=>
   refine⟨(rx ws n).w+1,by omega,by omega,n,[("name":Str)],NU (rx ws n)++[NR ws (rx ws n)],?_,?_,?_,by rw[HV,IB];omega,by decide,λw h=>HX.mp h⟩
   ·exact eA (m:=(rx ws n).w+1) hc (by rw[Im];omega) (by omega) hr
   all_goals
    have vl:(ws.take ((rx ws n).w+1)).length=(rx ws n).w+1:=by rw[Im];omega
    have e:=eG (ws':=ws.take ((rx ws n).w+1)) (m:=(rx ws n).w+1) hc n (by omega);have r1:bU (ws.take ((rx ws n).w+1)) n:=eA (m:=(rx ws n).w+1) hc (by omega) (by omega) hr;have ek:NR (ws.take ((rx ws n).w+1)) (rx ws n)=NR ws (rx ws n):=hc _ (by omega);generalize ws.take ((rx ws n).w+1)=vs at vl e r1 ek
   ·have:=nE.nm (ws:=vs) (y:=rx ws n) (by omega) (by rw[ek];exact hm) (by rw[ek];exact hn) (.inl (by omega));rw[ek] at this;rw[e];exact this
   ·unfold PJ;rw[Nz (λz=>by rw[Jf.mp z] at vl;exact Ny vl (by simp))];obtain⟨cl,n'',rfl,q1,q2,q3⟩:=EZ (ws:=vs) (n:=n) r1 (by rw[e];omega) (by rw[e,ek];exact hm) (by rw[e,ek];exact hn);rw[e,ek] at q1 q2 q3;exact mj q1 q2 q3
theorem Bg:∀w∈dJ ks,cJ w:=λw h=>by
 obtain⟨k,_,h⟩:=JA.mp h;unfold f7 at h;split at h
 ·exact gU (cq (by decide +kernel)) (cq (by decide +kernel)) w h
 ·exact e9 (cq (by decide +kernel)) w h
theorem y9 (ks:Ht):(dJ ks).length<=2*ks.length:=by
 have:=fF sk ks.reverse;unfold dJ;rw[IT] at this;exact this
theorem wa {m0 op:Ht}{l:Nat}(hw:∀w∈ws,cJ w)(hl:ws.length<=240)(ho:op.length<=241)(hm:m0.length<=1)(hn:∀w∈m0,w=("name":Str)):eT (PJ ws m0 op):=by
 unfold PJ;by_cases h0:ws.isEmpty=true
 ·rw[ND h0];refine⟨by simp,by decide,λw h=>?_⟩;rcases Ih.mp h with rfl | h
  ·exact cq (by decide +kernel)
  ·exact gU (cq (by decide +kernel)) (cq (by decide +kernel)) w h
 ·rw[Nz h0];have fl:(op.filter c8).length<=241:=JJ (IA _ _) ho;have:=y9 (op.filter c8);refine⟨λz=>h0 (by rw[(Jv.mp z).1];rfl),by rw[HV,HV];omega,er hw (er (λw h=>by rw[hn w h];exact cq (by decide +kernel)) Bg)⟩
def cA (d:Nat)(tl:Ht):Ht:=[("part":Str),"a"]++((HZ d [("while":Str),"b"]).flatten++tl)
theorem jT (d:Nat):((HZ d [("while":Str),"b"]).flatten).length=2*d:=by
 induction d with
 | zero=>rfl
 | succ d ih=>rw[ID,I0,HV,ih];simp;omega
theorem iL:(cA d tl).length=2+2*d+tl.length:=by
 unfold cA;rw[HV,HV,jT];simp;omega
theorem pV:∀(i d:Nat)(tl:Ht),i<d->((HZ d [("while":Str),"b"]).flatten++tl).drop (2*i)=("while":Str)::("b":Str)::((HZ (d-i-1) [("while":Str),"b"]).flatten++tl)
 | _,0,_,h=>by omega
 | 0,d+1,tl,_=>by rw[ID,I0];rfl
 | i+1,d+1,tl,h=>by
   have:=pV i d tl (by omega);rw[ID,I0,show 2*(i+1)=2*i+1+1 by omega];show((HZ d [("while":Str),"b"]).flatten++tl).drop (2*i)=_;rw[this,show d+1-(i+1)-1=d-i-1 by omega]
theorem DJ (h:i<d):(cA d tl).getD (2+2*i) ""="while"/\(cA d tl).getD (2+2*i+1) ""="b":=by
 have e:(cA d tl).drop (2+2*i)=("while":Str)::("b":Str)::((HZ (d-i-1) [("while":Str),"b"]).flatten++tl):=by
  rw[show 2+2*i=2*i+1+1 by omega];exact pV i d tl h
 obtain⟨_,e1,e2⟩:=mH e;obtain⟨_,e3,_⟩:=mH e2;exact⟨e1,e3⟩
theorem sy:(cA d tl).drop (2+2*d)=tl:=by
 have:[("part":Str),"a"]++(HZ d [("while":Str),"b"]).flatten++tl=cA d tl:=by unfold cA;rw[IQ]
 rw[← this,show 2+2*d=([("part":Str),"a"]++(HZ d [("while":Str),"b"]).flatten).length by rw[HV,jT];rfl,drop_left]
abbrev rK (i:Nat):Ht:=("part":Str)::HZ i ("while":Str)
theorem Eu:rK i++[("while":Str)]=rK (i+1):=by
 show("part":Str)::(HZ i ("while":Str)++[("while":Str)])=_;rw[← List.replicate_succ']
theorem jV {d:Nat}{tl:Ht}:∀i,i<=d->bU (cA d tl) (i+1)/\NU (rx (cA d tl) (i+1))=rK i/\(rx (cA d tl) (i+1)).w=2+2*i/\NR (cA d tl) (rx (cA d tl) i)=(if i=0 then("part":Str) else "while")/\(cA d tl).getD ((rx (cA d tl) i).w+1) ""=(if i=0 then("a":Str) else "b")
 | 0,_=>by
   have hl:=iL (d:=d) (tl:=tl);refine⟨λi hi=>?_,rfl,rfl,rfl,rfl⟩;obtain rfl:i=0:=by omega
   exact⟨by show 0<_;omega,by rfl,λ_=>⟨by show 0+1<_;omega,by show eI ("a":Str)=true;decide +kernel⟩⟩
 | i+1,h=>by
   obtain⟨h1,h2,h3,_⟩:=jV (d:=d) (tl:=tl) i (by omega);obtain⟨e1,e2⟩:=DJ (d:=d) (tl:=tl) (i:=i) (by omega);have hl:=iL (d:=d) (tl:=tl);have ek:NR (cA d tl) (rx (cA d tl) (i+1))="while":=by show(cA d tl).getD _ ""=_;rw[h3];exact e1
   have en:(cA d tl).getD ((rx (cA d tl) (i+1)).w+1) ""="b":=by rw[h3];exact e2
   have hm:bJ "while" (NU (rx (cA d tl) (i+1)))=true:=by rw[h2];unfold bJ;rw[Nz (λz=>by cases z),Nz (by decide +kernel),Nz (by decide +kernel),Nz (by decide +kernel)];decide +kernel
   obtain⟨a,_,_,dd⟩:=cz (cA d tl) (i+1);refine⟨λj hj=>?_,?_,?_,by rw[Nz (by omega)];exact ek,by rw[Nz (by omega)];exact en⟩
   ·rcases JO j (i+1) with z | z
    ·exact h1 j z
    ·obtain rfl:j=i+1:=by omega
     exact⟨by rw[h3];omega,by rw[ek];exact hm,λ_=>⟨by rw[h3];omega,by rw[en];decide +kernel⟩⟩
   ·show NU (O5 (NR (cA d tl) (rx (cA d tl) (i+1))) _ (rx (cA d tl) (i+1)))=_;rw[ek,oR (by rw[a];exact dd) hm,h2];unfold eV;rw[ND (.inr (.inr rfl))];exact Eu
   ·rw[kS,ek,ND (by decide +kernel),h3];omega
theorem qB (hl:2+2*d+tl.length<=1000)(ht:∀w∈tl,cJ w):eT (cA d tl):=by
 refine⟨by unfold cA;simp,by rw[iL];exact hl,?_⟩;unfold cA;refine er (gU (cq (by decide +kernel)) (cq (by decide +kernel))) (er (λw h=>?_) ht);obtain⟨l,h1,h2⟩:=List.mem_flatten.mp h;rw[List.eq_of_mem_replicate h1] at h2;exact gU (cq (by decide +kernel)) (cq (by decide +kernel)) w h2
theorem Ag:bU (cA d []) (d+1)/\dW (cA d []) (rx (cA d []) (d+1)) ((cA d []).length:Int):=by
 obtain⟨h1,h2,h3,_⟩:=jV (d:=d) (tl:=[]) d (JI _);refine⟨h1,.more (by rw[h3,iL];rfl) λz=>?_⟩;have:NU (rx (cA d []) (d+1))=[]:=by unfold NU;rw[z];rfl
 rw[this] at h2;cases h2
abbrev aU (d:Nat):Ht:=cA d (HZ (d+1) ("end":Str))
theorem uE:∀n:Nat,(HZ n ("while":Str)).flatMap f7=HZ n ("end":Str)
 | 0=>rfl
 | n+1=>by rw[ID,List.flatMap_cons,uE n];rfl
theorem D7 (d:Nat):dJ (rK d)=HZ (d+1) ("end":Str):=by
 unfold dJ rK;rw[List.reverse_cons,List.reverse_replicate,Jq,uE,List.replicate_succ'];rfl
theorem z0:∃n,bU (aU d) n/\rx (aU d) n=⟨fS (aU d) n,[],(aU d).length⟩:=by
 obtain⟨h1,h2,h3,_⟩:=jV (d:=d) (tl:=HZ (d+1) ("end":Str)) d (JI _);obtain⟨n,q1,q2,q3⟩:=gW (ws:=aU d) (rK d).reverse (d+1) h1 (by rw[iC];exact h2) (by rw[iC,h3,sy,D7]);exact mj q1 q2 q3
theorem fP (hr:bU (aU d) n)(hi:i<n):aF (fS (aU d) n) (i:Int)=if i=0 then "part" else if i<=d then "while" else "end":=by
 rw[xR hi];by_cases h:i<=d
 ·have:=(jV (d:=d) (tl:=HZ (d+1) ("end":Str)) i h).2.2.2.1;rw[this];by_cases h0:i=0
  ·rw[ND h0,ND h0]
  ·rw[Nz h0,Nz h0,ND h]
 ·rw[Nz (by omega),Nz h];obtain⟨_,_,h3,_⟩:=jV (d:=d) (tl:=HZ (d+1) ("end":Str)) d (JI _);have mono:∀j k,(rx (aU d) j).w<=(rx (aU d) (j+k)).w:=by
   intro j k
   induction k with
   | zero=>exact JI _
   | succ k ih=>
     have e:=kS (aU d) (j+k);rw[show j+(k+1)=j+k+1 by omega,e];split<;>omega
  have hm:=mono (d+1) (i-(d+1));rw[show d+1+(i-(d+1))=i by omega,h3] at hm;have hw:=(hr i hi).w;have hl:(aU d).length=2+2*d+(d+1):=by rw[iL,Iz]
  show(aU d).getD (rx (aU d) i).w ""=_;have e:(aU d).getD (rx (aU d) i).w ""=((aU d).drop (2+2*d)).getD ((rx (aU d) i).w-(2+2*d)) "":=by
   rw[HY,HY,List.getElem?_drop,show 2+2*d+((rx (aU d) i).w-(2+2*d))=(rx (aU d) i).w by omega]
  rw[e,sy,HY,IW,ND (by omega)];rfl
theorem oZ (h:i<n):((fS ws n).getD i bN).word=((rx ws i).w:Int):=by rw[wA h];rfl
theorem wg {s:bO}(hG:kx s):∀i,∃fd wt,nC s i=(fd,wt)/\F2 s fd wt/\(3*(s.S.length-fd.length)+wt.length+i<=nG s∨wt=[])/\(∀n∈fd,∀l∈s.Ld.getD n.toNat [],l∈fd∨l∈wt)/\(∀p∈s.parts,p.2.1∈fd∨p.2.1∈wt)
 | 0=>⟨[],s.parts.map (·.2.1),rfl,⟨List.nodup_nil,(λn h=>by cases h),λn h=>by
    obtain⟨p,hp,rfl⟩:=Io.mp h;exact hG.pv p hp⟩,.inl (by rw[HU];show 3*(s.S.length-0)+s.parts.length+0<=3*s.S.length+s.parts.length;omega),(λn h=>by cases h),λp hp=>.inr (Io.mpr ⟨p,hp,rfl⟩)⟩
 | i+1=>by
   obtain⟨fd,wt,e,hC,hm,hf,hp⟩:=wg hG i;have Oj:nC s (i+1)=ky s (fd,wt):=by show ky s (nC s i)=_;rw[e]
   by_cases N2:wt=[]
   ·subst N2;exact⟨fd,[],by rw[Oj];rfl,hC,.inr rfl,hf,hp⟩
   ·obtain⟨wi,n,rfl⟩:∃l x,wt=l++[x]:=⟨wt.dropLast,wt.getLast N2,(Iq N2).symm⟩;have hm:=hm.resolve_right N2;have hc:ky s (fd,wi++[n])=if n∈fd then(fd,wi) else(fd++[n],wi++s.Ld.getD n.toNat []):=by
     unfold ky;simp
    rw[hc] at Oj;rw[HV,IB] at hm;obtain⟨n0,n1⟩:=hC.wv n (Ie _ (HX.mpr rfl));obtain⟨Rg,N4⟩:=hG.li;by_cases Po:n∈fd
    ·rw[ND Po] at Oj;have mv:∀{l:Int},l∈fd∨l∈wi++[n]->l∈fd∨l∈wi:=λ{l} h=>by
      rcases h with h | h
      ·exact .inl h
      ·rcases Ij.mp h with h | h
       ·exact .inr h
       ·rw[HX.mp h];exact .inl Po
     exact⟨fd,wi,Oj,⟨hC.nd,hC.fv,λx hx=>hC.wv x (Ik _ hx)⟩,.inl (by omega),λm hm l hl=>mv (hf m hm l hl),λp q=>mv (hp p q)⟩
    ·rw[Nz Po] at Oj;have Qn:s.Ld.getD n.toNat []∈s.Ld:=getD_in (by omega);have h2:=hG.l2 _ Qn;have SD:∀x∈fd++[n],0<=x/\x<(s.S.length:Int):=λx hx=>by
      rcases Ij.mp hx with z | z
      ·exact hC.fv x z
      ·rw[HX.mp z];exact⟨n0,n1⟩
     have fl2:=jH s.S.length (fd++[n]) (iA hC.nd Po) SD;have mv:∀{l:Int},l∈fd∨l∈wi++[n]->l∈fd++[n]∨l∈wi++s.Ld.getD n.toNat []:=λ{l} h=>by
      rcases h with h | h
      ·exact .inl (Ik _ h)
      ·rcases Ij.mp h with h | h
       ·exact .inr (Ik _ h)
       ·exact .inl (Ie _ h)
     refine⟨fd++[n],wi++s.Ld.getD n.toNat [],Oj,⟨iA hC.nd Po,SD,λx hx=>?_⟩,.inl ?_,λm hm l hl=>?_,λp q=>mv (hp p q)⟩
     ·rcases Ij.mp hx with z | z
      ·exact hC.wv x (Ik _ z)
      ·exact N4 _ Qn x z
     ·rw[HV,IB] at fl2 ⊢;rw[HV];omega
     ·rcases Ij.mp hm with z | z
      ·exact mv (hf m z l hl)
      ·rw[HX.mp z] at hl;exact .inr (Ie _ hl)
theorem uJ (hG:kx s):(∀n∈dR s,∀l∈s.Ld.getD n.toNat [],l∈dR s)/\∀p∈s.parts,p.2.1∈dR s:=by
 obtain⟨fd,wt,e,hC,hm,hf,hp⟩:=wg hG (nG s);have hw:wt=[]:=by
  rcases hm with hm | hm
  ·exact Jk.mp (by omega)
  ·exact hm
 subst hw;have:dR s=fd:=by unfold dR;rw[e]
 rw[this];exact⟨λn h l hl=>(hf n h l hl).resolve_right (λz=>by cases z),λp h=>(hp p h).resolve_right (λz=>by cases z)⟩
theorem Fi:∀(m:Nat)(l:Hs),(∀i:Nat,i<m->(i:Int)+1∈l)->m<=l.length
 | 0,_,_=>JM _
 | m+1,l,h=>by
   have h0:=h m (JQ m);have:=Fi m (l.erase ((m:Int)+1)) λi hi=>(List.mem_erase_of_ne (by omega)).mpr (h i (by omega));rw[List.length_erase_of_mem h0] at this;have:0<l.length:=List.length_pos_of_mem h0;omega
theorem yR {k:Int}:(bQ F k).isSome=true↔k∈F.map (·.1):=by
 unfold bQ;rw[J1,List.find?_isSome,Io];constructor
 ·rintro⟨x,h,e⟩;exact⟨x,h,NF e⟩
 ·rintro⟨x,h,e⟩;exact⟨x,h,decide_eq_true e⟩
theorem lG {k:Int}:(∀j∈F.map (·.1),j∈(fA F k).map (·.1))/\k∈(fA F k).map (·.1):=by
 unfold fA;by_cases h:(bQ F k).isSome=true
 ·rw[ND h];exact⟨λj q=>q,yR.mp h⟩
 ·rw[Nz h,IC];exact⟨λj q=>Ik _ q,Ie _ (HX.mpr rfl)⟩
theorem v9 :(∀j∈F.map (·.1),j∈(eM p F r).map (·.1))/\(nB p r=true->r.1∈(eM p F r).map (·.1)):=by
 unfold eM;by_cases h:nB p r=true
 ·rw[ND h];exact⟨λj q=>lG.1 j (lG.1 j q),λ_=>lG.1 _ lG.2⟩
 ·rw[Nz h];exact⟨λj q=>q,λz=>Ny z h⟩
theorem xX {p:d9}:∀(rs:List Rw)(F:Hy),(∀j∈F.map (·.1),j∈(rs.foldl (eM p) F).map (·.1))/\∀r∈rs,nB p r=true->r.1∈(rs.foldl (eM p) F).map (·.1)
 | [],F=>⟨λj h=>h,λr h=>by cases h⟩
 | r::rs,F=>by
   obtain⟨h1,h2⟩:=xX rs (eM p F r);rw[Jw];refine⟨λj h=>h1 j (v9.1 j h),λx hx hi=>?_⟩;rcases Ih.mp hx with rfl | hx
   ·exact h1 _ (v9.2 hi)
   ·exact h2 x hx hi
theorem Bq {St:Hs}(h:r∈eW Ld St z):r.1=z.1/\z.2.kind≠"part"/\z.2.kind≠"end":=by
 obtain⟨y,hy,rfl⟩:=Io.mp h;refine⟨rfl,λe=>?_,λe=>?_⟩
 all_goals
  unfold jm at hy;rw[e] at hy;rw[show∀x:Hs,((ft eQ _).getD []).zip x=([]:List (Str×Int)) from λx=>rfl] at hy;cases hy
end
section
variable {d:Nat}
theorem Al (he:rx (aU d) n=⟨fS (aU d) n,[],(aU d).length⟩):d+1<n:=by
 have hO:(rx (aU d) n).O=[]:=by rw[he]
 have hw:(rx (aU d) n).w=(aU d).length:=by rw[he]
 have hl:(aU d).length=2+2*d+(d+1):=by rw[iL,Iz]
 rcases JO (d+1) n with z | z
 ·exact z
 ·cases n with
  | zero=>rw[hl] at hw;have:(0:Nat)=2+2*d+(d+1):=hw;omega
  | succ j=>
    have h2:=(jV (d:=d) (tl:=HZ (d+1) ("end":Str)) j (by omega)).2.1;have:NU (rx (aU d) (j+1))=[]:=by unfold NU;rw[hO];rfl
    rw[this] at h2;cases h2
theorem rC (hr:bU (aU d) n)(hn:d+1<n)(hk:jL (fS (aU d) n) Ld)(hi:i<=d):((i:Int)+1)∈Ld.getD i []:=by
 have hl:=gf (ws:=aU d) (n:=n);have hL:=hk.ld.2 i (by omega);have kd:=fP hr (i:=i) (by omega);rw[ND hi] at kd;generalize Ld.getD i []=ls at hL;have no:∀{k:Str},aF (fS (aU d) n) (i:Int)=k->k≠"part"->k≠"while"->False:=λh h1 h2=>by
  rw[h] at kd;split at kd
  ·exact h1 kd
  ·exact h2 kd
 cases hL with
 | row h hc=>exact Ic
 | PN h=>exact Ic
 | Pf h hc=>exact(no h (by decide +kernel) (by decide +kernel)).elim
 | Qk h ha hc=>exact(no h (by decide +kernel) (by decide +kernel)).elim
 | Qt h ha hc=>exact(no h (by decide +kernel) (by decide +kernel)).elim
 | Qp h h0 h1 hk=>exact(no h (by decide +kernel) (by decide +kernel)).elim
 | Qq h h0 h1 hk=>exact(no h (by decide +kernel) (by decide +kernel)).elim
 | Qr h h0 h1 hk=>exact(no h (by decide +kernel) (by decide +kernel)).elim
theorem wo (hr:bU (aU d) n)(hn:d+1<n)(h:r∈gu (fS (aU d) n) Ld (dO (fS (aU d) n) Ld)):∃i:Nat,r.1=(i:Int)/\1<=i/\i<=d:=by
 obtain⟨z,hz,OK⟩:=JA.mp h;obtain⟨e1,e2,e3⟩:=Bq OK;obtain⟨i,il,e4,e5⟩:=eN hz;rw[gf] at il;have kd:=fP hr il;have:aF (fS (aU d) n) (i:Int)=z.2.kind:=by rw[← e5];rfl
 rw[this] at kd;refine⟨i,by omega,?_,?_⟩
 ·rcases Nat.eq_zero_or_pos i with q | q
  ·rw[ND q] at kd;exact Ny kd e2
  ·exact q
 ·rcases JO d i with q | q
  ·rw[Nz (by omega),Nz (by omega)] at kd;exact Ny kd e3
  ·exact q
theorem yD (ws:Ht)(n i:Nat):0<=((fS ws n).getD i bN).word:=by
 rcases JO i n with z | z
 ·rw[oZ z];omega
 ·rw[HY,Jx (by rw[gf];exact z)];decide
theorem D2 (h:t∈fS ws n):0<=t.word:=by
 obtain⟨i,hi⟩:=IU.mp h;have:=yD ws n i;rw[HY,hi] at this;exact this
theorem lr (s:bO)(hs:s.S=fS (aU d) n)(h:a∈lV s ps):1<=a:=by
 obtain⟨p,_,rfl⟩:=Io.mp h;rw[hs];have:=yD (aU d) n p.2.1.toNat;show 1<=_+(1:Int);omega
theorem oS (s:bO)(hs:s.S=fS (aU d) n):∀i,∀a∈(Ox s i).1,1<=a
 | 0,a,h=>by cases h
 | i+1,a,h=>by
   cases e:s.S.reverse[i]? with
   | none=>
     have:Ox s (i+1)=Ox s i:=by unfold Ox;rw[IK,e];simp
     rw[this] at h;exact oS s hs i a h
   | some t=>
     have ht:0<=t.word:=D2 (ws:=aU d) (n:=n) (by rw[← hs];exact mem_reverse.mp (Iw e));rw[mZ e] at h;have h:a∈(if vZ (jo (Ox s i).2 t) t=true then(Ox s i).1++[t.word+1] else(Ox s i).1):=h;split at h
     ·rcases Ij.mp h with z | z
      ·exact oS s hs i a z
      ·rw[HX.mp z];omega
     ·exact oS s hs i a h
theorem Dz (hd:17<=d)(hr:bU (aU d) n)(he:rx (aU d) n=⟨fS (aU d) n,[],(aU d).length⟩)(hk:jL (fS (aU d) n) Ld)(hG:kx (cT (fS (aU d) n) Ld)):fz (cT (fS (aU d) n) Ld)≠[]/\least (fz (cT (fS (aU d) n) Ld))=1:=by
 have hn:=Al he;have hl:=gf (ws:=aU d) (n:=n);have k0:aF (fS (aU d) n) ((0:Nat):Int)="part":=fP hr (i:=0) (by omega);have QP:=nA (S:=fS (aU d) n) (i:=0) (by omega);have hp:yJ (fS (aU d) n) (((0:Nat):Int),(fS (aU d) n).getD 0 bN)∈fY (fS (aU d) n):=Io.mpr ⟨_,IM.mpr ⟨QP,decide_eq_true k0⟩,rfl⟩;have hc:(d:Int)<(bQ (eL (fS (aU d) n)) ((0:Nat):Int)).getD 0:=by
  have hs:=hk.pt 0 (by omega) k0;rcases mY (a:=((0:Nat):Int)) (nums (fS (aU d) n)) [] with⟨e,_⟩ | ⟨z,hz,zk,_,zg⟩
  ·have:bQ (eL (fS (aU d) n)) ((0:Nat):Int)=none:=e;rw[this] at hs;cases hs
  ·have zg:bQ (eL (fS (aU d) n)) ((0:Nat):Int)=some z.1:=zg;rw[zg];obtain⟨i,il,e1,e2⟩:=eN hz;have kd:=fP hr (i:=i) (by omega);have:aF (fS (aU d) n) (i:Int)=z.2.kind:=by rw[← e2];rfl
   rw[← this,kd] at zk;show(d:Int)<z.1;rcases JO d i with q | q
   ·omega
   ·by_cases q0:i=0
    ·rw[ND q0] at zk;exact Ny zk (by decide +kernel)
    ·rw[Nz q0,ND q] at zk;exact Ny zk (by decide +kernel)
 generalize hs:cT (fS (aU d) n) Ld=s at hG;have sS:s.S=fS (aU d) n:=by rw[← hs];rfl
 have sP:s.parts=fY (fS (aU d) n):=by rw[← hs];rfl
 have sR:s.rows=gu (fS (aU d) n) Ld (dO (fS (aU d) n) Ld):=by rw[← hs];rfl
 have sL:s.Ld=Ld:=by rw[← hs];rfl
 generalize hpe:yJ (fS (aU d) n) (((0:Nat):Int),(fS (aU d) n).getD 0 bN)=p at hp;have p1:p.2.1=0:=by rw[← hpe];rfl
 have p2:(d:Int)<p.2.2:=by rw[← hpe];exact hc
 obtain⟨c1,c2⟩:=uJ hG;have come:∀i:Nat,i<=d->(i:Int)∈dR s:=by
  intro i
  induction i with
  | zero=>intro _;have:=c2 p (by rw[sP];exact hp);rw[p1] at this;exact this
  | succ i ih=>
    intro hi;have:=c1 (i:Int) (ih (by omega)) ((i:Int)+1) (by rw[sL];exact rC hr hn hk (by omega));rw[show((i+1:Nat):Int)=(i:Int)+1 by omega];exact this
 have lost:kD s=[]:=by
  unfold kD;rw[JC,List.filter_eq_nil_iff];intro r h;rw[sR] at h;obtain⟨i,e,i1,i2⟩:=wo hr hn h;rw[lA,e,decide_eq_true (come i i2)];decide
 have many:(16:Int)<((gG s p).length:Int):=by
  have:=Fi 17 ((gG s p).map (·.1)) λi hi=>by
   have hz:=nA (S:=fS (aU d) n) (i:=i+1) (by omega);have kd:=fP hr (i:=i+1) (by omega);rw[Nz (by omega),ND (by omega)] at kd;have hld:=rC hr hn hk (i:=i+1) (by omega);obtain⟨l,ls,QX⟩:∃l ls,Ld.getD (i+1) []=l::ls:=by
    cases e:Ld.getD (i+1) [] with
    | nil=>rw[e] at hld;cases hld
    | cons l ls=>exact⟨l,ls,rfl⟩
   have hrw:((((i+1:Nat):Int),(dO (fS (aU d) n) Ld).getD l.toNat 0,("yes":Str),((fS (aU d) n).getD (i+1) bN).name):Rw)∈s.rows:=by
    rw[sR];refine JA.mpr ⟨_,hz,Io.mpr ⟨(("yes":Str),l),?_,rfl⟩⟩;unfold jm;have kd:((fS (aU d) n).getD (i+1) bN).kind="while":=kd;show _∈((ft eQ ((fS (aU d) n).getD (i+1) bN).kind).getD []).zip (Ld.getD (i+1) []);rw[kd,QX,show(ft eQ "while").getD []=[("yes":Str),"no"] from rfl,List.zip_cons_cons];exact Ic
   have:=(xX (p:=p) s.rows (dF [(s.St.getD p.2.1.toNat 0,0)] p.2.2 1)).2 _ hrw (by
    unfold nB;rw[decide_eq_true (show p.2.1<((i+1:Nat):Int) by omega),decide_eq_true (show((i+1:Nat):Int)<p.2.2 by omega)];rfl)
   rw[show(i:Int)+1=((i+1:Nat):Int) by omega];exact this
  rw[HU] at this;omega
 have N4:(1:Int)∈fz s:=by
  have h1:(1:Int)∈vA s:=by
   refine Io.mpr ⟨p,IM.mpr ⟨by rw[sP];exact hp,?_⟩,?_⟩
   ·unfold jj px;rw[lost,decide_eq_true many];rfl
   ·rw[p1,sS];show((fS (aU d) n).getD 0 bN).word+1=1;rw[oZ (by omega)];rfl
  unfold fz;exact Ik _ (Ie _ h1)
 refine⟨(λz=>by rw[z] at N4;cases N4),pZ N4 λa ha=>?_⟩
 unfold fz at ha;rcases Ij.mp ha with ha | ha
 ·rcases Ij.mp ha with ha | ha
  ·rcases Ij.mp ha with ha | ha
   ·rcases Ij.mp ha with ha | ha
    ·rcases Ij.mp ha with ha | ha
     ·rcases Ij.mp ha with ha | ha
      ·rcases Ij.mp ha with ha | ha
       ·exact lr s sS ha
       ·exact oS s sS _ a ha
      ·obtain⟨t,ht,rfl⟩:=Io.mp ha;obtain⟨ht,hts⟩:=IM.mp ht;obtain⟨z,hz,rfl⟩:=Io.mp ht;have hz:=(IM.mp hz).1;rw[sS] at hz;obtain⟨i,il,e1,e2⟩:=eN hz;rw[hl] at il;have i0:i≠0:=λq=>by
        have kd:=fP hr il;rw[ND q] at kd;have kz:z.2.kind="part":=by rw[← e2];exact kd
        rw[kz] at hts;exact Ny hts (by decide +kernel)
       rw[← e2,oZ il];have:=(cz (aU d) i).2.1;omega
     ·exact lr s sS ha
    ·exact lr s sS ha
   ·obtain⟨r,OK,rfl⟩:=Io.mp ha;have OK:=Ji OK;rw[sR] at OK;obtain⟨i,e,i1,i2⟩:=wo hr hn OK;rw[e,sS];show 1<=((fS (aU d) n).getD ((i:Int)).toNat bN).word;rw[show((i:Int)).toNat=i by omega,oZ (by omega)];have:=(cz (aU d) i).2.1;omega
  ·exact lr s sS ha
 ·exact lr s sS ha
end
abbrev Fz:Stmt:=top qK
abbrev nDE:Ht:=["_law_script","_law_words","_law_deep_here","_law_caught_here"]
def F7:cB:=λK ps T=>∃ns:Hs,ps=[⟨bI,ns⟩]/\yt ns/\T=bM K aY (· =true)
theorem Es (M:cm K mg)(GP:XG K mg "NoProgram" CP 1)(CM:aH P w K mg base "_law_mixed" 1 (aG yg K))(CC:aH P w K mg base "_law_caught" 9 (aG (SCG CT CP) K))(CR:aH P w K mg base "_law_right" 2 (aG (Aq CT CP) K))(CY:aH P w K mg base "_law_class" 1 (aG (vD "NoProgram" CP 1) K))(CW:aH P w K mg base "_law_whole" 1 (aG Bs K))(Df:Def K mg "_law_deep" Fz ["_law_script"]):aH P w K mg base "_law_deep" 10 (aG F7 K):=by
 have CM:=CM.mono (show 1<=9 by decide);have CR:=CR.mono (show 2<=9 by decide);have CY:=CY.mono (show 1<=9 by decide);have CW:=CW.mono (show 1<=9 by decide);refine bw (N:=nDE) (k:=9) Df (λf NK A outer s H E qs T nd hr hS=>?_);obtain⟨ns,rfl,hs,rfl⟩:=hS;have z2:2<=Ke:=by decide
 have z1:1<=Ke:=by decide
 change WS _ _ [.im bI ns,.no,.no,.no] _ _;have m1:=iV ns 95;obtain⟨d1,hd1,dl1⟩:∃d:Nat,300+N6 ns 95%180=(d:Int)/\d<480:=⟨(300+N6 ns 95%180).toNat,by omega,by omega⟩;have e1:[("part":Str),"a"]++(HZ ((d1:Int)).toNat [("while":Str),"b"]).flatten=cA d1 []:=by unfold cA;rw[Ip,show((d1:Int)).toNat=d1 by omega]
 have W1:=qB (d:=d1) (tl:=[]) (by simp;omega) (λw h=>by cases h);have r1:=jT d1;refine aj (aL 1 (y:=cA d1 []) (EV.cast (aO.im (bF (aO.im (aE (r:=ae) (au aq (au aq aK)) z2)) (aO.im (mV (aO.im (aE (r:=ae) (au aq (au aq aK)) z2)) (EV.cast (br ah (bZ (ax CM hr (af (aa 0 rfl) (af ah av)) ⟨ns,95,rfl,hs,by decide,by decide,rfl⟩) ah (by decide))) hd1) (by omega) (by omega) (aM (by simp;omega)))) (aM (by rw[show((d1:Int)).toNat=d1 by omega,r1];simp;omega)))) e1) ?_);change WS _ _ [.im bI ns,.im (ag ae) (cA d1 []),.no,.no] _ _;obtain⟨o1,o2⟩:=Ag (d:=d1);refine aj (aP (dv (cV (ax (y:=true) CR hr (af (ax CC hr (af (EV.cast (eO aq (aa 1 rfl) W1.join) (dZ _ _)) av) ⟨_,rfl,.inr (.inl ⟨_,.txt ⟨cA d1 [],d1+1,rfl,W1,o1,o2⟩,rfl⟩)⟩) (af (cj M.len (aa 1 rfl)) av)) ⟨.inr (.inr ⟨_,rfl⟩),rfl⟩))) (λh=>Ny h (by decide)) (λ_=>aI ?_));have m2:=iV ns 96;obtain⟨d,hd,dl,dg⟩:∃d:Nat,200+N6 ns 96%130=(d:Int)/\d<330/\200<=d:=⟨(200+N6 ns 96%130).toNat,by omega,by omega,by omega⟩;refine aj (aL 2 (y:=(d:Int)) (EV.cast (br ah (bZ (ax CM hr (af (aa 0 rfl) (af ah av)) ⟨ns,96,rfl,hs,by decide,by decide,rfl⟩) ah (by decide))) hd) ?_);change WS _ _ [.im bI ns,.im (ag ae) (cA d1 []),aR (d:Int),.no] _ _;have e2:[("part":Str),"a"]++(HZ ((d:Int)).toNat [("while":Str),"b"]).flatten++(HZ ((d:Int)+1).toNat [("end":Str)]).flatten=aU d:=by
  unfold aU cA;rw[IQ,List.flatten_replicate_singleton,show((d:Int)).toNat=d by omega,show((d:Int)+1).toNat=d+1 by omega]
 have W2:eT (aU d):=qB (d:=d) (by rw[Iz];omega) (λw h=>by rw[List.eq_of_mem_replicate h];exact cq (by decide +kernel));have r2:=jT d;refine aj (aL 1 (y:=aU d) (EV.cast (aO.im (bF (aO.im (bF (aO.im (aE (r:=ae) (au aq (au aq aK)) z2)) (aO.im (mV (aO.im (aE (r:=ae) (au aq (au aq aK)) z2)) (aa 2 rfl) (by omega) (by omega) (aM (by simp;omega)))) (aM (by rw[show((d:Int)).toNat=d by omega,r2];simp;omega)))) (aO.im (mV (aO.im (aE (r:=ae) (au aq aK) z1)) (br (aa 2 rfl) ah) (by omega) (by omega) (aM (by simp;omega)))) (aM (by rw[HV,List.flatten_replicate_singleton,Iz,show((d:Int)).toNat=d by omega,r2];simp;omega)))) e2) ?_);change WS _ _ [.im bI ns,.im (ag ae) (aU d),aR (d:Int),.no] _ _;obtain⟨n,hn,he⟩:=z0 (d:=d);obtain⟨Ld,hk,hG⟩:=wx W2 hn he;obtain⟨h0,hle⟩:=Dz (by omega) hn he hk hG;have hx:Txt2 (Str.join " " (aU d)) (cT (fS (aU d) n) Ld):=⟨fS (aU d) n,Ld,⟨aU d,n,rfl,W2,hn,he⟩,hk,rfl,hG⟩;have hR:Ref CT CP (Str.join " " (aU d)) (xw CP 1):=by rw[← hle];exact .pro hx h0
 refine aj (aL 3 (y:=(1:Int)) (ax CC hr (af (EV.cast (eO aq (aa 1 rfl) W2.join) (dZ _ _)) av) ⟨_,rfl,.inr (.inr ⟨1,hR,rfl⟩)⟩) ?_);change WS _ _ [.im bI ns,.im (ag ae) (aU d),aR (d:Int),.im (iU CP "word") (1:Int)] _ _;obtain⟨CE,fi,ci,_,_⟩:=GP.ci;obtain⟨cd,NV,_,Ol⟩:=ci.cls;refine ao (aN (iT (dh da (ax CY hr (af (aa 3 rfl) av) ⟨1,rfl,rfl⟩) ah) (λ_=>iT (ax CW hr (af (lX ci.look NV Ol ci.no (aa 3 rfl)) av) ⟨_,rfl,rfl⟩) (λ_=>mz (dh da (lX ci.look NV Ol ci.no (aa 3 rfl)) ah)))) ?_);show(decide (((1:Nat):Int)=1)&&(true&&decide ((1:Int)=1)))=true;decide
theorem Au {a b:Option Int}{x:α}(h:x∈cut xs a b):x∈xs:=Ji (Jy h)
theorem B3 {a b:Option Int}:(cut xs a b).length<=xs.length:=by
 unfold cut;rw[Im,IY];omega
theorem BX (ws:Ht):∃(n:Nat)(m0 op:Ht),bU ws n/\nE ws (rx ws n) m0 op/\op.length<=ws.length/\m0.length<=1/\∀w∈m0,w=("name":Str):=by
 obtain⟨n,hr,h⟩:=qu (ws:=ws);have kl:(NU (rx ws n)).length=(rx ws n).O.length:=HU _;obtain⟨_,i1,i2,_⟩:=cz ws n;have hw:=yK hr;rcases h with⟨h1,_⟩ | ⟨k,hb⟩
 ·exact⟨n,[],_,hr,.fin h1,by omega,by decide,λw h=>by cases h⟩
 ·cases hb with
  | may h hm=>exact⟨n,_,_,hr,.may h hm,by omega,by decide,λw h=>HX.mp h⟩
  | nm h hm hn hb=>exact⟨n,_,_,hr,.nm h hm hn hb,by rw[HV,IB];omega,by decide,λw h=>HX.mp h⟩
  | more h ho=>exact⟨n,[],_,hr,.fin h,by omega,by decide,λw h=>by cases h⟩
theorem si (W:eT ws)(h:nR ws):∃n s,bU ws n/\(rx ws n).w=ws.length/\(rx ws n).O=[]/\Txt2 (Str.join " " ws) s:=by
 obtain⟨n,hn,he⟩:=h;obtain⟨Ld,hk,hG⟩:=wx W hn he;exact⟨n,cT (fS ws n) Ld,hn,by rw[he],by rw[he],⟨fS ws n,Ld,⟨ws,n,rfl,W,hn,he⟩,hk,rfl,hG⟩⟩
abbrev gq:Stmt:=top Cg
abbrev uC:Ht:=["_law_script","_law_words","_law_closed","_law_due","_law_k","_law_more"]
theorem Dk:bq uC ["_law_script"] (ak gq):=OT
def pA:cB:=λK ps T=>∃ns:Hs,ps=[⟨bI,ns⟩]/\ns.length<=63/\(∀n∈ns,intBits n<=2 ^ 20)/\T=bM K aY (· =true)
theorem Ep (M:cm K mg)(CM:aH P w K mg base "_law_mixed" 1 (aG yg K))(CO:aH P w K mg base "_law_odd" 1 (aG AM K))(CD:aH P w K mg base "_law_deep" 10 (aG F7 K))(CG:aH P w K mg base "_law_grown" 2 (aG FY K))(CZ:aH P w K mg base "_law_closing" 3 (aG FZ K))(CC:aH P w K mg base "_law_caught" 9 (aG (SCG CT CP) K))(CW:aH P w K mg base "_law_wrong" 3 (aG FV K))(CR:aH P w K mg base "_law_right" 2 (aG (Aq CT CP) K))(CN:aH P w K mg base "_law_class" 1 (aG SCL K))(CY:aH P w K mg base "_law_class" 1 (aG (vD "NoProgram" CP 1) K))(F:cY K "law" "law" gq f fd):ck P w K mg base cW 11 f fd ["_law_script"] (aG pA K):=by
 have nd:=Dk.nd;have Ph:Ir [("_law_j":Str),"_law_script","_law_k"]:=by decide
 have CM:=CM.mono (show 1<=10 by decide);have CO:=CO.mono (show 1<=10 by decide);have CG:=CG.mono (show 2<=10 by decide);have CZ:=CZ.mono (show 3<=10 by decide);have CC:=CC.mono (show 9<=10 by decide);have CW:=CW.mono (show 3<=10 by decide);have CR:=CR.mono (show 2<=10 by decide);have CN:=CN.mono (show 1<=10 by decide);have CY:=CY.mono (show 1<=10 by decide);refine Bv (k:=10) F Dk (λqs T ⟨_,e,_⟩=>by rw[e];rfl) (λNK A outer s H E qs T hr hS=>?_);obtain⟨ns,rfl,h63,O0,rfl⟩:=hS;have hs:yt ns:=⟨h63,O0⟩;have z1:1<=Ke:=by decide
 have z2:2<=Ke:=by decide
 change WS _ _ [.im bI ns,.no,.no,.no,.no,.no] _ _;refine aj (aP (TV.cast (b':=false) (TW.tv (cR (aw da (bZ (ax CM hr (af (aa 0 rfl) (af ah av)) ⟨ns,97,rfl,hs,by decide,by decide,rfl⟩) ah (by decide)) ah) (λ_=>cI (dv (cV (ax (y:=true) CD hr (af (aa 0 rfl) av) ⟨ns,rfl,hs,rfl⟩)))))) (HM _)) (λh=>Ny h (by decide)) (λ_=>aI ?_));refine aj (zo 1 CG hr (af (aa 0 rfl) (af ah av)) ⟨ns,rfl,hs,rfl⟩ λQd ⟨wl0,wo0⟩=>?_);change WS _ _ [.im bI ns,.im (ag ae) Qd,.no,.no,.no,.no] _ _;refine bL (N1:=λΓ=>∃ws e2,Γ=[.im bI ns,.im (ag ae) ws,e2,.no,.no,.no]/\(ws.length<=120/\(∀w∈ws,cJ w)∨eT ws/\nR ws)) (aP (TW.tv (cR (aw da (bZ (ax CM hr (af (aa 0 rfl) (af ah av)) ⟨ns,70,rfl,hs,by decide,by decide,rfl⟩) ah (by decide)) ah) (λ_=>cI (aw kW (cj M.len (aa 1 rfl)) ah)))) (λ_=>?_) (λ_=>aI ⟨Qd,.no,rfl,.inl ⟨wl0,wo0⟩⟩)) ?_
 ·obtain⟨n,m0,op,OF,hX,ol,ml,mn⟩:=BX Qd;refine aj (aL 2 (y:=PJ Qd m0 op) (ax CZ hr (af (aa 1 rfl) av) ⟨Qd,n,m0,op,rfl,⟨by omega,wo0⟩,OF,hX,rfl⟩) ?_);have W:=wa (ws:=Qd) (op:=op) (m0:=m0) (l:=0) wo0 (by omega) (by omega) ml mn;generalize PJ Qd m0 op=cl at W;change WS _ _ [.im bI ns,.im (ag ae) Qd,.im (ag ae) cl,.no,.no,.no] _ _;rcases nP W with⟨n,hn,he⟩ | ⟨n,k,hn,OC⟩
  ·refine ao (aP (aw hV (ax CW hr (af (aa 2 rfl) av) ⟨cl,n,rfl,W,hn,.inr ⟨by rw[he],by rw[he],rfl⟩⟩) cF) (λ_=>ao (aL 1 (y:=cl) (aa 2 rfl) ⟨cl,_,rfl,.inr ⟨W,n,hn,he⟩⟩)) (λh=>Ny h (by decide)))
  ·refine ao (aP (aw lZ (ax CW hr (af (aa 2 rfl) av) ⟨cl,n,rfl,W,hn,.inl ⟨k,OC,rfl⟩⟩) cF) (λh=>Ny h (by decide)) (λ_=>aI ⟨Qd,_,rfl,.inl ⟨wl0,wo0⟩⟩))
 rintro _ ⟨ws1,e2,rfl,h1⟩;refine bL (N1:=λΓ=>∃ws,Γ=[.im bI ns,.im (ag ae) ws,e2,.no,.no,.no]/\eT ws/\(ws.length<=120∨nR ws)) (aP (aw da (cj M.len (aa 1 rfl)) ah) (λh=>?_) (λh=>aI ⟨ws1,rfl,?_⟩)) ?_
 ·exact ao (aL 1 (y:=[("":Str)]) (aO.im (aE (r:=ae) (au aq aK) z1)) ⟨_,rfl,⟨by simp,by decide,e9 (cq (by decide +kernel))⟩,.inl (by decide)⟩)
 ·have h:¬(ws1.length:Int)=0:=NG h;rcases h1 with⟨a,b⟩ | ⟨a,b⟩
  ·exact⟨⟨λz=>h (by rw[z];rfl),by omega,b⟩,.inl a⟩
  ·exact⟨a,.inr b⟩
 rintro _ ⟨ws,rfl,W,hR⟩;have good:∀N:Ga->Prop,nR ws->WS (aT cW P w K mg base uC "law" (ak gq) f NK A outer s H E).bV ((ba gq).drop 4) [.im bI ns,.im (ag ae) ws,e2,.no,.no,.no] N (bM K aY (· =true)):=λN hR=>by
  obtain⟨n,sp,hn,hw,ho,hx⟩:=si W hR;refine aj (aL 3 (y:=()) (ax CW hr (af (aa 1 rfl) av) ⟨ws,n,rfl,W,hn,.inr ⟨hw,ho,rfl⟩⟩) ?_);change WS _ _ [.im bI ns,.im (ag ae) ws,e2,.im c9 (),.no,.no] _ _;have rest:WS (aT cW P w K mg base uC "law" (ak gq) f NK A outer s H E).bV ((ba gq).drop 6) [.im bI ns,.im (ag ae) ws,e2,.im c9 (),.no,.no] N (bM K aY (· =true)):=by
   exact aj (aP (aw hV (aa 3 rfl) cF) (λ_=>ao (aN fB rfl)) (λh=>Ny h (by decide)))
  by_cases h0:fz sp=[]
  ·refine aj (aP (dv (cV (ax (y:=true) CR hr (af (ax CC hr (af (EV.cast (eO aq (aa 1 rfl) W.join) (dZ _ _)) av) ⟨_,rfl,.inl ⟨_,hx,h0,rfl⟩⟩) (af (aa 3 rfl) av)) ⟨.inl rfl,rfl⟩))) (λh=>Ny h (by decide)) (λ_=>aI rest))
  ·refine aj (aP (dv (cV (ax (y:=true) CR hr (af (ax CC hr (af (EV.cast (eO aq (aa 1 rfl) W.join) (dZ _ _)) av) ⟨_,rfl,.inr (.inr ⟨_,.pro hx h0,rfl⟩)⟩) (af (aa 3 rfl) av)) ⟨.inr (.inl ⟨_,rfl⟩),rfl⟩))) (λh=>Ny h (by decide)) (λ_=>aI rest))
 rcases hR with wl | hR;rotate_left
 ·exact good _ hR
 rcases nP W with hR | ⟨n,k,hn,OC⟩
 ·exact good _ hR
 obtain⟨m,rfl,mle,n',m0,op,OK,hX,Rm,ol,ml,mn⟩:=Av hn OC;refine aj (aL 3 (y:=(m:Int)) (ax CW hr (af (aa 1 rfl) av) ⟨ws,n,rfl,W,hn,.inl ⟨_,OC,rfl⟩⟩) ?_);change WS _ _ [.im bI ns,.im (ag ae) ws,e2,aR (m:Int),.no,.no] _ _;refine aj (aP (dv (cV (ax (y:=true) CR hr (af (ax CC hr (af (EV.cast (eO aq (aa 1 rfl) W.join) (dZ _ _)) av) ⟨_,rfl,.inr (.inl ⟨_,.txt ⟨ws,n,rfl,W,hn,OC⟩,rfl⟩)⟩) (af (aa 3 rfl) av)) ⟨.inr (.inr ⟨_,rfl⟩),rfl⟩))) (λh=>Ny h (by decide)) (λ_=>aI ?_));refine aj (aP (aw lZ (aa 3 rfl) cF) (λh=>Ny h (by decide)) (λ_=>aI ?_));have tl:(ws.take m).length<=120:=by rw[Im];omega
 have tw:∀w∈ws.take m,cJ w:=λw h=>W.w w (Jy h);have Wc:=wa (ws:=ws.take m) (op:=op) (m0:=m0) (l:=0) tw (by omega) (by omega) ml mn;obtain⟨n2,sp,RZ,_,_,hx⟩:=si Wc Rm;have rest:∀N:Ga->Prop,WS (aT cW P w K mg base uC "law" (ak gq) f NK A outer s H E).bV ((ba gq).drop 8) [.im bI ns,.im (ag ae) ws,e2,aR (m:Int),.no,.no] N (bM K aY (· =true)):=λN=>by
  refine aj (aP (aw da (aa 3 rfl) (cj M.len (aa 1 rfl))) (λ_=>ao (aN fB rfl)) (λh=>aI ?_));have h:¬(m:Int)=(ws.length:Int):=NG h;refine bL (N1:=λΓ=>∃e4 e5,Γ=[.im bI ns,.im (ag ae) ws,e2,aR (m:Int),e4,e5]) (dj (λi Γ=>∃e4 e5,Γ=[.im bI ns,.im (ag ae) ws,e2,aR (m:Int),e4,e5]) (xs:=ups 0 3) (eF M.range ah ⟨by decide,by decide⟩) (bB 4) ⟨_,_,rfl⟩ (λi j Γ hj hΓ=>?_) (λΓ hΓ=>hΓ)) ?_
  ·obtain⟨e4,e5,rfl⟩:=hΓ;obtain⟨jl,ej⟩:=iB hj;obtain rfl:j=(i:Int):=by omega
   change WS _ _ [.im bI ns,.im (ag ae) ws,e2,aR (m:Int),aR (i:Int),e5] _ _;have mb:=iV ns (79+4*(i:Int));obtain⟨c,hc,cl⟩:∃c:Nat,N6 ns (79+4*(i:Int))%4=(c:Int)/\c<4:=⟨(N6 ns (79+4*(i:Int))%4).toNat,by omega,by omega⟩;refine aj (lj 5 (own:=["_law_j"]) (fr:=["_law_script","_law_k"]) (ix:=[0,4]) (ra:=ai) (rb:=ae) (p:=λ_=>true) (f:=λj=>kN (N6 ns (80+4*(i:Int)+j))) (bY (so:=ak gq) (N0:=uC) rfl rfl (λx h=>bC h) (by decide +kernel)) (xs:=ups 0 ((c:Int)).toNat) (eF M.range (EV.cast (bZ (ax CM hr (af (aa 0 rfl) (af (br ah (uB ah (aa 4 rfl) (.inl (by decide)))) av)) ⟨ns,_,rfl,hs,by omega,by omega,rfl⟩) ah (by decide)) hc) ⟨by omega,by omega⟩)
    (λC s H ex=>bB 0) (λx=>⟨.inr rfl,.inl rfl,.inl rfl,trivial⟩) (λC s H ex c hc=>eU) (λC s H ex j hj _=>?_) ?_)
   ·obtain⟨q,hq⟩:=IU.mp hj;obtain⟨ql,rfl⟩:=iB hq;have ql:q<4:=by omega
    exact ax CO hr (af (ax CM hr (af (aa 1 rfl) (af (br (br ah (uB ah (aa 2 rfl) (.inl (by decide)))) (aa 0 rfl)) av)) ⟨ns,_,rfl,hs,by omega,by omega,rfl⟩) av) ⟨_,rfl,rfl⟩
   have mol:(((ups 0 ((c:Int)).toNat).filter λ_=>true).map λj=>kN (N6 ns (80+4*(i:Int)+j))).length<=3:=by
    rw[HU];refine JJ (IA _ _) ?_;rw[cL];omega
   have mow:∀w∈(((ups 0 ((c:Int)).toNat).filter λ_=>true).map λj=>kN (N6 ns (80+4*(i:Int)+j))),cJ w:=λw h=>by
    obtain⟨j,_,rfl⟩:=Io.mp h;exact vJ _
   generalize (((ups 0 ((c:Int)).toNat).filter λ_=>true).map λj=>kN (N6 ns (80+4*(i:Int)+j)))=mo at mol mow;refine WS.freeze 5 rfl (aM (by omega)) ?_;change WS _ _ [.im bI ns,.im (ag ae) ws,e2,aR (m:Int),aR (i:Int),.im (ag ae) mo] _ _;have i3:i<3:=jl;have c1:cut ws none (some ((m:Int)+1))=ws.take (m+1):=uV (i:=m+1) (by omega);have c2l:=B3 (xs:=ws) (a:=none) (b:=some (i:Int));have c2w:∀w∈cut ws none (some (i:Int)),cJ w:=λw h=>W.w w (Au h);generalize hu:cut ws none (some (i:Int))=us at c2l c2w;have ul:us.length<=120:=by omega
   have t1:(ws.take (m+1)).length=m+1:=by rw[Im];omega
   have W3:eT (ws.take (m+1)++mo++us):=by
    refine⟨λz=>?_,by rw[HV,HV];omega,er (er (λw h=>W.w w (Jy h)) mow) c2w⟩;have z:=(Jv.mp (Jv.mp z).1).1;rw[z] at t1;cases t1
   obtain⟨b1,b2⟩:=xh (ws':=ws.take (m+1)++mo++us) hn OC (by omega) (by rw[HV,HV];omega) λj hj=>by
    rw[IQ,kU (by omega),n8 hj]
   refine ao (aP (dv (cV (ax (y:=true) CR hr (af (ax CC hr (af (EV.cast (eO aq (EV.cast (aO.im (bF (aO.im (bF (aO.im (dB (aa 1 rfl) d8 (d7 (br (aa 3 rfl) ah)))) (aa 5 rfl) (aM (by rw[c1];omega)))) (aO.im (dB (aa 1 rfl) d8 (d7 (aa 4 rfl)))) (aM (by rw[c1,hu,HV];omega)))) (by rw[c1,hu])) W3.join) (dZ _ _)) av) ⟨_,rfl,.inr (.inl ⟨_,.txt ⟨_,n,rfl,W3,b1,b2⟩,rfl⟩)⟩) (af (aa 3 rfl) av)) ⟨.inr (.inr ⟨_,rfl⟩),rfl⟩))) (λh=>Ny h (by decide)) (λ_=>aI ⟨_,_,rfl⟩))
  rintro _ ⟨e4,e5,rfl⟩;exact ao (aN fB rfl)
 have ct:cut ws none (some (m:Int))=ws.take m:=uV mle;by_cases h0:fz sp=[]
 ·refine aj (aP (TV.cast (b':=false) (aw rZ (ax CN hr (af (ax CC hr (af (EV.cast (eO aq (ax CZ hr (af (EV.cast (aO.im (dB (aa 1 rfl) d8 (d7 (aa 3 rfl)))) ct) av) ⟨ws.take m,n',m0,op,rfl,⟨by omega,tw⟩,OK,hX,rfl⟩) Wc.join) (dZ _ _)) av) ⟨_,rfl,.inl ⟨_,hx,h0,rfl⟩⟩) av) ⟨rfl,rfl⟩) (aO.im (aE (r:=ai) (au (cX ah) (au ah aK)) z2))) (by decide)) (λh=>Ny h (by decide)) (λ_=>aI (rest _)))
 ·refine aj (aP (TV.cast (b':=false) (aw rZ (ax CY hr (af (ax CC hr (af (EV.cast (eO aq (ax CZ hr (af (EV.cast (aO.im (dB (aa 1 rfl) d8 (d7 (aa 3 rfl)))) ct) av) ⟨ws.take m,n',m0,op,rfl,⟨by omega,tw⟩,OK,hX,rfl⟩) Wc.join) (dZ _ _)) av) ⟨_,rfl,.inr (.inr ⟨_,.pro hx h0,rfl⟩)⟩) av) ⟨_,rfl,rfl⟩) (aO.im (aE (r:=ai) (au (cX ah) (au ah aK)) z2))) (by decide)) (λh=>Ny h (by decide)) (λ_=>aI (rest _)))
variable {ns:Addr}{o1:Value}{o2:Option Addr}{o3:Array Hu}{es:Array DictEntry}{o4:Nat}{st:Stmt}{l:Nm}
section
variable {h:Heap}{oc:Value}{od an:Option Addr}{OB:Array Hu}{doc pm ct:Value}
abbrev yF:Stmt:=match top vU with
 | .ClassDef _ _ _ b _ _ _ _ _ _ _=>b.getD 0 (.Pass ⟨0,0,0,0⟩)
 | s=>s
abbrev yj:Stmt:=match top qU with
 | .ClassDef _ _ _ b _ _ _ _ _ _ _=>b.getD 0 (.Pass ⟨0,0,0,0⟩)
 | s=>s
theorem Hi:bq ["self","word"] ["self","word"] (ak yF):=OT
theorem Hc:bq ["self","word"] ["self","word"] (ak yj):=OT
def qp (K:MO)(mg:Hq)(x q:Str)(st:Stmt)(j:Nat):Prop:=∃C CE fI Qo,jE K mg x "word" C CE fI/\cY K "__init__" q st fI Qo/\Binds K Qo ["self","word"] []/\XG K mg x C j
theorem Gw (h:qp K mg "NoText" "NoText.__init__" yF 0):∃C,rY P w K mg base "NoText" C/\XG K mg "NoText" C 0:=by
 obtain⟨C,CE,fI,Qo,ci,FX,bX,G⟩:=h;exact⟨C,⟨CE,fI,Qo,ci,sq ci FX Hi (by decide) rfl (λ_=>rfl) (.inl rfl) (.inl rfl) (by decide) (by decide) (by decide) (by decide),bX⟩,G⟩
theorem G4 (h:qp K mg "NoProgram" "NoProgram.__init__" yj 1):∃C,rY P w K mg base "NoProgram" C/\XG K mg "NoProgram" C 1:=by
 obtain⟨C,CE,fI,Qo,ci,FX,bX,G⟩:=h;exact⟨C,⟨CE,fI,Qo,ci,sq ci FX Hc (by decide) rfl (λ_=>rfl) (.inl rfl) (.inl rfl) (by decide) (by decide) (by decide) (by decide),bX⟩,G⟩
theorem yf (dn:K.lookup ns=some ⟨o1,o2,.dict es o4,o3⟩)(dk:(es.toList.all λe=>match e.key with | .str _ _=>true | _=>false)=true):Nq K ns=true:=by
 unfold Nq;rw[dn];show(es.all _)=true;rw[← Array.all_toList];exact dk
theorem rq {CE:Addr}(q:Nt K CE gp "ValueError.__new__"=true):Ni K gp (.ref CE::gp)=true:=by
 unfold Nt at q;split at q
 ·rename_i dd cd sl ho;split at q
  ·simp only[HF] at q;unfold Ni;dsimp only;rw[ho];dsimp only;have e:Ni K gp gp=true:=rfl;simp only[q.1.2,q.2,e,Bool.and_true,HN]
  ·cases q
 ·cases q
def sO (K:MO)(mg:Hq)(C:Addr)(j:Nat):Nat->Ht->Prop
 | _,[]=>True
 | i,x::xs=>(∃D,mg x=some (.ref D)/\M4 K (.ref C) (.ref D)=some (decide (i=j)))/\sO K mg C j (i+1) xs
theorem qq {K:MO}{mg:Hq}{C:Addr}{j:Nat}:∀{xs:Ht}{i:Nat},sO K mg C j i xs->∀k,k<xs.length->∃D,mg (xs.getD k "")=some (.ref D)/\M4 K (.ref C) (.ref D)=some (decide (i+k=j))
 | _::_,_,h,0,_=>h.1
 | x::xs,i,h,k+1,hk=>by
   have:=qq h.2 k (by simpa using hk);rw[show i+1+k=i+(k+1) by omega] at this;exact this
theorem vt {q:Str}(j:Nat)(hj:j=0∨j=1)(KX:K.In h)(G:h.Ns Ki mg){CE:Addr}{n qn:Str}{kV:Value}{cd:ClassData}{bs:Hw}{dd:Option Addr}{sn sub:_}{ab:Bool}{col:_}{k0 k1 k2 k3 k5:Hu}(e1:MP K Ki x=some (some (.ref C)))(e2:MP K Ki "CountError"=some (some (.ref CE)))(lk:K.lookup C=some ⟨.type "type",dd,.cls {name:=n,bases:=bs,mro:=.ref C:: .ref CE::gp,ns:=ns,qualname:=qn,hasDict:=true,slotNames:=sn,subclasses:=sub,abstract:=ab,collection:=col,hasDel:=false}, #[k0,k1,k2,k3,some (.builtin "ValueError.__new__"),k5]⟩)(dn:K.lookup ns=some ⟨o1,o2,.dict es o4,o3⟩)(dk:(es.toList.all λe=>match e.key with | .str _ _=>true | _=>false)=true)(ni:MP K ns "__init__"=some (some (.ref f)))(q1:Nt K CE gp "ValueError.__new__"=true)(i1:Nh K (.ref f)=true)(kc:MT K (.ref C)=true)(sa:MQ K (.ref C) "__setattr__"=some (some (.builtin "object.__setattr__")))(np:MQ K (.ref C) "word"=some none)(r0:MQ K (.ref C) "__getattribute__"=some (some (.builtin "BaseException.__getattribute__")))(r1:MQ K (.ref C) "__getattr__"=some none)(r2:MQ K (.ref C) "__class__"=some (some (.builtin "object.__class__")))(r3:PySem.W.specialIn K (.builtin "object.__class__") "__get__"=some (some (.builtin "getset_descriptor.__get__")))(r4:PySem.W.takesIn K (.builtin "object.__class__")=some true)(r5:PySem.W.mroIn K C (.type "object")=some true)(r7:PySem.W.subIn K (.ref C) (.type "BaseException")=some true)(r6:Nr K C=some cd)(l1:K.lookup f=some ⟨oc,od,.func (MW "__init__" q (cS st) (ba st) (ak st) .none kV doc pm an NK ct),OB⟩)(x1:M5 K NK q=true)(x2:MT K (.ref f)=true)(q2:Nj K (.ref C) (.ref CE)=some true)(q6:M4 K (.ref C) (.type "ValueError")=some true)(hb:∀(kV doc pm:Value)(an:Option Addr)(NK ct:Value)(us:Hw),us.length=2->LP (MW "__init__" q (cS st) (ba st) (ak st) .none kV doc pm an NK ct) ⟨us,[]⟩=pure ([("self":Str),"word"].zip us))(cs:sO K mg C j 0 CU):qp K mg x q st j:=
 ⟨C,CE,f,_,⟨MU KX G e1,⟨_,_,_,_,_,_,_,_,_,_,_,_,_,_,lk,yf dn dk,ni⟩,rq q1,i1,kc,sa,np,by unfold cU;rw[r0,r1,r2,r3,r4,r5,r7,r6];rfl⟩,eY (st:=st) l1 x1 x2,(eY (st:=st) l1 x1 x2).binds (ps:=["self","word"]) hb,⟨CE,f,⟨MU KX G e1,⟨_,_,_,_,_,_,_,_,_,_,_,_,_,_,lk,yf dn dk,ni⟩,rq q1,i1,kc,sa,np,by unfold cU;rw[r0,r1,r2,r3,r4,r5,r7,r6];rfl⟩,MU KX G e2,q2⟩,λi hi=>by have:=qq cs i hi;rw[Nat.zero_add] at this;exact this,q6,hj⟩
theorem bo (KX:K.In h)(G:h.Ns Ki mg){b:Bool}(a:MP K Ki x=some (some (.ref D)))(k:M4 K (.ref C) (.ref D)=some b)(e:b=decide (i=j)):∃D,mg x=some (.ref D)/\M4 K (.ref C) (.ref D)=some (decide (i=j)):=⟨D,MU KX G a,by rw[k,e]⟩
theorem xJ (KX:K.In h)(G:h.Ns Ki mg)(b1:MP K Ki "isinstance"=some none)(b2:MP K Ki "bool"=some none)(b3:MP K Ki "ValueError"=some none):lF mg:=⟨MR KX G b1,MR KX G b2,MR KX G b3⟩
def uf (K:MO)(mg:Hq):Prop:=∃C fi OE,bh K C ei/\Mk K C fi/\mg "Step"=some (.ref C)/\cY K "__init__" "Step.__init__" ou fi OE/\Binds K OE qr []
def tU (K:MO)(mg:Hq):Prop:=∃C fi OE,bh K C dM/\Mk K C fi/\mg "Spots"=some (.ref C)/\cY K "__init__" "Spots.__init__" mh fi OE/\Binds K OE ki []
structure Top (P:Kh)(w:World)(K:MO)(mg:Hq):Prop where
 M:cm K mg
 M2:fU K mg
 M3:jd mg
 M6:lF mg
 XT:qp K mg "NoText" "NoText.__init__" yF 0
 XP:qp K mg "NoProgram" "NoProgram.__init__" yj 1
 RW:jb P w K mg "ROW_WORDS" eQ
 SC:uf K mg
 PC:tU K mg
 MX:Def K mg "_law_mixed" xU ["_law_script","_law_k"]
 NM:Def K mg "_law_name" FG ["_law_number"]
 IN:Def K mg "is_name" Ce ["word"]
 NB:Def K mg "name_behind" yn ["words","word"]
 MS:Def K mg "may_stand" Gb ["kind","opened"]
 RD:Def K mg "read" gR ["text"]
 CS:Def K mg "closing_steps" F6 ["steps"]
 AR:Def K mg "around" F8 ["steps","number","kind"]
 LF:Def K mg "leads_from" Ge ["steps","closing","number"]
 LI:Def K mg "leads_in" AW ["steps"]
 PI:Def K mg "parts_in" AS ["steps"]
 ST:Def K mg "stands_in" Gf ["steps","leads"]
 RI:Def K mg "rows_in" FT ["steps","leads","stands"]
 NW:Def K mg "name_words" Cw ["spots","parts"]
 NA:Def K mg "named_again" yE ["spots"]
 CA:Def K mg "called_astray" Fy ["spots"]
 CT:Def K mg "come_to" x4 ["spots"]
 NC:Def K mg "not_come_to" ye ["spots"]
 NL:Def K mg "not_called" yc ["spots"]
 EB:Def K mg "ended_at_begin" Aw ["spots"]
 RB:Def K mg "rows_beyond" BK ["spots"]
 PL2:Def K mg "places_in" BP ["spots","part"]
 PY:Def K mg "places_beyond" yh ["spots"]
 PB:Def K mg "parts_beyond" Fo ["spots"]
 HI:Def K mg "hindrances" FW ["spots"]
 NP:Def K mg "need_program" yk ["text"]
 LK:Def K mg "looked" xV ["text"]
 OD:Def K mg "_law_odd" Ca ["_law_number"]
 LN:Def K mg "_law_is_name" BO ["_law_word"]
 LR:Def K mg "_law_read" x5 ["_law_words"]
 LW:Def K mg "_law_wrong" B6 ["_law_words"]
 WH:Def K mg "_law_whole" Ft ["_law_told"]
 CL:Def K mg "_law_class" yI ["_law_caught_here"]
 CG:Def K mg "_law_caught" Gd ["_law_text"]
 RT:Def K mg "_law_right" Ao ["_law_caught_here","_law_due"]
 GR:Def K mg "_law_grown" FD ["_law_script","_law_start"]
 CZ:Def K mg "_law_closing" rp ["_law_words"]
 DE:Def K mg "_law_deep" Fz ["_law_script"]
theorem By (T:Top P w K mg)(F:cY K "law" "law" gq f fd):ck P w K mg base cW 11 f fd ["_law_script"] (aG pA K):=by
 have M:=T.M;have M2:=T.M2;have M3:=T.M3;have M6:=T.M6;obtain⟨XT,ET,GT⟩:=Gw (P:=P) (w:=w) (base:=base) T.XT;obtain⟨XP,EP,GQ⟩:=G4 (P:=P) (w:=w) (base:=base) T.XP;obtain⟨C,fi,OE,HC,MK,hMg,FI,bi⟩:=T.SC;obtain⟨D,fj,fdj,HD,MD,hMd,FJ,bj⟩:=T.PC;have GS:j3 P w K mg base C:=⟨HC,⟨fi,OE,MK,Er HC FI,bi⟩,hMg⟩;have MX:=ED (P:=P) (w:=w) (base:=base) M T.MX;have NM:=DZ (P:=P) (w:=w) (base:=base) M T.NM;have IN:=E8 (P:=P) (w:=w) (base:=base) M M2 T.IN;obtain⟨_,_,F1,m1,b1⟩:=T.NB;have NB:=Eg (P:=P) (w:=w) (base:=base) M IN T.NB;have NBD:=C1 (P:=P) (w:=w) (base:=base) M ET IN F1 m1 b1;have MS:=EI (P:=P) (w:=w) (base:=base) M2 T.MS;obtain⟨_,_,F1,m1,b1⟩:=T.RD;have RD:=Eh (P:=P) (w:=w) (base:=base) M M2 GS MS NB T.RD;have RDD:=Dq (P:=P) (w:=w) (base:=base) M M2 GS ET MS NB NBD F1 m1 b1;have CS:=Eb (P:=P) (w:=w) (base:=base) M M2 HC T.CS;have AR:=DX (P:=P) (w:=w) (base:=base) HC T.AR;have LF:=E6 (P:=P) (w:=w) (base:=base) HC AR T.LF;have LI:=Ed (P:=P) (w:=w) (base:=base) M CS LF T.LI;have PI:=Ek (P:=P) (w:=w) (base:=base) M HC CS T.PI;have ST:=EC (P:=P) (w:=w) (base:=base) M HC T.RW T.ST;have RI:=Dy (P:=P) (w:=w) (base:=base) M HC T.RW T.RI;have GD:uy P w K mg base XT D:=⟨⟨fj,fdj,MD,Dj RDD FJ,bj⟩,hMd⟩;have GP:lW P w K mg base C D:=⟨HD,⟨fj,fdj,MD,Eo HD RD PI LI ST RI FJ,bj⟩,hMd⟩;have NW:=DH (P:=P) (w:=w) (base:=base) HC HD T.NW;have NA:=EE (P:=P) (w:=w) (base:=base) M HD NW T.NA;have CA:=D4 (P:=P) (w:=w) (base:=base) M HC HD T.CA;obtain⟨_,_,F1,m1,b1⟩:=T.CT;have CT:=ES (P:=P) (w:=w) (base:=base) (C:=C) M HD F1 m1 b1;have NC:=Dx (P:=P) (w:=w) (base:=base) M M2 HC HD CT T.NC;have NL:=DD (P:=P) (w:=w) (base:=base) M HC HD NW T.NL;have EB:=DW (P:=P) (w:=w) (base:=base) HD NW T.EB;have RB:=Ej (P:=P) (w:=w) (base:=base) M3 HC HD T.RB;have PL2:=AU (P:=P) (w:=w) (base:=base) (C:=C) M M3 HD T.PL2;have PY:=DN (P:=P) (w:=w) (base:=base) M M3 HD NW CT PL2 T.PY;have PB:=DG (P:=P) (w:=w) (base:=base) M3 HD NW T.PB;have HI:=DL (P:=P) (w:=w) (base:=base) NA CA NC NL EB RB PY PB T.HI;obtain⟨_,_,F1,m1,b1⟩:=T.NP;have NP:=DF (P:=P) (w:=w) (base:=base) GP HI T.NP;have NPD:=Dh (P:=P) (w:=w) (base:=base) M.min GP GD EP HI F1 m1 b1;obtain⟨_,_,F1,m1,b1⟩:=T.LK;have LK:=Dw (P:=P) (w:=w) (base:=base) NP T.LK;have LKD:=BU (P:=P) (w:=w) (base:=base) NPD F1 m1 b1;obtain⟨_,_,F1,m1,b1⟩:=T.OD;have OD:=D6 (P:=P) (w:=w) (base:=base) M F1 m1 b1;have LN:=D8 (P:=P) (w:=w) (base:=base) M T.LN;obtain⟨_,_,F1,m1,b1⟩:=T.LR;have LR:=DB (P:=P) (w:=w) (base:=base) M LN F1 m1 b1;obtain⟨_,_,F1,m1,b1⟩:=T.LW;have LW:=D9 (P:=P) (w:=w) (base:=base) M LR F1 m1 b1
 have WH:=Fe (P:=P) (w:=w) (base:=base) M M6 T.WH;obtain⟨_,_,F1,m1,b1⟩:=T.CL;have CL:=AN (P:=P) (w:=w) (base:=base) T.CL;have CLT:=vN (P:=P) (w:=w) (base:=base) M6 GT F1 m1 b1;have CLP:=vN (P:=P) (w:=w) (base:=base) M6 GQ F1 m1 b1;have CG:=Ec (P:=P) (w:=w) (base:=base) GT GQ LK LKD T.CG;obtain⟨_,_,F1,m1,b1⟩:=T.RT;have RT:=EL (P:=P) (w:=w) (base:=base) GT CL CLT CLP WH F1 m1 b1;have GR:=DY (P:=P) (w:=w) (base:=base) M MX NM OD T.GR;obtain⟨_,_,F1,m1,b1⟩:=T.CZ;have CZ:=DC (P:=P) (w:=w) (base:=base) M LR F1 m1 b1;have DE:=Es (P:=P) (w:=w) (base:=base) (CT:=XT) M GQ MX CG RT CLP WH T.DE;exact Ep (CT:=XT) (CP:=XP) M MX OD DE GR CZ CG LW RT CL CLP F
theorem ma {xs:Ht}{g:Addr}{gd:Option Addr}{gn:Nat}{gs:Array Hu}{NJ:Array Value}(KX:K.In h)(G:h.Ns Ki mg)(a:MP K Ki x=some (some (.ref g)))(l:K.lookup g=some ⟨.type "tuple",gd,.seq NJ gn,gs⟩)(z:NJ.size<=Ke)(v:Vals (xs.map V.str) NJ.toList):nt K mg x xs:=⟨g,_,_,_,MU KX G a,l,rfl,rfl,z,v⟩
theorem zB (KX:K.In h)(G:h.Ns Ki mg)(b1:MP K Ki "len"=some none)(b2:MP K Ki "min"=some none)(b3:MP K Ki "range"=some none)(b4:MP K Ki "int"=some none)(b5:MP K Ki "list"=some none)(b6:MP K Ki "zip"=some none)(b7:MP K Ki "enumerate"=some none)(b8:MP K Ki "reversed"=some none)(b9:MP K Ki "any"=some none)(b10:MP K Ki "all"=some none):cm K mg:=
 ⟨MR KX G b1,MR KX G b2,MR KX G b3,MR KX G b4,MR KX G b5,MR KX G b6,MR KX G b7,MR KX G b8,MR KX G b9,MR KX G b10⟩
theorem wD (KX:K.In h)(G:h.Ns Ki mg){t1 t2 s1_1 s1_2 s1_3 s1_4 s1_5 s2_1 s2_2 s2_3 s2_4 s2_5 s2_6 s3_1 s3_2 s3_3 s3_4 s4_1 s4_2:Tok}{g1 g2 g3 g4:Addr}{d1 d2 d3 d4:Option Addr}{n1 n2 n3 n4:Nat}{e1 e2 e3 e4:Array Hu}(a1:MP K Ki "MOST_LETTERS"=some (some (.int 8 t1)))(a2:MP K Ki "NO_STEP"=some (some (.int (-1) t2)))(c1:MP K Ki "NAMED"=some (some (.ref g1)))(l1:K.lookup g1=some ⟨.type "tuple",d1,.seq #[.str "part" s1_1,.str "do" s1_2,.str "call" s1_3,.str "if" s1_4,.str "while" s1_5] n1,e1⟩)(c2:MP K Ki "SENTENCES"=some (some (.ref g2)))(l2:K.lookup g2=some ⟨.type "tuple",d2,.seq #[.str "do" s2_1,.str "call" s2_2,.str "if" s2_3,.str "while" s2_4,.str "leave" s2_5,.str "back" s2_6] n2,e2⟩)(c3:MP K Ki "OPENING"=some (some (.ref g3)))(l3:K.lookup g3=some ⟨.type "tuple",d3,.seq #[.str "part" s3_1,.str "if" s3_2,.str "else" s3_3,.str "while" s3_4] n3,e3⟩)(c4:MP K Ki "CLOSING"=some (some (.ref g4)))(l4:K.lookup g4=some ⟨.type "tuple",d4,.seq #[.str "else" s4_1,.str "end" s4_2] n4,e4⟩):fU K mg:=
 ⟨⟨_,MU KX G a1⟩,⟨_,MU KX G a2⟩,ma KX G c1 l1 (by show 5<=Ke;decide) (.cons ⟨s1_1,rfl⟩ (.cons ⟨s1_2,rfl⟩ (.cons ⟨s1_3,rfl⟩ (.cons ⟨s1_4,rfl⟩ (.cons ⟨s1_5,rfl⟩ (.nil)))))),ma KX G c2 l2 (by show 6<=Ke;decide) (.cons ⟨s2_1,rfl⟩ (.cons ⟨s2_2,rfl⟩ (.cons ⟨s2_3,rfl⟩ (.cons ⟨s2_4,rfl⟩ (.cons ⟨s2_5,rfl⟩ (.cons ⟨s2_6,rfl⟩ (.nil))))))),ma KX G c3 l3 (by show 4<=Ke;decide) (.cons ⟨s3_1,rfl⟩ (.cons ⟨s3_2,rfl⟩ (.cons ⟨s3_3,rfl⟩ (.cons ⟨s3_4,rfl⟩ (.nil))))),ma KX G c4 l4 (by show 2<=Ke;decide) (.cons ⟨s4_1,rfl⟩ (.cons ⟨s4_2,rfl⟩ (.nil)))⟩
theorem wG (KX:K.In h)(G:h.Ns Ki mg){t1 t2 t3 t4 t5:Tok}(a1:MP K Ki "BEGIN"=some (some (.int 0 t1)))(a2:MP K Ki "END"=some (some (.int 1 t2)))(a3:MP K Ki "MOST_PARTS"=some (some (.int 4 t3)))(a4:MP K Ki "MOST_PLACES"=some (some (.int 16 t4)))(a5:MP K Ki "MOST_PROGRAM_ROWS"=some (some (.int 30 t5))):jd mg:=
 ⟨⟨_,MU KX G a1⟩,⟨_,MU KX G a2⟩,⟨_,MU KX G a3⟩,⟨_,MU KX G a4⟩,⟨_,MU KX G a5⟩⟩
theorem al1 {P:Hw->Prop}(h:∀a,P [a]):∀us:Hw,us.length=1->P us
 | [a],_=>h a
theorem A9 {P:Hw->Prop}(h:∀a b,P [a,b]):∀us:Hw,us.length=2->P us
 | [a,b],_=>h a b
theorem al3 {P:Hw->Prop}(h:∀a b c,P [a,b,c]):∀us:Hw,us.length=3->P us
 | [a,b,c],_=>h a b c
theorem al4 {P:Hw->Prop}(h:∀a b c d,P [a,b,c,d]):∀us:Hw,us.length=4->P us
 | [a,b,c,d],_=>h a b c d
theorem dm {ps:Ht}{kV:Value}(KX:K.In h)(G:h.Ns Ki mg)(a:MP K Ki x=some (some (.ref f)):=by k_is)(l:K.lookup f=some ⟨oc,od,.func (MW x x (cS st) (ba st) (ak st) .none kV doc pm an NK ct),OB⟩:=by k_is)(c:M5 K NK x=true:=by k_is)(k:MT K (.ref f)=true:=by k_is)(b:∀(kV doc pm:Value)(an:Option Addr)(NK ct:Value)(us:Hw),us.length=ps.length->LP (MW x x (cS st) (ba st) (ak st) .none kV doc pm an NK ct) ⟨us,[]⟩=pure (ps.zip us):=by first | exact λ_ _ _ _ _ _=>K1.al1 λ_=>rfl | exact λ_ _ _ _ _ _=>K1.A9 λ_ _=>rfl | exact λ_ _ _ _ _ _=>K1.al3 λ_ _ _=>rfl | exact λ_ _ _ _ _ _=>K1.al4 λ_ _ _ _=>rfl):Def K mg x st ps:=BA KX G a l c k b
theorem y6 (KX:K.In h)(G:h.Ns Ki mg){d v1 v2 v3 v4:Addr}{k1 k2 k3 k4 s1_1 s2_1 s3_1 s3_2 s4_1 s4_2:Tok}{ep n1 n2 n3 n4:Nat}{d1 d2 d3 d4:Option Addr}{l1 l2 l3 l4:Array Hu}(a:MP K Ki "ROW_WORDS"=some (some (.ref d)))(l:K.lookup d=some ⟨.type "dict",none,.dict #[⟨MB w.params "do",.str "do" k1,.ref v1⟩,⟨MB w.params "call",.str "call" k2,.ref v2⟩,⟨MB w.params "if",.str "if" k3,.ref v3⟩,⟨MB w.params "while",.str "while" k4,.ref v4⟩] ep, #[]⟩)(sm:(d==Kv)=false)(u1:K.lookup v1=some ⟨.type "tuple",d1,.seq #[.str "do" s1_1] n1,l1⟩)(u2:K.lookup v2=some ⟨.type "tuple",d2,.seq #[.str "call" s2_1] n2,l2⟩)(u3:K.lookup v3=some ⟨.type "tuple",d3,.seq #[.str "yes" s3_1,.str "no" s3_2] n3,l3⟩)(u4:K.lookup v4=some ⟨.type "tuple",d4,.seq #[.str "yes" s4_1,.str "no" s4_2] n4,l4⟩):jb P w K mg "ROW_WORDS" eQ:=by
 refine⟨d,_,[((Nw "do":Key),.ref v1),((Nw "call":Key),.ref v2),((Nw "if":Key),.ref v3),((Nw "while":Key),.ref v4)],MU KX G a,l,⟨_,_,⟨rfl,rfl,rfl⟩,rfl,λe he=>?_,?_,by show Ir [(Nw "do":Key),(Nw "call":Key),(Nw "if":Key),(Nw "while":Key)];decide⟩,sm,?_⟩
 ·simp only[List.mem_toArray,Ih,Il,or_false] at he;rcases he with rfl | rfl | rfl | rfl
  ·exact⟨Nw "do",cM P w "do" k1,rfl⟩
  ·exact⟨Nw "call",cM P w "call" k2,rfl⟩
  ·exact⟨Nw "if",cM P w "if" k3,rfl⟩
  ·exact⟨Nw "while",cM P w "while" k4,rfl⟩
 ·exact .cons (cM P w "do" k1) rfl (.cons (cM P w "call" k2) rfl (.cons (cM P w "if" k3) rfl (.cons (cM P w "while" k4) rfl (.nil))))
 ·exact .cons ⟨rfl,v1,_,_,_,rfl,u1,rfl,rfl,(by show 1<=Ke;decide),.cons ⟨s1_1,rfl⟩ (.nil)⟩ (.cons ⟨rfl,v2,_,_,_,rfl,u2,rfl,rfl,(by show 1<=Ke;decide),.cons ⟨s2_1,rfl⟩ (.nil)⟩ (.cons ⟨rfl,v3,_,_,_,rfl,u3,rfl,rfl,(by show 2<=Ke;decide),.cons ⟨s3_1,rfl⟩ (.cons ⟨s3_2,rfl⟩ (.nil))⟩ (.cons ⟨rfl,v4,_,_,_,rfl,u4,rfl,rfl,(by show 2<=Ke;decide),.cons ⟨s4_1,rfl⟩ (.cons ⟨s4_2,rfl⟩ (.nil))⟩ (.nil))))
theorem step_mk (KX:K.In h)(G:h.Ns Ki mg){kV:Value}(aC:MP K Ki "Step"=some (some (.ref C)))(a1:MQ K (.ref C) "__init__"=some (some (.ref f)))(i1:Nh K (.ref f)=true)(l1:K.lookup f=some ⟨oc,od,.func (MW "__init__" "Step.__init__" (cS ou) (ba ou) (ak ou) .none kV doc pm an NK ct),OB⟩)(c1:M5 K NK "Step.__init__"=true)(k1:MT K (.ref f)=true)(pg:Na K C Str.empty=true)(hd:M9 K C=true)(po:Nf K C=true)(sa:MQ K (.ref C) "__setattr__"=some (some (.builtin "object.__setattr__")))(mk:Ng K C=true)(kc:MT K (.ref C)=true)(o1:MQ K (.ref C) "kind"=some none)(o2:MQ K (.ref C) "name"=some none)(o3:MQ K (.ref C) "word"=some none)(o4:MQ K (.ref C) "within"=some none):uf K mg:=by
 refine⟨C,f,_,⟨⟨pg,hd,po,sa⟩,λx hx=>?_⟩,⟨mk,a1,i1,kc⟩,MU KX G aC,eY (st:=ou) l1 c1 k1,(eY (st:=ou) l1 c1 k1).binds (ps:=qr) λ_ _ _ _ _ _ us hl=>match us,hl with | [_,_,_,_,_],_=>rfl⟩;simp only[ei,Ih,Il,or_false] at hx;rcases hx with rfl | rfl | rfl | rfl
 ·exact o1
 ·exact o2
 ·exact o3
 ·exact o4
theorem zD (KX:K.In h)(G:h.Ns Ki mg){kV:Value}(aC:MP K Ki "Spots"=some (some (.ref C)))(a1:MQ K (.ref C) "__init__"=some (some (.ref f)))(i1:Nh K (.ref f)=true)(l1:K.lookup f=some ⟨oc,od,.func (MW "__init__" "Spots.__init__" (cS mh) (ba mh) (ak mh) .none kV doc pm an NK ct),OB⟩)(c1:M5 K NK "Spots.__init__"=true)(k1:MT K (.ref f)=true)(pg:Na K C Str.empty=true)(hd:M9 K C=true)(po:Nf K C=true)(sa:MQ K (.ref C) "__setattr__"=some (some (.builtin "object.__setattr__")))(mk:Ng K C=true)(kc:MT K (.ref C)=true)(o1:MQ K (.ref C) "steps"=some none)(o2:MQ K (.ref C) "parts"=some none)(o3:MQ K (.ref C) "leads"=some none)(o4:MQ K (.ref C) "stands"=some none)(o5:MQ K (.ref C) "rows"=some none):tU K mg:=by
 refine⟨C,f,_,⟨⟨pg,hd,po,sa⟩,λx hx=>?_⟩,⟨mk,a1,i1,kc⟩,MU KX G aC,eY (st:=mh) l1 c1 k1,(eY (st:=mh) l1 c1 k1).binds (ps:=ki) λ_ _ _ _ _ _ us hl=>match us,hl with | [_,_],_=>rfl⟩;simp only[dM,Ih,Il,or_false] at hx;rcases hx with rfl | rfl | rfl | rfl | rfl
 ·exact o1
 ·exact o2
 ·exact o3
 ·exact o4
 ·exact o5
theorem A6 {fa:Addr}{kV:Value}(KX:K.In h)(G:h.Ns Ki mg)(hfa:mg "law"=some (.ref fa))(T:Top l.prog w K mg)(a:MP K Ki "law"=some (some (.ref f)))(lk:K.lookup f=some ⟨oc,od,.func (MW "law" "law" (cS gq) (ba gq) (ak gq) .none kV doc pm an NK ct),OB⟩)(c:M5 K NK "law"=true)(k:MT K (.ref f)=true):
 ∃fd:Kn,(∀(s:Kc)(v:Value),LL s fd ⟨[v],[]⟩ [("_law_script",v)])/\∀base:Heap,K.In base->base.Ns Ki mg->ck l.prog w K mg base cW 11 fa fd ["_law_script"] (aG pA K):=by
 have e:=hfa.symm.trans (MU KX G a);cases e
 exact⟨MW "law" "law" (cS gq) (ba gq) (ak gq) .none kV doc pm an NK ct,λs v=>.of_eq rfl,λbase _ _=>By T (eY lk c k)⟩
theorem walk {q:Kh}{loose:Ht}{XP:(Hq)->Heap->Prop}{YP:World->Heap->Prop}{d:DefRec}{K:Params->MO}(hn:l.most=some 63)(Sm:d.params.defaults=[])(hY:∀(w:World)(h:Heap),YP w h->(K w.params).In h)(F:∀(w:World)(mg:Hq)(fa:Addr)(h:Heap),(K w.params).In h->h.Ns Ki mg->mg d.name=some (.ref fa)->
  ∃fd:Kn,(∀(s:Kc)(u:Value),LL s fd ⟨[u],[]⟩ [("_law_script",u)])/\∀base:Heap,(K w.params).In base->base.Ns Ki mg->ck l.prog w (K w.params) mg base cW 11 fa fd ["_law_script"] (aG pA (K w.params))):
 PySem.W.WalkO q loose XP YP l.row.toRowW d [] (λf vs=>PySem.call f vs):=
 L2.wQ (n:=63) (k:=11) (x:="_law_script") (CX:=λ_=>cW) (sp:=λw=>aG pA (K w.params)) hn (by decide) Sm ⟨rfl,by decide,by decide⟩ hY F
   (λw H a ns hl O0 _ hS=>⟨H,[⟨bI,ns⟩],_,ay.refl _,.cons ⟨a,rfl,hS,hl⟩ .nil,⟨ns,rfl,hl,O0,rfl⟩,λv H' R' _ t=>by obtain⟨y,hy,rfl⟩:=t;exact hy⟩) λ_ _ _ _ _ z=>z
end
end K1
open PySem PySem.W PyProof.Rows
namespace PySem.W.Fast
def tw13485612388338703941:=0
def tw325615800915879101:=0
def tw16666165067631970750:=0
def tw9762926502496572716:=0
def tw3502582608829388885:=0
def tw7469192545216156184:=0
def tw5870874327760261260:=0
def tw16324980364960531319:=0
def tw15543469362294568853:=0
def tw16132075564155669288:=0
def tw6604419566671084572:=0
def tw11430789413927137173:=0
def tw14505294654505123266:=0
def tw16755447245873670630:=0
def tw6832402864070544014:=0
def tw14980758168462208558:=0
def tw8518937927909947453:=0
def tw9929661760935296884:=0
def tw14293277990175815169:=0
def tw12561240277937992061:=0
def tw5657309882117815103:=0
def tw7997451974301350967:=0
def tw5501591595461931581:=0
def tw17226156198969879850:=0
def tw15999594700532479262:=0
def tw9970920150830597223:=0
def tw1442825028385767807:=0
def tw8235004805781492763:=0
def tw14043530669026901137:=0
def tw11576258781100112491:=0
def tw11176142775227563726:=0
def tw17581524627651573686:=0
def tw12172863768684745189:=0
def tw15619406248415835063:=0
def tw5381258052663286116:=0
def tw7841329493516946166:=0
def tw17723062766557520131:=0
def tw17465579311485588559:=0
def tw3532131877582396939:=0
def tw4034337426476936575:=0
def tw13821199810994366834:=0
def tw9723098820475696857:=0
def tw6653481620579795905:=0
def tw3674897179755522295:=0
def tw4924398728176939299:=0
def tw12230301705640649949:=0
def tw5895844714149851250:=0
def tw6104691821840840968:=0
def tw14147149985899774181:=0
def tw6660717578211902667:=0
def tw17238635405329808321:=0
def tw4118139628970067516:=0
def tw16214165978817621977:=0
def tw15880544393075470477:=0
def tw5413892249179415555:=0
def tw17712247131534235944:=0
def tw4995421896721631230:=0
def tw11638771955226661074:=0
def tw6102140143025053417:=0
def tw14955963645949952542:=0
def tw17322908206762780840:=0
def tw9341405773061706297:=0
def tw4341425380470899992:=0
def tw12142160999616965674:=0
def tw14273669629312416262:=0
def tw9007191457690380822:=0
def tw287178077049814609:=0
def tw3250745804699575383:=0
def tw9658102693160157191:=0
def tw9720538497889443365:=0
def tw11102756245519901429:=0
def tw16483284934300011694:=0
def tw13517794645914884004:=0
def tw7328890781490961595:=0
def tw9841031762788358396:=0
def tw17540144635616102919:=0
def tw598844808827070133:=0
def tw12085052664121593903:=0
def tw12184998377249408634:=0
def tw12721084677803142319:=0
def tw6835127051025103139:=0
def tw14302808756074540276:=0
def tw18042653375864333636:=0
def tw127722749264680472:=0
def tw15009139416086825855:=0
def tw15165189133942373791:=0
def tw3077433616701730652:=0
def tw10665798255701128708:=0
def tw1262452542304866973:=0
def tw6205377055754978079:=0
def tw7618855602895121464:=0
def tw8405125352661784019:=0
def tw2970071880398272050:=0
def tw8731343516375394621:=0
def tw11683090826556772112:=0
def tw17137431281784949456:=0
def tw13225758207420131496:=0
def tw7535309605729418453:=0
def tw3426990603254818298:=0
def tw14582834121560831324:=0
def tw9361761579117050600:=0
def tw10898343048642196668:=0
def tw18059515391165754060:=0
def tw14261941047548857600:=0
def tw1415842246454151784:=0
def tw17748154025705022621:=0
def tw9782496478721079498:=0
def tw15041426949367245830:=0
def tw4956693326903139589:=0
def tw15492332374218638646:=0
def tw15637296590331431033:=0
def tw17760558606104040879:=0
def tw15016482269151201070:=0
def tw11251997764730259424:=0
def tw2563155190679129063:=0
def tw1865101173148603830:=0
def tw4457224321507984545:=0
def tw9541841050388219222:=0
def tw4081724612463190645:=0
def tw9424622531358430138:=0
def tw3443475920805910339:=0
def tw16523111353133792087:=0
def tw16822565988588718817:=0
def tw3949230452886251530:=0
def tw13054136098708945758:=0
def tw2472063255683033375:=0
def tw10637496001042883887:=0
def tw1851291914071072398:=0
def tw5131667075900290513:=0
def tw3266611097422464799:=0
def tw10394681894242410970:=0
def tw3824630926532912565:=0
def tw11169863170215380785:=0
def tw15560699569907542290:=0
def tw4336248599582036134:=0
def tw13290156647264056965:=0
def tw6177205137330027154:=0
def tw5117873622644608928:=0
def tw5386957840811450572:=0
def tw851845053601827231:=0
def tw3919736716428786108:=0
def tw10926016378688856335:=0
def tw295067669461842346:=0
def tw11799328424136246764:=0
def tw9775308486354908200:=0
def tw16826614357554550722:=0
def tw12671552976429397079:=0
def tw8344541511176945219:=0
def tw6075878224294487905:=0
def tw9307164285239232842:=0
def tw9156966629737329950:=0
def tw13226300009272147008:=0
def tw5707718632235656081:=0
def tw16791323156921828609:=0
def tw8205626136972509382:=0
def tw13219090067479520561:=0
def tw14265556441889420506:=0
def tw6952311335248841480:=0
def tw6588512356388325886:=0
def tw18390992582111649687:=0
def tw18041043939704835632:=0
def tw1108641591219434221:=0
def tw10899617160978426722:=0
def tw9216890858494464251:=0
def tw1862048132783046614:=0
def tw9351175295186922312:=0
def tw8297339184304607189:=0
def tw17706626527513846308:=0
def tw18270577045143822627:=0
def tw14408084046077548621:=0
def tw12894618860358409016:=0
def tw10025641895249546799:=0
def tw5138630852968775822:=0
def tw3060724382336123887:=0
def tw1236890186041200444:=0
def tw10684957117872902874:=0
def tw12783097315545027577:=0
def tw13291815456492304183:=0
def tw12057633079403105232:=0
def tw15284979565542770599:=0
def tw6442516745251625610:=0
def tw614698833280112045:=0
def tw4557601444818158786:=0
def tw4202547457062979190:=0
def tw2188549085095162122:=0
def tw210740957155715561:=0
def tw1954325630644181137:=0
def tw17042126162339882038:=0
def tw16679517773658793257:=0
def tw15048377561158250967:=0
def tw14215565779609745125:=0
def tw14141334089183159524:=0
def tw4062372217820299247:=0
def tw12408793892880136456:=0
def tw8925812903309622822:=0
def tw13844317241363696567:=0
def tw15186103665752790018:=0
def tw127272306073404016:=0
def tw16936152610535064226:=0
def tw15659698426430954509:=0
def tw4882209705151030044:=0
def tw13002261533596858166:=0
def tw11612972329656681661:=0
def tw3350674354215253834:=0
def tw16240590689485285467:=0
def tw1161571011742252628:=0
def tw5490415033279238756:=0
def tw455518828581000392:=0
def tw11116767506113995823:=0
def tw17066983723199796365:=0
def tw16084436065437947848:=0
def tw12427287332230022264:=0
def tw5580043787825165638:=0
def tw10531393247483254296:=0
def tw1481492179155888648:=0
def tw8735298195438126310:=0
def tw15281802524112001752:=0
def tw11256852512129271502:=0
def tw6101152669239728600:=0
def tw8289643822545921476:=0
def tw652165178239108547:=0
def tw6450378670373514025:=0
def tw6427439598748366284:=0
def tw5782557193563169747:=0
def tw16046994952722637273:=0
def tw12245230779135071542:=0
def tw3466444651900089689:=0
def tw2805016097877569707:=0
def tw12045483325862935316:=0
def tw3440085492339493500:=0
def tw7605461770961550621:=0
def tw2646556372267274299:=0
def tw1809827561375175302:=0
def tw17861958213835525416:=0
def tw7872650088148270945:=0
def tw10565886694114746790:=0
def tw5113900401097554717:=0
def tw6631892173604154737:=0
def tw16553618508776959864:=0
def tw2437635058407617718:=0
def tw6803383745838169505:=0
def tw13962565074083210731:=0
def tw2595157759047437003:=0
def tw5404285666886322755:=0
def tw1137942330820002193:=0
def tw12814183969158726352:=0
def tw9846854245984049611:=0
def tw5308454465819505885:=0
def tw15265272023335686070:=0
def tw11812388237808551053:=0
def tw9381480713944137596:=0
def tw12586834314143588047:=0
def tw9250864792661861709:=0
def tw8952756397217295725:=0
def tw13472059659828079456:=0
def tw1317581641809023549:=0
def tw11806781463022673584:=0
def tw5012379425412050292:=0
def tw4911609240789190699:=0
def tw16375042266138375892:=0
def tw6546280196311214219:=0
def tw17394460829832790597:=0
def tw1671699412871813277:=0
def tw15346408613603671819:=0
def tw12102977770421609481:=0
def tw8611133981858864430:=0
def tw17298413079469645649:=0
def tw13698184643832457525:=0
def tw472205733873633075:=0
def tw5251134480794477856:=0
def tw14666279466257470123:=0
def tw8671204773067787646:=0
def tw7379706329712101684:=0
def tw16774117038211956463:=0
def tw13325896489519184148:=0
def tw4254954623547907430:=0
def tw18061920609995249643:=0
def tw17433441080831445341:=0
def tw11976427286758078501:=0
def tw5616693042166873481:=0
def tw14178485929982421961:=0
def tw9487224857405764673:=0
def tw15210802081834628624:=0
def tw10034349071814419267:=0
def tw8045046505781666813:=0
def tw10183520714737828634:=0
def tw17518445272956846413:=0
def tw17112132866459587461:=0
def tw9788539424505390729:=0
def tw12932970043686360858:=0
def tw11376826351682739187:=0
def tw9633210547638954330:=0
def tw7386375052164327163:=0
def tw11852973135286483526:=0
def tw10972068928165188877:=0
def tw2236578108623493979:=0
def tw16228857193259418585:=0
def tw4829108264868980323:=0
def tw4177313106761315594:=0
def tw13674912707842811665:=0
end PySem.W.Fast
set_option maxRecDepth 100000 in
set_option maxHeartbeats 0 in
theorem PySem.Challenge.cw_fewcounters_k62_whole_any_words_holds : PySem.Challenge.rw_fewcounters_k62_whole_any_words.Holds := by
 w_on;o_law;k_head;(case hw=>w_witness2)
 k_fill
 refine K1.walk (l:=PySem.Challenge.rw_fewcounters_k62_whole_any_words) rfl rfl (λw h Y=>PySem.W.kIn_of Y) ?F
 case F=>
  intro w mg fa h KX G R7;have M:K1.cm (L2.ia KX) mg:=by
   dsimp only[L2.ia];refine' K1.zB KX G ?b1 ?b2 ?b3 ?b4 ?b5 ?b6 ?b7 ?b8 ?b9 ?b10
   (case b1=>k_is);(case b2=>k_is);(case b3=>k_is);(case b4=>k_is);(case b5=>k_is);(case b6=>k_is);(case b7=>k_is);(case b8=>k_is);(case b9=>k_is);(case b10=>k_is)
  have M2:K1.fU (L2.ia KX) mg:=by
   dsimp only[L2.ia];refine' K1.wD KX G ?a1 ?a2 ?c1 ?l1 ?c2 ?l2 ?c3 ?l3 ?c4 ?l4
   (case a1=>k_is);(case a2=>k_is);(case c1=>k_is);(case l1=>k_is);(case c2=>k_is);(case l2=>k_is);(case c3=>k_is);(case l3=>k_is);(case c4=>k_is);(case l4=>k_is)
  have M6:K1.lF mg:=by
   refine' K1.xJ KX G ?b1 ?b2 ?b3
   (case b1=>k_is);(case b2=>k_is);(case b3=>k_is)
  have DXT:K1.qp (L2.ia KX) mg "NoText" "NoText.__init__" K1.yF 0:=by
   dsimp only[L2.ia];refine' K1.vt 0 (.inl rfl) KX G ?e1 ?e2 ?lk ?dn ?dk ?ni ?q1 ?i1 ?kc ?sa ?np ?r0 ?r1 ?r2 ?r3 ?r4 ?r5 ?r7 ?r6 ?l1 ?x1 ?x2 ?q2 ?q6 ?hb ?cs
   (case e1=>k_is);(case e2=>k_is);(case lk=>k_is);(case dn=>k_is);(case dk=>rfl);(case ni=>k_is);(case q1=>k_exc);(case i1=>k_is);(case kc=>k_is);(case sa=>k_is);(case np=>k_is);(case r0=>k_is);(case r1=>k_is);(case r2=>k_is);(case r3=>k_is);(case r4=>k_is);(case r5=>k_is);(case r7=>k_is);(case r6=>k_is);(case l1=>k_is);(case x1=>k_is);(case x2=>k_is);(case q2=>kts_exm);(case q6=>kit_is);(case hb=>exact λ_ _ _ _ _ _=>K1.A9 λ_ _=>rfl);(case cs=>exact⟨K1.bo (b:=true) KX G (by k_is) (by kit_is) rfl,K1.bo (b:=false) KX G (by k_is) (by kit_is) rfl,K1.bo (b:=false) KX G (by k_is) (by kit_is) rfl,K1.bo (b:=false) KX G (by k_is) (by kit_is) rfl,K1.bo (b:=false) KX G (by k_is) (by kit_is) rfl,K1.bo (b:=false) KX G (by k_is) (by kit_is) rfl,K1.bo (b:=false) KX G (by k_is) (by kit_is) rfl,K1.bo (b:=false) KX G (by k_is) (by kit_is) rfl,K1.bo (b:=false) KX G (by k_is) (by kit_is) rfl,K1.bo (b:=false) KX G (by k_is) (by kit_is) rfl,K1.bo (b:=false) KX G (by k_is) (by kit_is) rfl,K1.bo (b:=false) KX G (by k_is) (by kit_is) rfl,K1.bo (b:=false) KX G (by k_is) (by kit_is) rfl,K1.bo (b:=false) KX G (by k_is) (by kit_is) rfl,K1.bo (b:=false) KX G (by k_is) (by kit_is) rfl,K1.bo (b:=false) KX G (by k_is) (by kit_is) rfl,K1.bo (b:=false) KX G (by k_is) (by kit_is) rfl,trivial⟩)
  have DXP:K1.qp (L2.ia KX) mg "NoProgram" "NoProgram.__init__" K1.yj 1:=by
   dsimp only[L2.ia];refine' K1.vt 1 (.inr rfl) KX G ?e1 ?e2 ?lk ?dn ?dk ?ni ?q1 ?i1 ?kc ?sa ?np ?r0 ?r1 ?r2 ?r3 ?r4 ?r5 ?r7 ?r6 ?l1 ?x1 ?x2 ?q2 ?q6 ?hb ?cs
   (case e1=>k_is);(case e2=>k_is);(case lk=>k_is);(case dn=>k_is);(case dk=>rfl);(case ni=>k_is);(case q1=>k_exc);(case i1=>k_is);(case kc=>k_is);(case sa=>k_is);(case np=>k_is);(case r0=>k_is);(case r1=>k_is);(case r2=>k_is);(case r3=>k_is);(case r4=>k_is);(case r5=>k_is);(case r7=>k_is);(case r6=>k_is);(case l1=>k_is);(case x1=>k_is);(case x2=>k_is);(case q2=>kts_exm);(case q6=>kit_is);(case hb=>exact λ_ _ _ _ _ _=>K1.A9 λ_ _=>rfl);(case cs=>exact⟨K1.bo (b:=false) KX G (by k_is) (by kit_is) rfl,K1.bo (b:=true) KX G (by k_is) (by kit_is) rfl,K1.bo (b:=false) KX G (by k_is) (by kit_is) rfl,K1.bo (b:=false) KX G (by k_is) (by kit_is) rfl,K1.bo (b:=false) KX G (by k_is) (by kit_is) rfl,K1.bo (b:=false) KX G (by k_is) (by kit_is) rfl,K1.bo (b:=false) KX G (by k_is) (by kit_is) rfl,K1.bo (b:=false) KX G (by k_is) (by kit_is) rfl,K1.bo (b:=false) KX G (by k_is) (by kit_is) rfl,K1.bo (b:=false) KX G (by k_is) (by kit_is) rfl,K1.bo (b:=false) KX G (by k_is) (by kit_is) rfl,K1.bo (b:=false) KX G (by k_is) (by kit_is) rfl,K1.bo (b:=false) KX G (by k_is) (by kit_is) rfl,K1.bo (b:=false) KX G (by k_is) (by kit_is) rfl,K1.bo (b:=false) KX G (by k_is) (by kit_is) rfl,K1.bo (b:=false) KX G (by k_is) (by kit_is) rfl,K1.bo (b:=false) KX G (by k_is) (by kit_is) rfl,trivial⟩)
  have M3:K1.jd mg:=by
   refine' K1.wG KX G ?a1 ?a2 ?a3 ?a4 ?a5
   (case a1=>k_is);(case a2=>k_is);(case a3=>k_is);(case a4=>k_is);(case a5=>k_is)
  have DRW:Fc.jb (PySem.Challenge.rw_fewcounters_k62_whole_any_words).prog w (L2.ia KX) mg "ROW_WORDS" K1.eQ:=by
   dsimp only[L2.ia];refine' K1.y6 KX G ?a ?l ?sm ?u1 ?u2 ?u3 ?u4
   (case a=>k_is);(case l=>k_is);(case sm=>rfl);(case u1=>k_is);(case u2=>k_is);(case u3=>k_is);(case u4=>k_is)
  have DSC:K1.uf (L2.ia KX) mg:=by
   dsimp only[L2.ia];refine' K1.step_mk KX G ?aC ?a1 ?i1 ?l1 ?c1 ?k1 ?pg ?hd ?po ?sa ?mk ?kc ?o1 ?o2 ?o3 ?o4
   (case aC=>k_is);(case a1=>k_is);(case i1=>k_is);(case l1=>k_is);(case c1=>k_is);(case k1=>k_is);(case pg=>k_is);(case hd=>k_is);(case po=>k_is);(case sa=>k_is);(case mk=>k_is);(case kc=>k_is);(case o1=>k_is);(case o2=>k_is);(case o3=>k_is);(case o4=>k_is)
  have DPC:K1.tU (L2.ia KX) mg:=by
   dsimp only[L2.ia];refine' K1.zD KX G ?aC ?a1 ?i1 ?l1 ?c1 ?k1 ?pg ?hd ?po ?sa ?mk ?kc ?o1 ?o2 ?o3 ?o4 ?o5
   (case aC=>k_is);(case a1=>k_is);(case i1=>k_is);(case l1=>k_is);(case c1=>k_is);(case k1=>k_is);(case pg=>k_is);(case hd=>k_is);(case po=>k_is);(case sa=>k_is);(case mk=>k_is);(case kc=>k_is);(case o1=>k_is);(case o2=>k_is);(case o3=>k_is);(case o4=>k_is);(case o5=>k_is)
  refine' K1.A6 KX G R7 ⟨M,M2,M3,M6,DXT,DXP,DRW,DSC,DPC,by exact K1.dm KX G,by exact K1.dm KX G,by exact K1.dm KX G,by exact K1.dm KX G,by exact K1.dm KX G,by exact K1.dm KX G,by exact K1.dm KX G,by exact K1.dm KX G,by exact K1.dm KX G,by exact K1.dm KX G,by exact K1.dm KX G,by exact K1.dm KX G,by exact K1.dm KX G,by exact K1.dm KX G,by exact K1.dm KX G,by exact K1.dm KX G,by exact K1.dm KX G,by exact K1.dm KX G,by exact K1.dm KX G,by exact K1.dm KX G,by exact K1.dm KX G,by exact K1.dm KX G,by exact K1.dm KX G,by exact K1.dm KX G,by exact K1.dm KX G,by exact K1.dm KX G,by exact K1.dm KX G,by exact K1.dm KX G,by exact K1.dm KX G,by exact K1.dm KX G,by exact K1.dm KX G,by exact K1.dm KX G,by exact K1.dm KX G,by exact K1.dm KX G,by exact K1.dm KX G,by exact K1.dm KX G,by exact K1.dm KX G,by exact K1.dm KX G⟩ ?qa ?qb ?qc ?qd
  (case qa=>k_is);(case qb=>k_is);(case qc=>k_is);(case qd=>k_is)
