import PyProof.Rows.All
import Wide.All
import OpenK.AllK
import Wide.FinOn
import Lean
import PyProof.EqAt
import PyProof.EqKinds
import PyProof.TupleCall
import PyProof.NeKinds
import PyProof.WalksEnum
import PyProof.EnumMake
import KE.KTryMore
import PyProof.NsDelKeeps
import PyProof.SumWalkG
import PyProof.SeqI3
import KE.KDictSum
import PyProof.AttrMiss
import PyProof.IsiH_list
import KE.KDictOf
import PyProof.ZipIter
import PyProof.TupleIter
import PyProof.EnumIter
import PyProof.StrCalls
import PySem.Challenge.RW_fewcounters_k74_whole_two_programs_by_tu
import PyProof.StrCalls2
import PyProof.StrCalls3
import PyProof.StrLawsTight
import PyProof.StrLawsChain
import PyProof.StrLawsJoin
import PyProof.Rows.StrItems
import PyProof.StrWalks
import PyProof.FString5
import PyProof.Rows.Range3
import KE.KRevIter
import PyProof.MeetsDict
import PyProof.Rows.TupIter
set_option Elab.async false
set_option linter.all false
set_option maxRecDepth 100000
set_option maxHeartbeats 4000000
noncomputable section
open Lean in
def cvP:Nat→Syntax→MacroM (TSyntax `rcasesPat)
 | 0,_=>Macro.throwUnsupported
 | n+1,s=>match s with
  | `(⟨$xs,*⟩)=>do
   let l←xs.getElems.mapM λp=>do let q←cvP n p;`(Lean.Parser.Tactic.rcasesPatLo|$q:rcasesPat)
   `(rcasesPat|⟨$l,*⟩)
  | `(_)=>`(rcasesPat|_)
  | `($x:ident)=>`(rcasesPat|$x:ident)
  | _=>Macro.throwUnsupported
set_option hygiene false
local macro_rules|`(tactic|let ⟨$xs,*⟩:=$e)=>do {let p←cvP 9 (←`(⟨$xs,*⟩));`(tactic|obtain $p:rcasesPat:=$e)}|`(tactic|cbv)=>`(tactic|first|lia|omega)|`(tactic|let $d:letDecl)=>`(tactic|have $d:letDecl)|`($a∣$b)=>`($a=some $b)|`(~~~$e)=>`(by simpa using $e)|`(⇑$s)=>`(($s).heap.objs.size)
local macro_rules|`($n:name)=>do
 let s←`([(by cbv),(by decide +kernel),(by decide),(by simp),(aa 0 rfl),(model X.prog X.w),(aa 1 rfl),(.Name x p1),(aw XA Ls),(Inv X XD σ H s),(fst XA Ls j),(ha σ H0 R0 H R E _ λv H1 R1 E1 s1 e1=>hb σ H0 R0 H1 R1 E1 _ λu H2 R2 E2 s2 e2=>?_),(bc X scope cl C (own++fr) s H ex),(λf XH A outer s H E qs T nd hr hS=>?_),(autoParam (At X i x) bZ),(aa 3 rfl),(bc X scope cl C (own++fr) s Hh ex),(aa 2 rfl),(Value->U0->Prop),(model prog w),(List α),(bf x (dw own ix Γ1)),(eV 5 rfl ev_int rfl),(λC s H ex=>⟨λXD s1 σ H v u Q I r h=>h C s _ ex XD s1 u I r,λXD s1 σ H Q I h=>h C s _ ex XD s1 I,λXD s1 σ H Q I h=>h C s _ ex XD s1 I⟩),(.Call (.Attribute `h "append" ap) [e] [] cp),(λf XH A outer st H E qs T nd hr hS=>?_),(ha σ H0 R0 H R E _ λv H1 R1 E1 s1 e1=>?_),(bK XA Ls),(ar K σ H0 R0 H R Z),(cC XA Ls),(s1.trans s2),(λC s H ex=>aY 0),(ha σ H0 R0 H R E _ λv H1 R1 E1 s1 e1=>kl σ H0 R0 H1 R1 E1 _ λH2 R2 E2 s2=>kh σ H0 R0 H2 R2 E2 _ λH3 R3 E3 s3=>?_),(List (List Th)),(.ListComp elt [⟨target,iter,ifs,0⟩] scope pos),(λh=>aF ?_),(he σ H0 R0 H R E _ λv H1 R1 E1 s1 e1=>?_),(eN 0 (j:=2) (EV.inr (gP (EV.qu (dH 0 ev_int rfl (y:=(Sum.inr c:Rl ⊕ Int)) rfl)) ev_int)) ev_int rfl rfl rfl ?_),(de XA Ls),(List aH),(λx=>⟨.inr rfl,.inl rfl,trivial⟩),(((XX items.size 0 lo:Nat):Int)==0&&(1:Int)==1&&(XX items.size items.size hi-XX items.size 0 lo)==items.size),(λx h=>br h),(List V),(av.refl _),(aa 4 rfl),(a8 (ha pos XD s σ H _ I h) λus s1 ⟨vs,H1,I1,r1,q1⟩=>?_),(λx=>⟨.inr rfl,trivial⟩),(λZ hΓ=>?_),(Z[i]?∣(.ob (bB a ps))),(ap.endLine==cp.line),(List Th),(aa 5 rfl),(∀b∈ch,(b∈X.ex∨X.s₀.heap.objs.size<=b)/\b≠X.env.locals/\(∀x c,X.env.cells.lookup x∣c->c≠b)/\∀p∈X.pn++XD,p.1≠b),(λXH A outer s H E qs T hr hS=>?_),(gT Wt Wu Wv gQ (aV hN) (aI aO bq hs) XN X4 XM hs rfl),(λF r=>jg F r.2.2.1 r.2.2.2.1),(λXH A outer s H vs Q E hr h=>?_),(bR ev_int),(.Subscript `h b p2),(autoParam (Loc X.env.scope x) YJ),(λC' s H ex c hc=>dv),(aX S Ld),((gv L (X3 Ls i:Int),q0.2.1,q0.2.2)),((⇑s2,({cls:=.type "list",data:=.seq XF.toArray k}:Obj))),(fst XA Ls j+1),(.Name x p),(A.deeper (UT qual (ao st) ⇑s f XH)),(aN aK (Ul _)),((∀c o,c≠z->c≠TO->c≠i1->c≠i2->s.heap.get? c∣o->h'.get? c∣o)),(eG ns XB n),(rfl),(ae (ae ag)),(aQ (jw C D) K),(aa 6 rfl),(autoParam (Loc X.env.scope y) YJ),(cf XA (((f+1:Nat)):Int) (w+2) (f:Int) z.2),(fL 5 rfl ev_int rfl),(aM (by simp;cbv)),(if 0<ns.length then ns.getD (k%(ns.length:Int)).toNat 0 else 0),(Z[i]?∣.mu r xs),(Z[i]?∣(.ob (fN r a as xss))),(XX items.size items.size hi-XX items.size 0 lo),(ar X.K σ H0 R0 H R Z),(λh=>Xt h `c),(.ListComp elt [⟨tg,iter,ifs,0⟩] scope pos),(dH 1 ev_int rfl (y:=k) rfl),(aE P w K mg base "name_words" 1 (aQ (zE C D) K)),(cj XA Ls),(aE X.prog X.w X.K X.mg X.base x k (gI r S X.K)),(Value),(ha XD s σ H _ I h),(λr s'=>r= .ok (.ret (.bool true))/\OldK s₁.heap s'.heap/\s'.os=s₁.os/\UW s'.gens),(bS I q `d),(List (Str×Addr)),(aE X.prog X.w X.K X.mg X.base x k (aQ S X.K)),(eE Ls j)])
 let c:=n.getName.toString.toList.map λc=>if c.val<91 then c.val.toNat-39 else c.val.toNat-97
 let i:=match c with|[x]=>x|[x,y]=>52+52*x+y|_=>9999
 let a:=s.raw[1].getSepArgs
 if i<a.size then return a[i]! else Lean.Macro.throwUnsupported
set_option hygiene true
abbrev Rj:=PySem.Str->Option PySem.Value
abbrev Rk:=List (PySem.Addr×PySem.Obj)
abbrev Rl:=List Int
abbrev Rm:=List PySem.Str
abbrev Rn:=Option PySem.Value
abbrev Ro:=List PySem.Addr
abbrev Rp:=List PySem.Value
abbrev Rr:=List PySem.Expr
abbrev Rt:=List (Int×Int)
theorem Xt{a b:Prop}(h:a)(g:¬a):b:=absurd h g
theorem Xu{c:Prop}[Decidable c](n:¬c){α:Type _}{t e:α}:(ite c t e)=e:=if_neg n
theorem Xv{c:Prop}[Decidable c](n:c){α:Type _}{t e:α}:(ite c t e)=t:=if_pos n
theorem Xw{p:Prop}[Decidable p](h:decide p=true):p:=of_decide_eq_true h
theorem Xx{p:Prop}[Decidable p](h:decide p=false):¬p:=of_decide_eq_false h
theorem Xy{p:Prop}[Decidable p](h:p):decide p=true:=decide_eq_true h
theorem Xz{p:Prop}[Decidable p](h:¬p):decide p=false:=decide_eq_false h
open Array renaming length_toList→Ru
open Bool renaming false_ne_true→Rv,and_eq_true→Rx,eq_iff_iff→Ry,beq_eq_decide_eq→Rz,false_eq_true→RC,or_eq_true→RE,and_true→RF
open False renaming elim→RG
open ForInStep renaming yield→RH
open Int renaming emod_lt_of_pos→RJ,emod_nonneg→RK,toNat_natCast→RL,le_refl→RM,le_trans→RN
open List renaming getElem?_eq_some_iff→RP,getElem?_eq_getElem→RQ,getD_eq_getElem?_getD→RR,length_map→RS,mem_singleton→RU,mem_cons_of_mem→RX,length_append→RY,mem_cons_self→RZ,getElem?_map→R6,mem_of_getElem?→R7,getElem?_set_self→R8,mem_cons→R9,mem_append_right→Sa,length_cons→Sb,range→Sd,mem_append→Se,map_append→Sf,mem_append_left→Sg,mem_iff_getElem?→Sh,size_toArray→Si,append_assoc→Sj,mem_map→Sk,append_nil→Sl,length_take→Sm,nodup_cons→Sn,getElem?_append_left→So,getElem?_eq_none→Sr,getElem?_set_ne→Ss,getElem?_append_right→Su,length_nil→Sv,Nodup→Sw,map_cons→Sx,length_singleton→Sz,getElem_mem→SD,filter_eq_self→SE,length_set→SF,take_succ→SG,filter_append→SH,mem_filter→SJ,take_length→SK,length_range→SN,nodup_append→SO,take_succ_cons→SQ,not_mem_nil→SR,dropLast_concat_getLast→SS,getElem?_range→SU,ext_getElem?→SV,replicate→SW,nil_append→SX,foldl_cons→SY,map_map→S0,mem_range→S3,filter_cons_of_pos→S4,filter_cons_of_neg→S5,flatMap_cons→S6,drop_eq_getElem_cons→S7,foldl_append→S8,filter_eq_nil_iff→S9,length_replicate→Ta,set_set→Tb,flatMap_append→Tc,lookup→Td,cons_append→Te,range_succ→Tf,take_of_length_le→Tg,lookup_cons→Ti,map_congr_left→Tj,length_filter_le→Tn,take_append_drop→To,getElem?_replicate→Tp,find?_cons→Tq,take_zero→Tr,length_drop→Ts,drop_of_length_le→Tt,flatMap_singleton→Tu,length_zip→Tv,length_dropLast→Tw,nodup_nil→Tx,getElem_of_mem→Tz,length_pos_iff→TB,find?_cons_of_neg→TC,all_eq_true→TJ,filter_cons→TK,mem_flatMap→TL,of_mem_zip→TN,mem_iff_getElem→TQ,filterMap_cons→TR,map_nil→TU,length_reverse→TY,sum_cons→TZ,getElem_inj→T1,length_eq_zero_iff→T2,mem_filterMap→T3,mem_replicate→T4,set_cons_succ→T5,getElem?_drop→T6,find?_cons_of_pos→T7,filter_map→T8,any_cons→T9,getElem?_reverse→Ua,filter_congr→Ub,mem_of_mem_take→Uc,any_eq_true→Ud,range'→Ue,forIn_cons→Ug,map_drop→Uh,sum_append→Ui,map_singleton→Uj
open Nat renaming le_refl→Uk,zero_le→Ul,le_trans→Um,lt_of_le_of_lt→Uo,lt_of_lt_of_le→Uq,ne_of_lt→Ur,lt_irrefl→Us,lt_or_ge→Ut,zero_add→Uu,lt_succ_self→Uv,le_succ→Uw,le_add_right→Ux,ne_of_gt→Uy,min_le_left→Uz,add_zero→UA,lt_of_le_of_ne→UB,not_lt→UC,min_le_right→UD,sub_self→UE,add_assoc→UG,le_of_lt→UH,le_of_eq→UI
open Ne renaming symm→UJ
open Option renaming map_eq_some_iff→UK,some_ne_none→UL,map_some→UM,isSome_map→UN
open Prod renaming ext→UO
open PyProof.Rows renaming boot_list→UP,callWith_type1→UQ,slot_tuple_getitem→UR,boot_tuple→US,envOfC→UT,boot_int→UU,AllBare→UW,boot_range→UX,subscriptTail→UY
open PySem renaming sizeLine→UZ,Shared→U0,wpAny_bind→U1,mainGlobals→U2,wpAny_pure→U3,Program→U4,starEach→U5,Around→U6,swapsWith→U7,FuncData→U8,wpAny_truthy_bool→U9,foldedSetIterable→Va,compareOp→Vb,mem_of_lookup→Vc,wpAny_field→Vd,wpAny_mono→Ve,assignEach→Vf,wpAny_holding→Vg,sysModules→Vh,wpAny_callSpecial?_slot→Vi,IsPair→Vj,holding→Vk,wpAny_newObj_type→Vl,valueAt→Vm,behindInMarks→Vn,boot_len→Vo,wpAny_seqItems→Vp,bootBuiltins→Vq,wpAny_setField_rec→Vr,wpAny_passesOwn→Vs,assign→Vt,binaryOp→Vu,wpAny_call_entry→Vv,wpAny_pyIter_list→Vw,NameKind→Vx,call_meets→Vy,sliceBounds→Vz,isTrue→VA,wpAny_Call_Name_kw→VB,tupleKind_room_in1→VC,getItem→VD,swapsWithSole→VE,swappedStores→VF,standAt→VG,wpAny_execs_nil→VH,letOwnedTupleGo→VI,IsPart→VJ,typeIs_str→VL,wpAny_rule→VM,wpAny_updateSeq_pair→VN,codeAny→VO,sizeLine_eq→VP,backTo→VQ,PassesOwn→VR,wpAny_standAt→VS,intBits_le_64→VT,wpAny_onRaise→VU,Keyword→VW,callerA→VX,pyNext→VY,codeAny_mono→VZ,tupleKind→V0,strValues→V1,IsRangeIter→V2,subscripted→V3,setItem→V4,rawInt→V5,BindsTo→V6,stored→V7,dictSetDefault→V8,GenState→V9,IntMulOk→Wa,ZipApart→Wb,attributeBase→Wc,Str→Wd,Within→We
open PySem.Around renaming under→Wf
open PySem.Builtin.List renaming listTooLong→Wg
open PySem.Builtin.Range renaming rangeSize→Wh
open PySem.Builtin.Slice renaming slicePlaces→Wi,sliceAdjust→Wj
open PySem.Builtin.SmallTypes renaming nextOf→Wl,ownedTupleIsFree→Wm
open PySem.Builtin.Str renaming occurrences→Wn
open PySem.Builtin.Tuple renaming tupleExact→Wo
open PySem.Calls renaming callWith_builtin→Wq,spliced_cons→Wr
open PySem.Code renaming isFrame→Ws
open PySem.F renaming plainAttrs_list→Wt,slot_list_append→Wu,type_list_append→Wv,slot_tuple_iterator_next→Ww,slot_zip_next→Wx,args_str_split_2→Wy,entry_str_split→Wz,slot_str_split→WA
open PySem.Heap renaming get?_push_of_some→WC,lt_size→WE,get?_push_size→WG,size_push→WH,SameBut→WI,get?_update_self→WK,dictOf_iff→WL,ExtBut→WM
open PySem.Heap.SameBut renaming update→WN
open PySem.NameKind renaming cell→WQ
open PySem.Obj renaming mapSeq→WR
open PySem.PassesOwn renaming never→WT
open PySem.PyData renaming keyHash→WU
open PySem.SeqAt renaming EqAt→WV
open PySem.Str renaming join→WW,ofString→WX
open PySem.Txt renaming split→WY
open PySem.Value renaming ref→WZ,none→W0,int→W2,str→W3,bool→W4,float→W5,type→W6
open PySem.W renaming Frag→W7,nsIn→W8,mg_none_of→W9,findIn→Xa,mg_of→Xb,keepIn→Xc,fnOf→Xd,kia_one→Xe,emptyDict→Xf,instObj→Xg,codeIn→Xh,hasDictIn→Xi,plainGet→Xj,plainOver→Xk,makesIn→Xl,methodObj→Xm,takerIn→Xn,OpenLaw→Xo,lookIn→Xp,kitOne→Xq,isFn→Xr
open True renaming intro→Xs
open List(all_cons drop_zero forIn_nil filter_nil drop_length take_nil prefix_rfl range'_one map_flatMap map_id)
abbrev Yz(x:Wd):Prop:=(x==("__debug__":Wd))=false
abbrev Cd0(x:Wd):Prop:=(x==("__classdict__":Wd))=false
def vA1:Lean.Syntax:=Lean.Unhygienic.run `(Lean.Parser.Tactic.tacticSeq|first | exact Or.inl rfl | exact Or.inr (Or.inl rfl) | exact Or.inr (Or.inr rfl))
def YJ:Lean.Syntax:=Lean.Unhygienic.run `(Lean.Parser.Tactic.tacticSeq|first | exact Or.inl rfl | exact Or.inr rfl)
def YI:Lean.Syntax:=Lean.Unhygienic.run `(Lean.Parser.Tactic.tacticSeq|first | exact .inl rfl | exact .inr rfl)
namespace L2
open PySem PySem.Spec PyProof.Rows
variable {a b:Addr}
abbrev Key:=Sum Int Str
noncomputable def pF:Key->Value->Bool
 | .inl k,v=>Value.isInt k v
 | .inr x,v=>Value.isStrOf x v
noncomputable def Qu (w:World):Key->Int
 | .inl k=>hashInt k
 | .inr x=>hashStr w x
theorem eD:∀{k:Key}{v:`aM},pF k v=true->(∃i t,k=Sum.inl i/\v=W2 i t)∨(∃x t,k=Sum.inr x/\v=W3 x t)
 | .inl i,v,h=>by
   let⟨t,e⟩:=Value.isInt_shape (k:=i) (v:=v) h;exact .inl ⟨i,t,rfl,e⟩
 | .inr x,v,h=>by
   let⟨t,e⟩:=Value.isStrOf_shape (x:=x) (v:=v) h;exact .inr ⟨x,t,rfl,e⟩
theorem Co (i:Int)(t:Tok):pF (.inl i) (.int i t)=true:=by simp[pF,Value.isInt]
theorem BX (x:Str)(t:Tok):pF (.inr x) (.str x t)=true:=by simp[pF,Value.isStrOf]
theorem Lw (a b:Int):decide ((Sum.inl a:Key)=Sum.inl b)=(a==b):=by
 by_cases e:a=b
 ·subst e;simp
 ·let h:¬(Sum.inl a:Key)=Sum.inl b:=λq=>e (Sum.inl.inj q);rw[Xz h];exact(beq_eq_false_iff_ne.mpr e).symm
theorem JC (a b:Str):decide ((Sum.inr a:Key)=Sum.inr b)=decide (a=b):=by
 by_cases e:a=b
 ·subst e;simp
 ·let h:¬(Sum.inr a:Key)=Sum.inr b:=λq=>e (Sum.inr.inj q);rw[Xz h,Xz e]
theorem KP (a:Int)(b:Str):decide ((Sum.inl a:Key)=Sum.inr b)=false:=Xz (λq=>nomatch q)
theorem Mq (a:Str)(b:Int):decide ((Sum.inr a:Key)=Sum.inl b)=false:=Xz (λq=>nomatch q)
def cE (prog:U4)(w:World):PySem.KeyKind prog w Key where
 is:=pF
 hash:=Qu w
 inj:=λv a b ha hb=>by
  obtain⟨i,t,rfl,rfl⟩ | ⟨x,t,rfl,rfl⟩:=eD ha
  ·obtain⟨j,u,rfl,e⟩ | ⟨y,u,rfl,e⟩:=eD hb
   ·injection e with e1 _;rw[e1]
   ·exact nomatch e
  ·obtain⟨j,u,rfl,e⟩ | ⟨y,u,rfl,e⟩:=eD hb
   ·exact nomatch e
   ·injection e with e1 _;rw[e1]
 byValue:=λk v h=>by
  rcases eD h with⟨i,t,rfl,rfl⟩ | ⟨x,t,rfl,rfl⟩<;>rfl
 pyHash:=λhv h=>by
  obtain⟨i,t,rfl,rfl⟩ | ⟨x,t,rfl,rfl⟩:=eD hv
  ·exact wpAny_pyHash_int h
  ·exact wpAny_pyHash_str h
 eqBool:=λhu hv h=>by
  obtain⟨i,t,rfl,rfl⟩ | ⟨x,t,rfl,rfl⟩:=eD hu
  ·obtain⟨j,u,rfl,rfl⟩ | ⟨y,u,rfl,rfl⟩:=eD hv
   ·rw[Lw] at h;exact wpAny_eqBool_int h
   ·rw[KP] at h;exact WV.int_str i t y u _ _ _ _ h
  ·obtain⟨j,u,rfl,rfl⟩ | ⟨y,u,rfl,rfl⟩:=eD hv
   ·rw[Mq] at h;exact WV.str_int x t j u _ _ _ _ h
   ·rw[JC] at h;exact wpAny_eqBool_str h
 «strs»:=λk x t v h=>by
  obtain⟨i,u,rfl,e⟩ | ⟨y,u,rfl,e⟩:=eD h
  ·exact nomatch e
  ·injection e with e1 _;subst e1;cases v<;>rfl
theorem yx (prog:U4)(w:World)(i:Int)(t:Tok):(cE prog w).is (.inl i) (.int i t)=true:=Co i t
theorem eC (prog:U4)(w:World)(x:Str)(t:Tok):(cE prog w).is (.inr x) (.str x t)=true:=BX x t
inductive V where
 | XT | bl (b:Bool) | int (i:Int) | str (x:Str) | Zv (b:Array UInt8) | flt (b:UInt64) | ref (a:Addr) | ty (n:String)
 deriving DecidableEq
noncomputable def RelV:V->Value->Prop
 | .XT,u=>u=W0
 | .bl b,u=>u=W4 b
 | .int i,u=>∃t,u=W2 i t
 | .str x,u=>∃t,u=W3 x t
 | .Zv b,u=>∃t,u=Value.bytes b t
 | .flt b,u=>∃t,u=W5 b t
 | .ref a,u=>u=WZ a
 | .ty n,u=>u=W6 n
abbrev Vals:List V->Rp->Prop:=Paired RelV
theorem Vals.length {xs:`R}{us:Rp}(r:Vals xs us):xs.length=us.length:=Paired.length r
theorem Vals.get:∀{xs:`R}{us:Rp}{i:Nat}{x:V},Vals xs us->xs[i]?∣x->∃u,us[i]?∣u/\RelV x u
 | _,_,_,_,.nil,e=>by simp at e
 | _,_,0,_,.cons r _,e=>by simp at e;subst e;exact⟨_,rfl,r⟩
 | _,_,i+1,x,.cons _ t,e=>by
   let⟨u,h1,h2⟩:=Vals.get (i:=i) (x:=x) t (~~~e);exact⟨u,by simpa using h1,h2⟩
theorem Vals.set {x:V}{u:`aM}(r:RelV x u):∀{xs:`R}{us:Rp}(i:Nat),Vals xs us->Vals (xs.set i x) (us.set i u)
 | _,_,_,.nil=>.nil
 | _,_,0,.cons _ t=>.cons r t
 | _,_,i+1,.cons q t=>.cons q (Vals.set r i t)
theorem Vals.append:∀{xs ys:`R}{us ws:Rp},Vals xs us->Vals ys ws->Vals (xs++ys) (us++ws)
 | _,_,_,_,.nil,s=>s
 | _,_,_,_,.cons r t,s=>.cons r (Vals.append t s)
theorem Vals.take:∀{xs:`R}{us:Rp}(n:Nat),Vals xs us->Vals (xs.take n) (us.take n)
 | _,_,0,_=>.nil
 | _,_,_+1,.nil=>.nil
 | _,_,n+1,.cons r t=>.cons r (Vals.take n t)
theorem Vals.drop:∀{xs:`R}{us:Rp}(n:Nat),Vals xs us->Vals (xs.drop n) (us.drop n)
 | _,_,0,r=>r
 | _,_,_+1,.nil=>.nil
 | _,_,n+1,.cons _ t=>Vals.drop n t
noncomputable def jD:Option V->Rn->Prop
 | some v,some u=>RelV v u
 | none,none=>True
 | _,_=>False
def KV {κ:Type}:List (κ×V)->List (κ×Value)->Prop:=Paired λ(p:κ×V)(q:κ×Value)=>p.1=q.1/\RelV p.2 q.2
noncomputable def kV:Key->V
 | .inl i=>.int i
 | .inr x=>.str x
inductive HO where
 | lst (xs:`R)
 | tup (xs:`R)
 | dK (kvs:List (Key×V)) | dT (kvs:List (List Key×V))
 | set (S:Int->Bool) (n:Nat)
 | ins (C dx:Addr) (fs:List (Str×V))
 | own (x:Addr)
 | xd (fs:List (Str×V))
 | met (f x:Addr)
 | ZW (lo hi:Int)
 | Yu (o:Obj) (u:HO)
 | tbl (ps:Array Value)
 | ext (φ:Heap->Prop)
abbrev Hp:=Addr->Option HO
noncomputable def upd (H:Hp)(a:Addr)(o:HO):Hp:=λb=>if b=a then some o else H b
theorem aD {H:Hp}{o:HO}:upd H a o a∣o:=by unfold upd;rw[Xv rfl]
theorem aG {H:Hp}{o:HO}(h:b≠a):upd H a o b=H b:=by unfold upd;rw[Xu h]
theorem Oo {H:Hp}{o u:HO}(h:H a∣o)(h':H b∣u)(d:o≠u):a≠b:=by
 intro e;subst e;rw[h] at h';exact d (Option.some.inj h')
theorem dq {H:Hp}{o:HO}(h:H a∣o)(h':H b=none):a≠b:=by
 intro e;subst e;rw[h] at h';cases h'
section
variable (P:U4)(w:World)
noncomputable def c9 (H:Hp)(h:Heap)(a:Addr):HO->Prop
 | .lst xs=>xs.length<=UZ/\∃(XF:Rp)(n:Nat),Vals xs XF/\h.get? a=some {cls:=.type "list",data:=.seq XF.toArray n}
 | .tup xs=>xs.length<=UZ/\∃XF:Rp,Vals xs XF/\IsTup h a XF.toArray
 | .dK kvs=>kvs.length<=UZ/\(a==Vh)=false/\∃vs,KV kvs vs/\h.DictOf (cE P w) a vs
 | .dT kvs=>kvs.length<=UZ/\(a==Vh)=false/\∃xs:List (List Key×Addr×Value),
  Paired (λ(p:List Key×V)(q:List Key×Addr×Value)=>p.1=q.1/\H q.2.1∣(.tup (p.1.map kV))/\RelV p.2 q.2.2) kvs xs/\
  ∃o es ep,h.get? a∣o/\o.ExactDict/\o.data= .dict es ep/\es.toList=xs.map (entryOfKey (V0 (cE P w)))/\(xs.map (·.1)).Nodup
 | .set S n=>h.SetOf (intKind P w) a S n
 | .ins C dx fs=>H dx∣.own a/\fs.length<=1000/\dx≠a/\h.get? a∣Xg C dx/\
  ∃mA,h.Ns1 dx mA/\(∀f,jD (fs.lookup f) (mA f))/\We mA (fs.map (·.1))
 | .own _=>∃o,h.get? a∣o
 | .xd fs=>∃mA,h.Ns1 a mA/\∀f,jD (fs.lookup f) (mA f)
 | .ZW lo hi=>∃t u v,h.get? a=some {cls:=.type "range",data:=.fields #[.int lo t,.int hi u,.int 1 v]}
 | .Yu o u=>h.get? a∣o/\c9 H h a u
 | .tbl ps=>h.get? a=some {cls:=.none,data:=.fields ps}
 | .met f x=>h.get? a∣(Xm (.ref f) (.ref x))
 | .ext φ=>φ h/\(∃o,h.get? a∣o)/\∀h1 h2:Heap,φ h1->(∀o,h1.get? a∣o->h2.get? a∣o)->φ h2
def fc (H:Hp)(h:Heap):Prop:=∀a o,H a∣o->c9 P w H h a o
end
variable {H:Hp}{P:U4}{w:World}{H':Hp}{h h':Heap}
section
variable {o:HO}
theorem c9.lt (x:c9 P w H h a o):a<h.objs.size:=by
 cases o with
 | lst xs=>let⟨_,_,_,_,e⟩:=x;exact WE e
 | tup xs=>let⟨_,_,_,p⟩:=x;exact p.lt
 | dK kvs=>let⟨_,_,_,_,o,_,_,e,_⟩:=x;exact WE e
 | dT kvs=>let⟨_,_,_,_,o,_,_,e,_⟩:=x;exact WE e
 | set S n=>let⟨o,_,_,_,e,_⟩:=x;exact WE e
 | ins C dx fs=>let⟨_,_,_,e,_⟩:=x;exact WE e
 | own y=>let⟨_,e⟩:=x;exact WE e
 | xd fs=>let⟨_,⟨_,_,_,e,_⟩,_⟩:=x;exact WE e
 | ZW lo hi=>let⟨_,_,_,e⟩:=x;exact WE e
 | Yu ob u=>let⟨e,_⟩:=x;exact WE e
 | tbl ps=>exact WE (show h.get? a∣_ from x)
 | met f y=>exact WE (show h.get? a∣_ from x)
 | ext φ=>let⟨_,⟨_,e⟩,_⟩:=x;exact WE e
theorem Paired.Fw {α β:Type}{F G:α->β->Prop}:∀{l₁:`u}{l₂:List β},Paired F l₁ l₂->(∀a b,F a b->G a b)->Paired G l₁ l₂
 | _,_,.nil,_=>.nil
 | _,_,.cons r t,f=>.cons (f _ _ r) (Paired.Fw t f)
theorem c9.Yi (x:c9 P w H h a o)(k:∀b u,(b=a∨H b∣.own a)->h.get? b∣u->h'.get? b∣u)(ho:∀b,H b∣.own a->H' b∣.own a)(ht:∀b xs,H b∣.tup xs->H' b∣.tup xs):c9 P w H' h' a o:=by
 induction o with
 | lst xs=>let⟨z,XF,n,r,e⟩:=x;exact⟨z,XF,n,r,k _ _ (.inl rfl) e⟩
 | tup xs=>let⟨z,XF,r,ob,e,c⟩:=x;exact⟨z,XF,r,ob,k _ _ (.inl rfl) e,c⟩
 | dK kvs=>let⟨z,y,vs,r,ob,es,ep,e,c⟩:=x;exact⟨z,y,vs,r,ob,es,ep,k _ _ (.inl rfl) e,c⟩
 | dT kvs=>
   let⟨z,y,xs,r,ob,es,ep,e,c⟩:=x;exact⟨z,y,xs,Paired.Fw r λp q z=>⟨z.1,ht _ _ z.2.1,z.2.2⟩,ob,es,ep,k _ _ (.inl rfl) e,c⟩
 | set S n=>let⟨ob,es,ep,t,e,c⟩:=x;exact⟨ob,es,ep,t,k _ _ (.inl rfl) e,c⟩
 | ins C dx fs=>
   let⟨d,z,ne,e,mA,⟨od,es,ep,e2,c⟩,r⟩:=x;exact⟨ho _ d,z,ne,k _ _ (.inl rfl) e,mA,⟨od,es,ep,k _ _ (.inr d) e2,c⟩,r⟩
 | own y=>let⟨ob,e⟩:=x;exact⟨ob,k _ _ (.inl rfl) e⟩
 | xd fs=>let⟨mA,⟨od,es,ep,e,c⟩,r⟩:=x;exact⟨mA,⟨od,es,ep,k _ _ (.inl rfl) e,c⟩,r⟩
 | ZW lo hi=>let⟨t,u,v,e⟩:=x;exact⟨t,u,v,k _ _ (.inl rfl) e⟩
 | Yu ob u ih=>let⟨e,q⟩:=x;exact⟨k _ _ (.inl rfl) e,ih q⟩
 | tbl ps=>
   let e:h.get? a=some {cls:=.none,data:=.fields ps}:=x;show h'.get? a=some {cls:=.none,data:=.fields ps};exact k a _ (.inl rfl) e
 | met f y=>
   let e:h.get? a∣(Xm (.ref f) (.ref y)):=x;show h'.get? a∣(Xm (.ref f) (.ref y));exact k a _ (.inl rfl) e
 | ext φ=>let⟨p,⟨o,e⟩,st⟩:=x;exact⟨st _ _ p λo q=>k _ _ (.inl rfl) q,⟨o,k _ _ (.inl rfl) e⟩,st⟩
theorem fc.lt (x:fc P w H h)(e:H a∣o):a<h.objs.size:=(x a o e).lt
theorem fc.fresh (x:fc P w H h)(e:h.objs.size<=a):H a=none:=by
 cases q:H a with
 | none=>rfl
 | some u=>exact Xt (Uq (x.lt q) e) (Us _)
theorem fc.kept (x:fc P w H h)(k:∀b u,h.get? b∣u->h'.get? b∣u):fc P w H h':=λa o e=>
 (x a o e).Yi (λb u _ q=>k b u q) (λ_ q=>q) λ_ _ q=>q
theorem fc.laid (x:fc P w H h)(k:∀b u,h.get? b∣u->h'.get? b∣u)(hp:h.objs.size<=a)(new:c9 P w (upd H a o) h' a o):fc P w (upd H a o) h':=λb u e=>by
 let hn:=x.fresh hp;by_cases hb:b=a
 ·subst hb;rw[aD] at e;cases e;exact new
 ·rw[aG hb] at e;exact(x b u e).Yi (λc v _ q=>k c v q) (λc q=>by rw[aG (dq q hn)];exact q) λc xs q=>by rw[aG (dq q hn)];exact q
end
def Rd (H:Hp)(a:Addr)(u:HO):Prop:=H a∣u∨∃o,H a∣.Yu o u
theorem Rd.ok {u:HO}(r:Rd H a u)(x:fc P w H h):c9 P w H h a u:=by
 obtain r | ⟨o,r⟩:=r
 ·exact x a u r
 ·let⟨_,q⟩:=x a _ r;exact q
noncomputable def DG:Option HO->Prop
 | some (.lst _)=>True
 | some (.dK _)=>True
 | some (.dT _)=>True
 | some (.set _ _)=>True
 | some (.ins _ _ _)=>True
 | some (.ext _)=>True
 | _=>False
section
variable {x e:Addr}{o':HO}
theorem fc.write (ok:fc P w H h)(mu:DG (H x))(he:e=x∨H e∣.own x)(k:∀b u,b≠e->h.get? b∣u->h'.get? b∣u)(heo:∃u,h'.get? e∣u)(new:c9 P w (upd H x o') h' x o'):fc P w (upd H x o') h':=λb u q=>by
 let nown:∀c y,H c∣.own y->c≠x:=λc y r z=>by subst z;rw[r] at mu;exact mu
 let ntup:∀c xs,H c∣.tup xs->c≠x:=λc xs r z=>by subst z;rw[r] at mu;exact mu
 by_cases hb:b=x
 ·subst hb;rw[aD] at q;cases q;exact new
 ·rw[aG hb] at q;by_cases Z3:b=e
  ·let q':H b∣.own x:=by
    obtain z | z:=he
    ·exact Xt (Z3.trans z) hb
    ·rw[Z3];exact z
   rw[q] at q';cases q'
   let⟨v,hv⟩:=heo;exact⟨v,by rw[Z3];exact hv⟩
  ·refine(ok b u q).Yi (λc v hc r=>k c v ?_ r) (λc r=>by rw[aG (nown c b r)];exact r) λc xs r=>by rw[aG (ntup c xs r)];exact r
   obtain rfl | hc:=hc
   ·exact Z3
   ·rintro rfl;obtain z | z:=he
    ·exact nown c b hc z
    ·rw[hc] at z;cases z;exact hb rfl
end
structure Un (fs ex:Ro)(H H':Hp)(h h':Heap):Prop where
 keep:∀b o,h.get? b∣o->H b=none->b∉fs->b∉ex->h'.get? b∣o
 slot:∀b o,h.get? b∣o->H b=none->b∈fs->b∉ex->∃sl,h'.get? b=some {o with slots:=sl}
 free:∀b o,h.get? b∣o->H b=none->b∉ex->H' b=none
 there:∀b o,h.get? b∣o->b∉ex->∃o',h'.get? b∣o'
 YX:∀b xs,H b∣.tup xs->H' b∣.tup xs
 YQ:∀b o u,H b∣.Yu o u->H' b∣.Yu o u
 YY:∀b ps,H b∣.tbl ps->∃more,H' b∣(.tbl (ps++more))
section
variable {fs fs' ex ex':Ro}{H1 H2:Hp}{h1 h2:Heap}{x e:Addr}{o:HO}
theorem Un.any (u:Un fs ex H H1 h h1){ob:Obj}(q:h.get? b∣ob)(n:H b=none)(hx:b∉ex):∃sl,h1.get? b=some {ob with slots:=sl}:=by
 by_cases hb:b∈fs
 ·exact u.slot b ob q n hb hx
 ·exact⟨ob.slots,u.keep b ob q n hb hx⟩
theorem Un.kept (k:∀b u,h.get? b∣u->h'.get? b∣u):Un fs ex H H h h':=
 ⟨λb ob q _ _ _=>k b ob q,λb ob q _ _ _=>⟨ob.slots,k b ob q⟩,λ_ _ _ n _=>n,λb ob q _=>⟨ob,k b ob q⟩,λ_ _ q=>q,λ_ _ _ q=>q,λ_ ps q=>⟨#[],by rw[q];simp⟩⟩
theorem Un.refl:Un fs ex H H h h:=Un.kept λ_ _ q=>q
theorem Un.laid (k:∀b u,h.get? b∣u->h'.get? b∣u)(hp:h.objs.size<=a)(hn:H a=none):Un fs ex H (upd H a o) h h' where
 keep:=λb u q _ _ _=>k b u q
 slot:=λb u q _ _ _=>⟨u.slots,k b u q⟩
 free:=λb u q n _=>by rw[aG (Ur (Uq (WE q) hp))];exact n
 there:=λb u q _=>⟨u,k b u q⟩
 YX:=λb xs q=>by rw[aG (dq q hn)];exact q
 YQ:=λb u xs q=>by rw[aG (dq q hn)];exact q
 YY:=λb ps q=>⟨#[],by rw[aG (dq q hn),q];simp⟩
theorem Un.write (mu:DG (H x))(he:e=x∨H e∣.own x)(k:∀b u,b≠e->h.get? b∣u->h'.get? b∣u)(heo:∃u,h'.get? e∣u):Un fs ex H (upd H x o) h h':=by
 let hx:∀b,H b=none->b≠x:=λb n z=>by subst z;rw[n] at mu;exact mu
 let hb:∀b,H b=none->b≠e:=λb n z=>by
  subst z;obtain r | r:=he
  ·exact hx b n r
  ·rw[n] at r;cases r
 let hm:∀b u,H b∣u->¬DG (some u)->b≠x:=λb u q nm z=>by subst z;rw[q] at mu;exact nm mu
 refine⟨λb u q n _ _=>k b u (hb b n) q,λb u q n _ _=>⟨u.slots,k b u (hb b n) q⟩,λb u q n _=>by rw[aG (hx b n)];exact n,λb u q _=>?_,
  λb xs q=>by rw[aG (hm b _ q λz=>z)];exact q,λb u xs q=>by rw[aG (hm b _ q λz=>z)];exact q,λb ps q=>⟨#[],by rw[aG (hm b _ q λz=>z),q];simp⟩⟩
 by_cases Z3:b=e
 ·subst Z3;exact heo
 ·exact⟨u,k b u Z3 q⟩
end
noncomputable def GI (h:Heap)(H:Hp):Ro:=(Sd h.objs.size).filter λa=>(H a).isSome
def nE (h:Heap)(H:Hp):Heap:=PySem.W.hideAll h (GI h H)
theorem C1 (h:Heap)(H:Hp):(nE h H).objs.size=h.objs.size:=PySem.W.hideAll_size _ _
variable {o:Obj}
theorem FT (e:h.get? b∣o)(n:H b=none):(nE h H).get? b∣o:=
 PySem.W.hideAll_get _ e λhm=>by
  let q:(H b).isSome=true:=(SJ.mp hm).2;rw[n] at q;simp at q
theorem Jk (e:(nE h H).get? b∣o):h.get? b∣o/\H b=none:=by
 let e':h.get? b∣o:=PySem.W.of_hideAll (GI h H) e;refine⟨e',?_⟩;cases q:H b with
 | none=>rfl
 | some x=>
   let hm:b∈GI h H:=SJ.mpr ⟨S3.mpr (WE e'),by simp[q]⟩;let z:(nE h H).get? b=none:=PySem.W.hideAll_none (GI h H) hm;rw[z] at e;cases e
structure Mod (K:W7)(mg:Rj)(base:Heap):Prop where
 kin:K.In base
 glob:base.Ns U2 mg
 blt:∃mb,base.Ns builtinsNs mb/\∀x:Str,x≠"__name__"->mb x=Vq x
 nolimit:base.NoLimit
structure Cx where
 prog:U4
 w:World
 K:W7
 mg:Rj
 base:Heap
 A:U6
 N:Rm
 s₀:U0
 H₀:Hp
 env:Env
 outer:List Env
 stack:List Env
 ex:Ro
 fn:Str->Bool
 calm:Bool
 pn:Rk
 xe:Value->U0->Prop
def mY (l:List Env):Ro:=l.filterMap (·.frame)
abbrev Cx.fs (X:Cx):Ro:=mY X.outer
def BR (sc:Scope)(x:Str):Prop:=sc.names.lookup x∣.local∨sc.names.lookup x∣.cell∨sc.names.lookup x∣.free
def Loc (sc:Scope)(x:Str):Prop:=sc.names.lookup x∣.local∨sc.names.lookup x∣.cell
abbrev l6 (X:Cx)(cp:Pos)(es:Rr):Prop:=((VQ cp (U5 es X.env)).all (λx=> !x.1)&&(backToKw cp (keywordEach [] X.env)).all (λx=>x.1.isSome)&&decide (es.length+([]:List VW).length+(if([]:List VW).isEmpty then 0 else 1)<30))=true
abbrev dh (X:Cx)(e:Expr)(es:Rr):Prop:=U5 (e::es) X.env=(false,eval e X.env)::U5 es X.env
abbrev fU (X:Cx)(e:Expr):Prop:=U5 [e] X.env=[(false,eval e X.env)]
abbrev v5 (X:Cx)(a b:Expr):Prop:=U5 [a,b] X.env=[(false,eval a X.env),(false,eval b X.env)]
abbrev fo (X:Cx)(cp:Pos)(es:Rr):Prop:=(VQ cp (U5 es X.env)).any (·.1)=false
abbrev eX (X:Cx)(e:Expr)(x:Str):Prop:=Wc e x X.env (eval e X.env)=eval e X.env
abbrev fM (X:Cx)(x:Str):Prop:=X.fn x=true∨X.env.scope.names.lookup x∣.local
structure At (X:Cx)(i:Nat)(x:Str):Prop where
 n:X.N[i]?∣x
 v:BR X.env.scope x
 d:(x==("__debug__":Str))=false
 c:(x==("__classdict__":Str))=false
def bZ:Lean.Syntax:=Lean.Unhygienic.run `(Lean.Parser.Tactic.tacticSeq| exact⟨rfl,by first | exact Or.inl rfl | exact Or.inr (Or.inl rfl) | exact Or.inr (Or.inr rfl),`c,`c⟩)
def Look (env:Env)(h:Heap)(m:Rj)(x:Str)(u:`aM):Prop:=
 (env.kindOf x∣.local/\m x∣u)∨((env.kindOf x∣.cell∨env.kindOf x∣.free)/\∃c,env.cells.lookup x∣c/\h.IsCell c (some u))
structure Cx.Ok (X:Cx):Prop where
 mod:Mod X.K X.mg X.base
 kind:X.env.scope.kind= .function
 glob:X.env.globals=U2
 blt:X.env.builtins=builtinsNs
 above:X.s₀.heap.objs.size<=X.env.locals
 inj:∀x y c,X.env.cells.lookup x∣c->X.env.cells.lookup y∣c->x=y
 has:∀x,(X.env.kindOf x∣.cell∨X.env.kindOf x∣.free)->∃c,X.env.cells.lookup x∣c
 cab:∀x c,X.fn x=true->X.env.cells.lookup x∣c->X.s₀.heap.objs.size<=c
 hd:X.calm=true->X.A.handled=none
 frames:X.A.frames∣X.stack
 stk:X.stack=X.outer∨(X.stack=X.env::X.outer/\X.env.frame∣X.env.locals)
 exf:∀b∈X.ex,b≠X.env.locals/\∀x c,X.env.cells.lookup x∣c->c≠b
 bs:∀b o,X.base.get? b∣o->X.s₀.heap.get? b∣o/\X.H₀ b=none
 bsz:X.base.objs.size<=X.s₀.heap.objs.size
 ZJ:∀b o,X.base.get? b∣o->b∉X.ex
 ZA:∀b∈X.ex,b∉X.fs
 YF:X.s₀.heap.FunFrames X.base X.outer
 frf:∀b∈X.fs,X.H₀ b=none
structure Inv (X:Cx)(XD:Rk)(σ:List (Option V))(H:Hp)(s:U0):Prop where
 ok:X.Ok
 os:s.os=X.s₀.os
 bare:UW s.gens
 base:Un X.fs X.ex X.H₀ H X.s₀.heap s.heap
 loc:∃m,s.heap.Ns X.env.locals m/\∀(i:Nat)(x:Str)(v:V),X.N[i]?∣x->σ[i]?∣some v->BR X.env.scope x->∃u,RelV v u/\Look X.env s.heap m x u
 cell:∀x c,X.env.cells.lookup x∣c->∃v,s.heap.IsCell c v
 free:H X.env.locals=none
 Yr:∀x c,X.env.cells.lookup x∣c->H c=none
 pin:∀p∈X.pn++XD,s.heap.get? p.1∣p.2/\H p.1=none/\p.1≠X.env.locals/\p.1∉X.fs/\∀v,p.2.data≠ .cell v
 XJ:fc X.prog X.w H s.heap
 len:σ.length=X.N.length
variable {X:Cx}{XD:Rk}{s:U0}{x:Str}{i:Nat}{g':Array V9}{d':Drawn}{it:Addr}{N:Rm}{M:Model}{A:U6}{E:`s}{v:V}{u:`aM}{s':U0}
section
variable {σ:List (Option V)}
variable {t':Nat}{ch:Ro}
theorem Cx.Ok.Q9 (ok:X.Ok)(e:X.base.get? b∣o):b∉X.fs:=λhb=>by
 have:=(ok.YF.mem hb).1;rw[e] at this;cases this
theorem Inv.bs (I:`j):∀b o,X.base.get? b∣o->s.heap.get? b∣o/\H b=none:=λb o e=>
 ⟨I.base.keep b o (I.ok.bs b o e).1 (I.ok.bs b o e).2 (I.ok.Q9 e) (I.ok.ZJ b o e),I.base.free b o (I.ok.bs b o e).1 (I.ok.bs b o e).2 (I.ok.ZJ b o e)⟩
theorem Inv.bk (I:`j):∀b o,X.base.get? b∣o->s.heap.get? b∣o:=λb o e=>(I.bs b o e).1
theorem Inv.mod (I:`j):Mod X.K X.mg X.base:=I.ok.mod
theorem Inv.gy (I:`j):X.K.In s.heap:=I.ok.mod.kin.keeps I.bk
theorem Inv.lt (I:`j):X.env.locals<⇑s:=let ⟨_,hn,_⟩:=I.loc;hn.lt
theorem Inv.sz (I:`j):X.s₀.heap.objs.size<=⇑s:=Um I.ok.above (UH I.lt)
theorem Inv.Qw (I:`j)(h:⇑s<=a):a∉X.fs:=λhb=>by
 let⟨_,o,ho,_⟩:=I.ok.YF.mem hb;exact Xt (Uq (WE ho) (Um I.sz h)) (Us _)
theorem Inv.cne (I:`j):∀x c,X.env.cells.lookup x∣c->c≠X.env.locals:=λx c e z=>by
 let⟨v,o,ho,hd⟩:=I.cell x c e;let⟨m,⟨o',es,ep,Y4,hd',_⟩,_⟩:=I.loc;rw[z,Y4] at ho;cases ho;rw[hd'] at hd;cases hd
theorem Inv.YF (I:`j):s.heap.FunFrames X.base X.outer:=by
 let all:∀(l:List Env),(∀b∈mY l,b∈X.fs)->X.s₀.heap.FunFrames X.base l->s.heap.FunFrames X.base l:=by
  intro l
  induction l with
  | nil=>intro _ _;trivial
  | cons env r ih=>
    intro hs hl;let⟨hk,⟨L,o,hf,hn,ho,hd⟩,hr⟩:=hl;let hL:L∈X.fs:=hs L (by unfold mY;rw[TR,hf];exact RZ);let⟨sl,e⟩:=I.base.slot L o ho (I.ok.frf L hL) hL λz=>I.ok.ZA L z hL;exact⟨hk,⟨L,_,hf,hn,e,hd⟩,ih (λb hb=>hs b (by unfold mY;rw[TR,hf];exact RX _ hb)) hr⟩
 exact all X.outer (λ_ hb=>hb) I.ok.YF
theorem Inv.stack (I:`j):s.heap.FunFrames X.base X.stack:=by
 obtain e | ⟨e,hf⟩:=I.ok.stk
 ·rw[e];exact I.YF
 ·rw[e];let⟨m,hn,_⟩:=I.loc;refine .cons (by rw[I.ok.kind];decide) hf hn ?_ I.YF;exact Heap.get?_none_of_le (Um I.ok.bsz I.ok.above)
theorem Inv.wc (I:`j):∀b∈mY X.stack,b∈X.env.locals::X.fs:=λb hb=>by
 obtain e | ⟨e,hf⟩:=I.ok.stk
 ·rw[e] at hb;exact RX _ hb
 ·rw[e] at hb;unfold mY at hb;rw[TR,hf] at hb;exact hb
theorem Inv.zK (I:`j):∀b∈mY X.stack,H b=none:=λb hb=>by
 obtain e | hb:=R9.mp (I.wc b hb)
 ·rw[e];exact I.free
 ·let⟨_,o,ho,_⟩:=I.ok.YF.mem hb;exact I.base.free b o ho (I.ok.frf b hb) λz=>I.ok.ZA b z hb
theorem Inv.step (I:`j)(ZF:`ab)(keep:∀b o,b≠X.env.locals->b∉X.fs->b∉ch->s.heap.get? b∣o->H b=none->h'.get? b∣o)(slot:∀b o,b≠X.env.locals->b∈X.fs->b∉ch->s.heap.get? b∣o->H b=none->∃sl,h'.get? b=some {o with slots:=sl})(free:∀b o,b∉ch->s.heap.get? b∣o->H b=none->H' b=none)(there:∀b o,b∉ch->s.heap.get? b∣o->∃o',h'.get? b∣o')(YX:∀b xs,H b∣.tup xs->H' b∣.tup xs)(YQ:∀b o u,H b∣.Yu o u->H' b∣.Yu o u)(YY:∀b ps,H b∣.tbl ps->∃more,H' b∣(.tbl (ps++more)))(ns:∀m,s.heap.Ns X.env.locals m->h'.Ns X.env.locals m)(XJ:fc X.prog X.w H' h')(hg:UW g'):
 Inv X XD σ H' {s with heap:=h',gens:=g',drawn:=d',toks:=t'}:=by
 let neL:∀b o,X.s₀.heap.get? b∣o->b≠X.env.locals:=λb o e=>Ur (Uq (WE e) I.ok.above);let ZL:∀b o,X.s₀.heap.get? b∣o->b∉X.ex->b∉ch:=λb o e hx hb=>by
  rcases(ZF b hb).1 with z | z
  ·exact hx z
  ·exact Xt (Uq (WE e) z) (Us _)
 let cellK:∀x c,X.env.cells.lookup x∣c->∀v,s.heap.IsCell c v->h'.IsCell c v:=λx c e v ⟨o,ho,hd⟩=>by
  let nch:c∉ch:=λz=>(ZF c z).2.2.1 x c e rfl;by_cases hc:c∈X.fs
  ·let⟨sl,q⟩:=slot c o (I.cne x c e) hc nch ho (I.Yr x c e);exact⟨_,q,hd⟩
  ·exact⟨o,keep c o (I.cne x c e) hc nch ho (I.Yr x c e),hd⟩
 refine⟨I.ok,I.os,hg,⟨λb o e n hb hx=>?_,λb o e n hb hx=>?_,λb o e n hx=>?_,λb o e hx=>?_,λb xs e=>YX b xs (I.base.YX b xs e),λb o xs e=>YQ b o xs (I.base.YQ b o xs e),λb ps e=>?_⟩,?_,λx c e=>?_,?_,λx c e=>?_,λp hp=>?_,XJ,I.len⟩
 ·exact keep b o (neL b o e) hb (ZL b o e hx) (I.base.keep b o e n hb hx) (I.base.free b o e n hx)
 ·let⟨sl,e1⟩:=I.base.slot b o e n hb hx;let⟨sl',e2⟩:=slot b _ (neL b o e) hb (ZL b o e hx) e1 (I.base.free b o e n hx);exact⟨sl',e2⟩
 ·let⟨o',e1⟩:=I.base.there b o e hx;exact free b o' (ZL b o e hx) e1 (I.base.free b o e n hx)
 ·let⟨o',e1⟩:=I.base.there b o e hx;exact there b o' (ZL b o e hx) e1
 ·let⟨m1,e1⟩:=I.base.YY b ps e;let⟨m2,e2⟩:=YY b _ e1;exact⟨m1++m2,by rw[e2,Array.append_assoc]⟩
 ·let⟨m,hn,hl⟩:=I.loc;refine⟨m,ns m hn,λi x v e1 e2 e3=>?_⟩;let⟨u,r,l⟩:=hl i x v e1 e2 e3;refine⟨u,r,?_⟩;obtain l | ⟨k,c,e,z⟩:=l
  ·exact .inl l
  ·exact .inr ⟨k,c,e,cellK x c e _ z⟩
 ·let⟨v,z⟩:=I.cell x c e;exact⟨v,cellK x c e v z⟩
 ·let⟨m,⟨o,_,_,ho,_⟩,_⟩:=I.loc;exact free _ o (λz=>(ZF _ z).2.1 rfl) ho I.free
 ·let⟨v,o,ho,hd⟩:=I.cell x c e;exact free c o (λz=>(ZF c z).2.2.1 x c e rfl) ho (I.Yr x c e)
 ·let⟨e,n,ne,nf,d⟩:=I.pin p hp;let nch:p.1∉ch:=λz=>(ZF p.1 z).2.2.2 p hp rfl;exact⟨keep p.1 p.2 ne nf nch e n,free p.1 p.2 nch e n,ne,nf,d⟩
theorem Inv.un (I:`j)(u:Un X.fs [] H H' s.heap h')(XJ:fc X.prog X.w H' h'):Inv X XD σ H' {s with heap:=h',toks:=t'}:=by
 let⟨m,⟨o,es,ep,ho,r⟩,_⟩:=id I.loc;let⟨sl,hL⟩:=u.any ho I.free `d;exact I.step (g':=s.gens) (d':=s.drawn) (ch:=[]) (λ_ z=>nomatch z) (λb o _ hb _ e n=>u.keep b o e n hb `d) (λb o _ hb _ e n=>u.slot b o e n hb `d) (λb o _ e n=>u.free b o e n `d) (λb o _ e=>u.there b o e `d) u.YX u.YQ u.YY (λm' hm=>by
  let⟨o',es',ep',Y4,r'⟩:=hm;rw[ho] at Y4;cases Y4
  exact⟨_,es',ep',hL,r'⟩) XJ I.bare
theorem Inv.call (I:`j)(u:Un (mY X.stack) ch H H' s.heap h')(XJ:fc X.prog X.w H' h')(hg:UW g')(ZF:`ab):
 Inv X XD σ H' {s with heap:=h',gens:=g',drawn:=d',toks:=t'}:=by
 let⟨m,⟨o,es,ep,ho,r⟩,_⟩:=id I.loc;let⟨sl,hL⟩:=u.any ho I.free λz=>(ZF _ z).2.1 rfl;exact I.step (ch:=ch) ZF (λb o hL hb hc e n=>u.keep b o e n (λz=>(R9.mp (I.wc b z)).elim hL hb) hc) (λb o _ _ hc e n=>u.any e n hc) (λb o hc e n=>u.free b o e n hc) (λb o hc e=>u.there b o e hc) u.YX u.YQ u.YY (λm' hm=>by
  let⟨o',es',ep',Y4,r'⟩:=hm;rw[ho] at Y4;cases Y4
  exact⟨_,es',ep',hL,r'⟩) XJ hg
theorem Inv.turned (I:`j)(k:∀b o,b≠it->s.heap.get? b∣o->h'.get? b∣o)(hn:H it=none)(hL:it≠X.env.locals)(h1:it∈X.ex∨X.s₀.heap.objs.size<=it)(h2:∀x c,X.env.cells.lookup x∣c->c≠it)(h3:∀p∈X.pn++XD,p.1≠it):Inv X XD σ H {s with heap:=h',toks:=t'}:=by
 let nit:∀b u,H b∣u->b≠it:=λb u e z=>by rw[z,hn] at e;cases e
 refine I.step (g':=s.gens) (d':=s.drawn) (ch:=[it]) (λb hb=>?_) (λb o _ _ hc e _=>k b o (λz=>hc (by simp[z])) e) (λb o _ _ hc e _=>⟨o.slots,k b o (λz=>hc (by simp[z])) e⟩) (λ_ _ _ _ n=>n)
  (λb o hc e=>⟨o,k b o (λz=>hc (by simp[z])) e⟩) (λ_ _ e=>e) (λ_ _ _ e=>e) (λb ps e=>⟨#[],by rw[e];simp⟩) (λm hm=>?_) (λb u e=>?_) I.bare
 ·let e:b=it:= ~~~hb
  subst e;exact⟨h1,hL,h2,h3⟩
 ·let⟨o,es,ep,ho,r⟩:=hm;exact⟨o,es,ep,k _ o (UJ hL) ho,r⟩
 ·refine(I.XJ b u e).Yi (λc v hc q=>k c v ?_ q) (λ_ q=>q) λ_ _ q=>q;obtain z | z:=hc
  ·rw[z];exact nit b u e
  ·exact nit c _ z
theorem Inv.tok (I:`j)(t:Nat):Inv X XD σ H {s with toks:=t}:=I.un (h':=s.heap) (t':=t) Un.refl I.XJ
theorem Inv.kept (I:`j)(k:∀b u,s.heap.get? b∣u->h'.get? b∣u):Inv X XD σ H {s with heap:=h',toks:=t'}:=I.un (Un.kept k) (I.XJ.kept k)
theorem Inv.laid {a:Addr}{o:HO}(I:`j)(k:∀b u,s.heap.get? b∣u->h'.get? b∣u)(hp:⇑s<=a)(new:c9 X.prog X.w (upd H a o) h' a o):
 Inv X XD σ (upd H a o) {s with heap:=h',toks:=t'}:=I.un (Un.laid k hp (I.XJ.fresh hp)) (I.XJ.laid k hp new)
theorem Inv.write {x e:Addr}{o:HO}(I:`j)(mu:DG (H x))(he:e=x∨H e∣.own x)(k:∀b u,b≠e->s.heap.get? b∣u->h'.get? b∣u)(heo:∃u,h'.get? e∣u)(new:c9 X.prog X.w (upd H x o) h' x o):Inv X XD σ (upd H x o) {s with heap:=h',toks:=t'}:=I.un (Un.write mu he k heo) (I.XJ.write mu he k heo new)
theorem Inv.kN {pins':Rk}(I:`j)(h:∀p∈pins',s.heap.get? p.1∣p.2/\H p.1=none/\p.1≠X.env.locals/\p.1∉X.fs/\∀v,p.2.data≠ .cell v):Inv X pins' σ H s:=
 ⟨I.ok,I.os,I.bare,I.base,I.loc,I.cell,I.free,I.Yr,λp hp=>(Se.mp hp).elim (λz=>I.pin p (Sg _ z)) (h p),I.XJ,I.len⟩
theorem wq (hN:N.Nodup){j:Nat}(a:N[i]?∣x)(b:N[j]?∣x):i=j:=by
 let⟨h1,e1⟩:=RP.mp a;let⟨h2,e2⟩:=RP.mp b;exact(T1 hN).mp (e1.trans e2.symm)
theorem uL {Q:Unit->U0->Prop}(I:`j)(hN:X.N.Nodup)(hi:X.N[i]?∣x)(hx:Loc X.env.scope x)(r:RelV v u)(h:∀s',Inv X XD (σ.set i (some v)) H s'->(∃a,WI a s.heap s'.heap/\(a=X.env.locals∨X.env.cells.lookup x∣a))->Q () s')(hf:fM X x:=by first | exact .inl rfl | exact .inr rfl | assumption):wpAny M A (storeName X.env x u) Q E s:=by
 let⟨m,hn,hl⟩:=id I.loc;let hcls:(X.env.scope.kind== .class ||(X.env.scope.kind== .module&&X.env.locals != X.env.globals))=false:=by rw[I.ok.kind];rfl
 let hiσ:i<σ.length:=by rw[I.len];exact(RP.mp hi).1
 let cne:=I.cne;let tracked:∀{a:Addr}{h':Heap},(∃o,s.heap.get? a∣o/\H a=none)->WI a s.heap h'->fc X.prog X.w H h':=λ{a h'} ha hs b ob e=>by
  let⟨_,_,hfree⟩:=ha;refine(I.XJ b ob e).Yi (λc w' hc q=>(hs.2 c ?_).trans q) (λ_ q=>q) λ_ _ q=>q;rintro rfl;obtain rfl | hc:=hc
  ·rw[hfree] at e;cases e
  ·rw[hfree] at hc;cases hc
 obtain hk | hk:=hx
 ·refine wpAny_storeName_local hk hn (λh' Z1 hs=>?_) hcls;let⟨oL,_,_,hoL,_⟩:=id hn;refine h _ ⟨I.ok,I.os,I.bare,⟨λb o e n hb hx=>?_,λb o e n hb hx=>?_,I.base.free,λb o e hx=>?_,I.base.YX,I.base.YQ,I.base.YY⟩,⟨_,Z1,λj y v' e1 e2 e3=>?_⟩,λy c e=>?_,I.free,I.Yr,λp hp=>?_,tracked ⟨oL,hoL,I.free⟩ hs,by simpa using I.len⟩ ⟨_,hs,.inl rfl⟩
  ·exact(hs.2 b (Ur (Uq (WE e) I.ok.above))).trans (I.base.keep b o e n hb hx)
  ·let⟨sl,e1⟩:=I.base.slot b o e n hb hx;exact⟨sl,(hs.2 b (Ur (Uq (WE e) I.ok.above))).trans e1⟩
  ·let⟨o',e1⟩:=I.base.there b o e hx;exact⟨o',(hs.2 b (Ur (Uq (WE e) I.ok.above))).trans e1⟩
  ·by_cases hj:j=i
   ·subst hj;rw[hi] at e1;cases e1
    rw[R8 hiσ] at e2;cases e2
    exact⟨u,r,.inl ⟨hk,`d⟩⟩
   ·rw[Ss (UJ hj)] at e2;let⟨u',r',q⟩:=hl j y v' e1 e2 e3;refine⟨u',r',?_⟩;obtain⟨k,e⟩ | ⟨k,c,e,z⟩:=q
    ·refine .inl ⟨k,?_⟩;have:y≠x:=λe=>hj (wq hN e1 (e▸hi));simp[this,e]
    ·exact .inr ⟨k,c,e,z.sameBut hs (cne y c e)⟩
  ·let⟨w',z⟩:=I.cell y c e;exact⟨w',z.sameBut hs (cne y c e)⟩
  ·let⟨e,n,ne,nf,d⟩:=I.pin p hp;exact⟨(hs.2 p.1 ne).trans e,n,ne,nf,d⟩
 ·let hfn:X.fn x=true:=by
   obtain z | z:=hf
   ·exact z
   ·rw[z] at hk;cases hk
  let⟨c,hc⟩:=I.ok.has x (.inl hk);let⟨w',z⟩:=I.cell x c hc;refine wpAny_storeName_cell I.ok.kind hk hc z (λh' hc' hs=>?_);let⟨oc,hoc,hocd⟩:=id z;refine h {s with heap:=h'} ⟨I.ok,I.os,I.bare,⟨λb o e n hb hx=>?_,λb o e n hb hx=>?_,I.base.free,λb o e hx=>?_,I.base.YX,I.base.YQ,I.base.YY⟩,⟨m,hn.sameBut hs (UJ (cne x c hc)),λj y v' e1 e2 e3=>?_⟩,λy c' e=>?_,I.free,I.Yr,λp hp=>?_,tracked ⟨oc,hoc,I.Yr x c hc⟩ hs,by simpa using I.len⟩ ⟨c,hs,.inr hc⟩
  ·exact(hs.2 b (Ur (Uq (WE e) (I.ok.cab x c hfn hc)))).trans (I.base.keep b o e n hb hx)
  ·let⟨sl,e1⟩:=I.base.slot b o e n hb hx;exact⟨sl,(hs.2 b (Ur (Uq (WE e) (I.ok.cab x c hfn hc)))).trans e1⟩
  ·let⟨o',e1⟩:=I.base.there b o e hx;exact⟨o',(hs.2 b (Ur (Uq (WE e) (I.ok.cab x c hfn hc)))).trans e1⟩
  ·by_cases hj:j=i
   ·subst hj;rw[hi] at e1;cases e1
    rw[R8 hiσ] at e2;cases e2
    exact⟨u,r,.inr ⟨.inl hk,c,hc,hc'⟩⟩
   ·rw[Ss (UJ hj)] at e2;let⟨u',r',q⟩:=hl j y v' e1 e2 e3;refine⟨u',r',?_⟩;obtain q | ⟨k,c',e,z'⟩:=q
    ·exact .inl q
    ·refine .inr ⟨k,c',e,z'.sameBut hs ?_⟩;rintro rfl;exact hj (wq hN e1 (I.ok.inj _ _ _ e hc▸hi))
  ·by_cases hcc:c'=c
   ·subst hcc;exact⟨_,hc'⟩
   ·let⟨w2,z2⟩:=I.cell y c' e;exact⟨w2,z2.sameBut hs hcc⟩
  ·let⟨e,n,ne,nf,d⟩:=I.pin p hp;refine⟨(hs.2 p.1 ?_).trans e,n,ne,nf,d⟩;intro q;rw[q,hoc] at e;let q':oc=p.2:=Option.some.inj e;exact d w' (by rw[← q'];exact hocd)
theorem rL {Q:Unit->U0->Prop}(I:`j)(hN:X.N.Nodup)(hi:X.N[i]?∣x)(hx:Loc X.env.scope x)(r:RelV v u)(h:∀s',Inv X XD (σ.set i (some v)) H s'->Q () s')(hf:fM X x:=by first | exact .inl rfl | exact .inr rfl | assumption):wpAny M A (storeName X.env x u) Q E s:=
 uL I hN hi hx r (λs' I' _=>h s' I') hf
theorem Inv.Oh (I:`j)(ho:s'.os=s.os)(u:Un (mY X.stack) ch H H' s.heap s'.heap)(XJ:fc X.prog X.w H' s'.heap)(hg:UW s'.gens)(ZF:`ab):Inv X XD σ H' s':=by
 let⟨h',g',d',t',o'⟩:=s';let e:o'=s.os:=ho;subst e;exact I.call (g':=g') (t':=t') (d':=d') u XJ hg ZF
end
abbrev XK:=Value->Option Addr->Hp->Prop
abbrev St:=List (Option V)
abbrev VK:=V->Hp->Prop
abbrev TE:=St->Hp->VK->Prop
abbrev TT:=St->Hp->(Bool->Hp->Prop)->Prop
abbrev TA:=St->Hp->(List V->Hp->Prop)->Prop
structure Ends where
 nx:St->Hp->Prop
 rt:VK
 bk:St->Hp->Prop:=λ_ _=>False
 ct:St->Hp->Prop:=λ_ _=>False
abbrev TS:=Ends->St->Hp->Prop
def EP (X:Cx)(XD:Rk)(σ:St)(Q:VK)(u:`aM)(s':U0):Prop:=∃v H',Inv X XD σ H' s'/\RelV v u/\Q v H'
def TP (X:Cx)(XD:Rk)(σ:St)(Q:Bool->Hp->Prop)(b:Bool)(s':U0):Prop:=∃H',Inv X XD σ H' s'/\Q b H'
def AP (X:Cx)(XD:Rk)(σ:St)(Q:List V->Hp->Prop)(us:Rp)(s':U0):Prop:=∃vs H',Inv X XD σ H' s'/\Vals vs us/\Q vs H'
noncomputable def SP (X:Cx)(XD:Rk)(D:Ends)(f:Flow)(s':U0):Prop:=
 match f with
 | .next=>∃σ' H',Inv X XD σ' H' s'/\D.nx σ' H'
 | .brk=>∃σ' H',Inv X XD σ' H' s'/\D.bk σ' H'
 | .cont=>∃σ' H',Inv X XD σ' H' s'/\D.ct σ' H'
 | .ret u=>∃v σ' H',Inv X XD σ' H' s'/\RelV v u/\D.rt v H'
def PE (X:Cx)(e:Expr)(t:TE):Prop:=
 ∀(XD:Rk)(s:U0)(σ:St)(H:Hp)(Q:VK),Inv X XD σ H s->t σ H Q->wpAny `f X.A (eval e X.env) (EP X XD σ Q) X.xe s
def PT (X:Cx)(e:Expr)(t:TT):Prop:=
 ∀(XD:Rk)(s:U0)(σ:St)(H:Hp)(Q:Bool->Hp->Prop),Inv X XD σ H s->t σ H Q->wpAny `f X.A (VA e X.env (eval e X.env)) (TP X XD σ Q) X.xe s
def PW (X:Cx)(e:Expr)(t:TT):Prop:=
 ∀(whole:Sem Value)(XD:Rk)(s:U0)(σ:St)(H:Hp)(Q:Bool->Hp->Prop),Inv X XD σ H s->t σ H Q->wpAny `f X.A (VA e X.env whole) (TP X XD σ Q) X.xe s
variable {e:Expr}
theorem PW.pt {t:TT}(h:PW X e t):PT X e t:=h _
def PA (X:Cx)(es:Rr)(t:TA):Prop:=
 ∀(pos:Pos)(XD:Rk)(s:U0)(σ:St)(H:Hp)(Q:List V->Hp->Prop),Inv X XD σ H s->t σ H Q->wpAny `f X.A (spliced (VQ pos (U5 es X.env))) (AP X XD σ Q) X.xe s
def PS (X:Cx)(st:Stmt)(t:TS):Prop:=
 ∀(XD:Rk)(s:U0)(σ:St)(H:Hp)(D:Ends),Inv X XD σ H s->t D σ H->wpAny `f X.A (exec st X.env) (SP X XD D) X.xe s
def lD (X:Cx)(st:List Stmt)(t:TS):Prop:=
 ∀(XD:Rk)(s:U0)(σ:St)(H:Hp)(D:Ends),Inv X XD σ H s->t D σ H->wpAny `f X.A (execs st X.env) (SP X XD D) X.xe s
theorem a8 {α:Type}{t:Sem α}{Q Q':α->U0->Prop}(h:wpAny M A t Q E s)(hQ:∀a s,Q a s->Q' a s):wpAny M A t Q' E s:=Ve h hQ λ_ _ x=>x
variable {Q:`s}{pos:Pos}{σ:St}{ta:TE}{c:Expr}
section
def QO (i:Nat):TE:=λσ H Q=>∃v,σ[i]?∣some v/\Q v H
def tC (v:V):TE:=λ_ H Q=>Q v H
theorem aV (hN:At X i x):PE X (.Name x pos) (QO i):=by
 intro XD s σ H Q I h;let⟨v,e,h⟩:=h;let⟨m,hn,hl⟩:=I.loc;let⟨u,r,l⟩:=hl i x v hN.n e hN.v;let fin:EP X XD σ Q u s:=⟨v,H,I,r,h⟩;obtain⟨hk,hm⟩ | ⟨hk,c,hc,Y1⟩:=l
 ·exact wpAny_Name (wpAny_loadName_local I.ok.kind hk hn hm fin) hN.d
 ·obtain hk | hk:=hk
  ·exact wpAny_Name (wpAny_loadName_cell I.ok.kind hk hc Y1 fin) hN.d
  ·exact wpAny_Name (wpAny_loadName_free I.ok.kind hk hc Y1 fin hN.c) hN.d
theorem xT {i j pos}:PE X (.Constant (.int i) j pos) (tC (.int i)):=λ_ _ _ H _ I h=>wpAny_Constant_int ⟨.int i,H,I.tok _,⟨_,rfl⟩,h⟩
theorem AI {b j pos}:PE X (.Constant (.bool b) j pos) (tC (.bl b)):=λ_ _ _ H _ I h=>Constant_bool ⟨.bl b,H,I,rfl,h⟩
theorem LP {j pos}:PE X (.Constant .none j pos) (tC .XT):=λ_ _ _ H _ I h=>Constant_none ⟨.XT,H,I,rfl,h⟩
theorem J3 {x j pos}:PE X (.Constant (.str x) j pos) (tC (.str x)):=λ_ _ _ H _ I h=>Calls.Constant_str ⟨.str x,H,I.tok _,⟨_,rfl⟩,h⟩
def Gl (X:Cx)(x:Str):Prop:=X.env.kindOf x∣.globalImplicit
theorem t9 (I:`j)(hg:Gl X x)(hm:X.mg x∣u)(h:Q u s)(hd:Yz x:=by decide):wpAny `f X.A (eval (.Name x pos) X.env) Q E s:=
 Calls.Name_function_global I.ok.kind hg (Calls.loadGlobal_global (by rw[I.ok.glob];exact I.mod.glob.keeps I.bk) hm h) hd
theorem je (I:`j)(hg:Gl X x)(hm:X.mg x=none)(hv:Vq x∣u)(h:Q u s)(hn:x≠"__name__":=by decide)(hd:Yz x:=by decide):wpAny `f X.A (eval (.Name x pos) X.env) Q E s:=by
 let⟨mb,h1,h2⟩:=I.mod.blt;exact Calls.Name_function_global I.ok.kind hg (Calls.loadGlobal_builtin (by rw[I.ok.glob];exact I.mod.glob.keeps I.bk) hm (by rw[I.ok.blt];exact h1.keeps I.bk) ((h2 x hn).trans hv) h) hd
theorem jC (hg:Gl X x)(hm:X.mg x∣u)(r:RelV v u)(hd:Yz x:=by decide):PE X (.Name x pos) (tC v):=
 λ_ _ _ H _ I h=>t9 I hg hm ⟨v,H,I,r,h⟩ hd
theorem Hl (hg:Gl X x)(hm:X.mg x=none)(hv:Vq x∣u)(r:RelV v u)(hn:x≠"__name__":=by decide)(hd:Yz x:=by decide):PE X (.Name x pos) (tC v):=
 λ_ _ _ H _ I h=>je I hg hm hv ⟨v,H,I,r,h⟩ hn hd
variable {a b:Expr}{tb:TE}
def PC (X:Cx)(op:CmpOp)(a b:Expr)(t:TE):Prop:=
 ∀(XD:Rk)(s:U0)(σ:St)(H:Hp)(Q:VK),Inv X XD σ H s->t σ H Q->
  wpAny `f X.A (eval a X.env) (λv s₁=>wpAny `f X.A (eval b X.env) (λu s₂=>wpAny `f X.A (Vb op v u) (EP X XD σ Q) X.xe s₂) X.xe s₁) X.xe s
def tB (t:TE):TT:=λσ H Q=>t σ H λx H1=>∃c,x= .bl c/\Q c H1
theorem mP {op:CmpOp}{t:TE}(h:PC X op a b t)(h1:Vn op b=false:=by first | exact nobehind _ `c `c | rfl):PT X (.Compare a [op] [b] pos) (tB t):=by
 intro XD s σ H Q I hw;refine wpAny_isTrue_Compare1 (a8 (h XD s σ H _ I hw) λv s1 h1=>a8 h1 λu s2 h2=>a8 h2 λc s3 ⟨x,H1,I1,r1,q1⟩=>?_) h1;let⟨d,rfl,q⟩:=q1;cases r1
 exact U9 ⟨H1,I1,q⟩
theorem JL {t:TE}(h:PE X e t)(he:∀whole,VA e X.env whole=(do let v ← whole;VG e.pos;Vk [v] (truthy v)):=by intro _;rfl):PT X e (tB t):=by
 intro XD s σ H Q I hw;refine isTrue_plain (a8 (h XD s σ H _ I hw) λv s1 ⟨x,H1,I1,r1,q1⟩=>?_) (he _);let⟨d,rfl,q⟩:=q1;cases r1
 exact U9 ⟨H1,I1,q⟩
variable {tA tB':TT}{rest:Rr}
noncomputable def QQ (t u:TT):TT:=λσ H Q=>t σ H λc H1=>if c=true then u σ H1 Q else Q false H1
noncomputable def tOr (t u:TT):TT:=λσ H Q=>t σ H λc H1=>if c=true then Q true H1 else u σ H1 Q
def QV (t:TT):TT:=λσ H Q=>t σ H λc H1=>Q (!c) H1
theorem IK (ha:PT X a tA):PW X (.BoolOp .And [a] pos) tA:=by
 intro wh XD s σ H Q I h;refine isTrue_and (a8 (ha XD s σ H Q I h) λc s1 e=>?_);cases c with
 | true=>exact isTrue_and_nil e
 | false=>exact e
theorem Kc (ha:PT X a tA):PW X (.BoolOp .Or [a] pos) tA:=by
 intro wh XD s σ H Q I h;refine isTrue_or (a8 (ha XD s σ H Q I h) λc s1 e=>?_);cases c with
 | false=>exact isTrue_or_nil e
 | true=>exact e
theorem Lz (ha:PT X a tA)(hb:PW X (.BoolOp .And (b::rest) pos) tB'):PW X (.BoolOp .And (a::b::rest) pos) (QQ tA tB'):=by
 intro wh XD s σ H Q I h;refine isTrue_and (a8 `aN λc s1 ⟨H1,I1,q1⟩=>?_);cases c with
 | true=>exact hb wh XD s1 σ H1 Q I1 q1
 | false=>exact⟨H1,I1,q1⟩
theorem OA (ha:PT X a tA)(hb:PW X (.BoolOp .Or (b::rest) pos) tB'):PW X (.BoolOp .Or (a::b::rest) pos) (tOr tA tB'):=by
 intro wh XD s σ H Q I h;refine isTrue_or (a8 `aN λc s1 ⟨H1,I1,q1⟩=>?_);cases c with
 | true=>exact⟨H1,I1,q1⟩
 | false=>exact hb wh XD s1 σ H1 Q I1 q1
theorem LC (ha:PT X a tA):PT X (.UnaryOp .Not a pos) (QV tA):=by
 intro XD s σ H Q I h;exact isTrue_not (ha XD s σ H (λc H1=>Q (!c) H1) I h)
noncomputable def NX (ta tb:TE):TE:=λσ H Q=>ta σ H λx H1=>∃c,x= .bl c/\if c=true then tb σ H1 Q else Q (.bl false) H1
def NH (ta:TE):TE:=λσ H Q=>ta σ H λx H1=>∃c,x= .bl c/\Q (.bl (!c)) H1
theorem K9 {op}{t:TE}(h:PE X a t):PE X (.BoolOp op [a] pos) t:=λXD s σ H Q I hw=>BoolOp_one (h XD s σ H Q I hw)
theorem JP (ha:PE X a ta)(hb:PE X (.BoolOp .And (b::rest) pos) tb):PE X (.BoolOp .And (a::b::rest) pos) (NX ta tb):=by
 intro XD s σ H Q I h;refine BoolOp_and (a8 `aN λv s1 ⟨x,H1,I1,r1,q1⟩=>?_);let⟨c,rfl,q1⟩:=q1;cases r1
 refine U9 ?_;cases c with
 | true=>exact hb XD s1 σ H1 Q I1 q1
 | false=>exact⟨.bl false,H1,I1,rfl,q1⟩
theorem JN (ha:PE X a ta):PE X (.UnaryOp .Not a pos) (NH ta):=by
 intro XD s σ H Q I h;refine UnaryOp_ (a8 `aN λv s1 ⟨x,H1,I1,r1,q1⟩=>?_);let⟨c,rfl,q1⟩:=q1;cases r1
 exact not_of (U9 ⟨.bl (!c),H1,I1,rfl,q1⟩)
noncomputable def tIf (t:TT)(ta tb:TE):TE:=λσ H Q=>t σ H λc H1=>if c=true then ta σ H1 Q else tb σ H1 Q
theorem Fg (hc:PT X c tA)(ha:PE X a ta)(hb:PE X b tb):PE X (.IfExp c a b pos) (tIf tA ta tb):=by
 intro XD s σ H Q I h;refine wpAny_IfExp (a8 (hc XD s σ H _ I h) λd s1 ⟨H1,I1,q1⟩=>?_);cases d with
 | true=>exact ha XD s1 σ H1 Q I1 q1
 | false=>exact hb XD s1 σ H1 Q I1 q1
end
def bt (K:W7)(H:Hp)(a:Addr)(xs:`R):Prop:=
 Rd H a (.lst xs)∨
  ∃(o:Obj)(XF:Array Value)(n:Nat),K.lookup a∣o/\o.cls= .type "list"/\o.dict=none/\o.data= .seq XF n/\XF.size<=UZ/\Vals xs XF.toList
def d7 (K:W7)(H:Hp)(a:Addr)(xs:`R):Prop:=
 Rd H a (.tup xs)∨
  ∃(o:Obj)(XF:Array Value)(n:Nat),K.lookup a∣o/\o.cls= .type "tuple"/\o.data= .seq XF n/\XF.size<=UZ/\Vals xs XF.toList
noncomputable def Ri:Value->Option V
 | .none=>some .XT
 | .bool b=>some (.bl b)
 | .int i _=>some (.int i)
 | .str x _=>some (.str x)
 | .bytes b _=>some (.Zv b)
 | .float b _=>some (.flt b)
 | .ref a=>some (.ref a)
 | .type n=>some (.ty n)
 | _=>none
theorem RelV.abs {x:V}(r:RelV x u):Ri u∣x:=by
 cases x with
 | XT=>cases r;rfl
 | bl _=>cases r;rfl
 | int _=>let⟨t,rfl⟩:=r;rfl
 | str _=>let⟨t,rfl⟩:=r;rfl
 | Zv _=>let⟨t,rfl⟩:=r;rfl
 | flt _=>let⟨t,rfl⟩:=r;rfl
 | ref _=>cases r;rfl
 | ty _=>cases r;rfl
theorem RelV.inj {x y:V}{u:`aM}(r:RelV x u)(q:RelV y u):x=y:=Option.some.inj (r.abs.symm.trans q.abs)
theorem Vals.inj:∀{xs ys:`R}{us:Rp},Vals xs us->Vals ys us->xs=ys
 | _,_,_,.nil,.nil=>rfl
 | _,_,_,.cons r t,.cons r' t'=>by rw[r.inj r',Vals.inj t t']
variable {xs:`R}{K:W7}
section
variable {ys:`R}
theorem bt.of (h:H a∣.lst xs):bt K H a xs:=.inl (.inl h)
theorem d7.of (h:H a∣.tup xs):d7 K H a xs:=.inl (.inl h)
theorem Inv.list (I:`j)(h:bt X.K H a xs):∃XF:Rp,Vals xs XF/\PlainL s.heap a XF.toArray/\xs.length<=UZ:=by
 obtain h | ⟨o,XF,n,hk,hc,hd,hs,hz,r⟩:=h
 ·let⟨z,XF,n,r,e⟩:=h.ok I.XJ;exact⟨XF,r,⟨_,n,e,rfl,rfl,rfl⟩,z⟩
 ·refine⟨XF.toList,r,⟨o,n,I.gy a o hk,hc,hd,by simpa using hs⟩,?_⟩;let e:=r.length;simp only[Ru] at e;cbv
theorem Inv.tuple (I:`j)(h:d7 X.K H a xs):∃XF:Rp,Vals xs XF/\IsTup s.heap a XF.toArray/\xs.length<=UZ:=by
 obtain h | ⟨o,XF,n,hk,hc,hs,hz,r⟩:=h
 ·let⟨z,XF,r,p⟩:=h.ok I.XJ;exact⟨XF,r,p,z⟩
 ·refine⟨XF.toList,r,⟨o,I.gy a o hk,hc,n,by simpa using hs⟩,?_⟩;let e:=r.length;simp only[Ru] at e;cbv
theorem Inv.nH (I:`j)(h:bt X.K H a xs)(h':bt X.K H a ys):xs=ys:=by
 let⟨XF,r,⟨o,n,e,_,_,d⟩,_⟩:=I.list h;let⟨its',r',⟨o',n',e',_,_,d'⟩,_⟩:=I.list h';rw[e] at e';cases e'
 rw[d] at d';injection d' with d1 _;have:XF=its':= ~~~congrArg Array.toList d1
 subst this;exact r.inj r'
theorem Inv.uN (I:`j)(h:d7 X.K H a xs)(h':d7 X.K H a ys):xs=ys:=by
 let⟨XF,r,⟨o,e,_,n,d⟩,_⟩:=I.tuple h;let⟨its',r',⟨o',e',_,n',d'⟩,_⟩:=I.tuple h';rw[e] at e';cases e'
 rw[d] at d';injection d' with d1 _;have:XF=its':= ~~~congrArg Array.toList d1
 subst this;exact r.inj r'
end
abbrev Cx.mr (X:Cx)(E:`s):Cx:={X with xe:=E}
abbrev Cx.gF (X:Cx):Cx:=X.mr λ_ _=>False
theorem Cx.Ok.mr {X:Cx}(ok:X.Ok)(E:`s):(X.mr E).Ok:=
 ⟨ok.mod,ok.kind,ok.glob,ok.blt,ok.above,ok.inj,ok.has,ok.cab,ok.hd,ok.frames,ok.stk,ok.exf,ok.bs,ok.bsz,ok.ZJ,ok.ZA,ok.YF,ok.frf⟩
theorem Cx.Ok.jY (ok:(X.mr E).Ok):X.Ok:=
 ⟨ok.mod,ok.kind,ok.glob,ok.blt,ok.above,ok.inj,ok.has,ok.cab,ok.hd,ok.frames,ok.stk,ok.exf,ok.bs,ok.bsz,ok.ZJ,ok.ZA,ok.YF,ok.frf⟩
theorem Inv.mr (I:`j)(E:`s):Inv (X.mr E) XD σ H s:=⟨I.ok.mr E,I.os,I.bare,I.base,I.loc,I.cell,I.free,I.Yr,I.pin,I.XJ,I.len⟩
theorem Inv.jY (I:Inv (X.mr E) XD σ H s):Inv X XD σ H s:=⟨I.ok.jY,I.os,I.bare,I.base,I.loc,I.cell,I.free,I.Yr,I.pin,I.XJ,I.len⟩
theorem SP.jY {D:Ends}{f:Flow}{s':U0}(h:SP (X.mr E) XD D f s'):SP X XD D f s':=by
 cases f with
 | next=>let⟨σ',H',I,q⟩:=h;exact⟨σ',H',I.jY,q⟩
 | brk=>let⟨σ',H',I,q⟩:=h;exact⟨σ',H',I.jY,q⟩
 | cont=>let⟨σ',H',I,q⟩:=h;exact⟨σ',H',I.jY,q⟩
 | ret u=>let⟨v,σ',H',I,r,q⟩:=h;exact⟨v,σ',H',I.jY,r,q⟩
theorem lD.gF {st:List Stmt}{t:TS}(h:lD X.gF st t):lD X st t:=λXD s σ H D I hw=>
 Ve (h XD s σ H D (I.mr _) hw) (λ_ _ q=>q.jY) λ_ _ z=>RG z
variable {te:TE}{tc:TT}
section
variable {st:Stmt}{rest:List Stmt}{t u:TS}
def MJ:TS:=λD σ H=>D.nx σ H
def Qz (t u:TS):TS:=λD σ H=>t {D with nx:=u D} σ H
theorem Ie:lD X [] MJ:=λ_ _ σ H _ I h=>VH ⟨σ,H,I,h⟩
theorem FR (h1:PS X st t)(h2:lD X rest u):lD X (st::rest) (Qz t u):=by
 intro XD s σ H D I h;refine wpAny_execs_cons (a8 (h1 XD s σ H {D with nx:=u D} I h) λf s1 q=>?_);cases f with
 | next=>
   let⟨σ',H',I',q⟩:=q;exact h2 XD s1 σ' H' D I' q
 | ret v=>exact q
 | brk=>exact q
 | cont=>exact q
theorem Hi (h1:PS X st t):lD X [st] t:=by
 intro XD s σ H D I h;refine wpAny_execs_cons (a8 (h1 XD s σ H D I h) λf s1 q=>?_);cases f with
 | next=>exact VH q
 | ret v=>exact q
 | brk=>exact q
 | cont=>exact q
theorem Inv.quiet (I:`j):interactive X.env=false:=by simp[interactive,I.ok.kind]
def NG (te:TE):TS:=λD σ H=>te σ H λ_ H1=>D.nx σ H1
theorem dO (he:PE X e te)(hs:U7 e none pos.line X.env=pure false:=by rfl):PS X (.Expr e pos) (NG te):=by
 intro XD s σ H D I h;exact wpAny_Expr_any (a8 (he XD s σ H _ I h) λv s1 ⟨x,H1,I1,r1,q1⟩=>⟨σ,H1,I1,q1⟩) I.quiet hs
def QT (te:TE):TS:=λD σ H=>te σ H D.rt
theorem jq (he:PE X e te):PS X (.Return (some e) pos) (QT te):=by
 intro XD s σ H D I h;exact wpAny_Return_some (a8 (he XD s σ H _ I h) λv s1 ⟨x,H1,I1,r1,q1⟩=>⟨x,σ,H1,I1,r1,q1⟩)
noncomputable def Rg (c:TT)(t u:TS):TS:=λD σ H=>c σ H λb H1=>if b=true then t D σ H1 else u D σ H1
theorem NN {a b:List Stmt}(hc:PT X c tc)(ha:lD X a t)(hb:lD X b u):PS X (.If c a b pos) (Rg tc t u):=by
 intro XD s σ H D I h;refine wpAny_If (a8 (hc XD s σ H _ I h) λd s1 ⟨H1,I1,q1⟩=>?_);cases d with
 | true=>exact ha XD s1 σ H1 D I1 q1
 | false=>exact hb XD s1 σ H1 D I1 q1
end
abbrev TG:=V->St->Hp->(St->Hp->Prop)->Prop
abbrev sk:=List V->St->Hp->(St->Hp->Prop)->Prop
def PG (X:Cx)(target:Expr)(t:TG):Prop:=
 ∀(XD:Rk)(s:U0)(σ:St)(H:Hp)(v:V)(u:`aM)(Q:St->Hp->Prop),Inv X XD σ H s->RelV v u->t v σ H Q->
  wpAny `f X.A (Vt target X.env u) (λ_ s'=>∃σ' H',Inv X XD σ' H' s'/\Q σ' H') X.xe s
noncomputable def DM (X:Cx)(ts:Rr)(t:sk):Prop:=
 ∀(XD:Rk)(s:U0)(σ:St)(H:Hp)(vs:`R)(us:Rp)(Q:St->Hp->Prop),Inv X XD σ H s->Vals vs us->t vs σ H Q->
  wpAny `f X.A (assignInOrder ((Vf ts X.env).map (·.2)) us) (λ_ s'=>∃σ' H',Inv X XD σ' H' s'/\Q σ' H') X.xe s
abbrev FA:=V->V->V->Hp->(Hp->Prop)->Prop
def LV (X:Cx)(t:FA):Prop:=
 ∀(XD:Rk)(s:U0)(σ:St)(H:Hp)(o i v:V)(ov iv u:`aM)(Q:Hp->Prop),Inv X XD σ H s->RelV o ov->RelV i iv->RelV v u->t o i v H Q->
  wpAny `f X.A (V4 ov iv u) (λ_ s'=>∃H',Inv X XD σ H' s'/\Q H') X.xe s
abbrev Hb:=V->V->Hp->VK->Prop
def Pm (X:Cx)(op:Operator)(t:Hb):Prop:=
 ∀(XD:Rk)(s:U0)(σ:St)(H:Hp)(x y:V)(v u:`aM)(Q:VK),Inv X XD σ H s->RelV x v->RelV y u->t x y H Q->
  wpAny `f X.A (inplaceOp op v u) (EP X XD σ Q) X.xe s
variable {op:Operator}{es:Rr}{n:Nat}{tg:Expr}{pos':Pos}
def As (i:Nat):TG:=λv σ H Q=>Q (σ.set i (some v)) H
theorem fw (hN:X.N.Nodup)(hi:X.N[i]?∣x)(hx:Loc X.env.scope x)(hf:fM X x:=by first | exact .inl rfl | exact .inr rfl | assumption):PG X (.Name x pos) (As i):=by
 intro XD s σ H v u Q I r h;exact wpAny_assign_Name (rL I hN hi hx r (λs' I'=>⟨_,H,I',h⟩) hf)
def Qr:sk:=λvs σ H Q=>vs=[]/\Q σ H
def Nt (t:TG)(u:sk):sk:=λvs σ H Q=>∃v r,vs=v::r/\t v σ H λσ' H'=>u r σ' H' Q
theorem pH:DM X [] Qr:=by
 intro XD s σ H vs us Q I r h;let⟨e,h⟩:=h;subst e;cases r
 exact assignInOrder_nil ⟨σ,H,I,h⟩
theorem fm {t:TG}{u:sk}(h1:PG X e t)(h2:DM X es u)(hs:(Vf (e::es) X.env).map (·.2)=Vt e X.env::(Vf es X.env).map (·.2):=by rfl):DM X (e::es) (Nt t u):=by
 intro XD s σ H vs us Q I r h;let⟨v,vr,e1,h⟩:=h;subst e1;cases r with
 | cons r rr=>
   rw[hs];refine assignInOrder_cons (a8 (h1 XD s σ H _ _ _ I r h) λ_ s1 ⟨σ1,H1,I1,q1⟩=>?_);exact h2 XD s1 σ1 H1 _ _ Q I1 rr q1
def Qt (K:W7)(n:Nat)(t:sk):TG:=λv σ H Q=>∃a xs,v= .ref a/\d7 K H a xs/\xs.length=n/\t xs σ H Q
theorem xp {k:Nat}{t:sk}(hc:X.calm=true)(h:DM X es t)(hn:(Vf es X.env).length=n:=by rfl)(hst:(Vf es X.env).findIdx? (·.1)=none:=by rfl):PG X (.Tuple es k pos) (Qt X.K n t):=by
 intro XD s σ H v u Q I r hw;let⟨a,xs,e1,hq,hl,hw⟩:=hw;subst e1;cases r
 let⟨XF,rv,ht,hz⟩:=I.tuple hq;refine assign_Tuple_tuple (I.ok.hd hc) ht (by simp[hn,← hl,rv.length]) hst λh' hx=>?_;let I1:Inv X XD σ H {s with heap:=h'}:=I.kept (t':=s.toks) λb o e=>hx b o (Ur (WE e)) e;exact h XD _ σ H xs _ Q I1 (~~~rv) hw
def Qs (to ti:TE)(t:FA):TG:=λv σ H Q=>to σ H λo H1=>ti σ H1 λi H2=>t o i v H2 λH3=>Q σ H3
theorem vL {o i:Expr}{to ti:TE}{t:FA}(ho:PE X o to)(hi:PE X i ti)(hs:LV X t)(ha:∀v,Vt (.Subscript o i pos) X.env v=(do
  let ov ← Vk [v] (eval o X.env)
  let iv ← Vk [v,ov] (eval i X.env)
  VG pos
  Vk [v,ov,iv] (V4 ov iv v)
  release [v,ov,iv] []):=by intro _;rfl):PG X (.Subscript o i pos) (Qs to ti t):=by
 intro XD s σ H v u Q I r h;rw[ha];refine U1 (Vg (a8 (ho XD s σ H _ I h) λov s1 ⟨x,H1,I1,r1,q1⟩=>?_));refine U1 (Vg (a8 (hi XD s1 σ H1 _ I1 q1) λiv s2 ⟨y,H2,I2,r2,q2⟩=>?_));refine U1 (VS (U1 (Vg (a8 (hs XD s2 σ H2 x y v ov iv u _ I2 r1 r2 r q2) λ_ s3 ⟨H3,I3,q3⟩=>?_))));exact wpAny_release ⟨σ,H3,I3,q3⟩
def Ee (te:TE)(g:TG):TS:=λD σ H=>te σ H λx H1=>g x σ H1 D.nx
theorem sL {g:TG}(he:PE X e te)(hg:PG X tg g)(hs:VE [tg] e pos.line X.env=pure false:=by rfl)(hw:VF [tg] e X.env=pure none:=by rfl)(h1:(Vf [tg] X.env).map (·.2)=[Vt tg X.env]:=by rfl):PS X (.Assign [tg] e pos) (Ee te g):=by
 intro XD s σ H D I h;refine wpAny_Assign_stores (a8 (he XD s σ H _ I h) λv s1 ⟨x,H1,I1,r1,q1⟩=>?_) hs hw;rw[h1];exact a8 (hg XD s1 σ H1 x v _ I1 r1 q1) λ_ s2 q=>q
theorem j8 (hN:X.N.Nodup)(hi:X.N[i]?∣x)(hx:Loc X.env.scope x)(he:PE X e te)(hs:U7 e (some (.Name x pos')) pos.line X.env=pure false:=by rfl)(hf:fM X x:=by first | exact .inl rfl | exact .inr rfl | assumption):
 PS X (.Assign [.Name x pos'] e pos) (Ee te (As i)):=by
 intro XD s σ H D I h;refine wpAny_Assign_Name (a8 (he XD s σ H _ I h) λv s1 ⟨y,H1,I1,r1,q1⟩=>?_) hs;exact rL I1 hN hi hx r1 (λs2 I2=>⟨_,H1,I2,q1⟩) hf
def Q4 (i:Nat)(te:TE)(ti:Hb):TS:=λD σ H=>∃x,σ[i]?∣some x/\te σ H λy H1=>ti x y H1 λz H2=>D.nx (σ.set i (some z)) H2
theorem MC {ti:Hb}(hN:X.N.Nodup)(hi:X.N[i]?∣x)(hx:Loc X.env.scope x)(he:PE X e te)(ho:Pm X op ti)(hf:fM X x:=by first | exact .inl rfl | exact .inr rfl | assumption):
 PS X (.AugAssign (.Name x pos') op e pos) (Q4 i te ti):=by
 intro XD s σ H D I h;let⟨v,e1,h⟩:=h;let⟨m,hn,hl⟩:=I.loc;let vis:BR X.env.scope x:=by obtain k | k:=hx;exact .inl k;exact .inr (.inl k)
 let⟨u,r,l⟩:=hl i x v hi e1 vis;refine wpAny_AugAssign_Name ?_;let go:wpAny `f X.A (eval e X.env) (λw s₂=>wpAny `f X.A (inplaceOp op u w) (λr s₃=>wpAny `f X.A (storeName X.env x r) (λ_=>SP X XD D .next) X.xe s₃) X.xe s₂) X.xe s:=by
  refine a8 (he XD s σ H _ I h) λw s1 ⟨y,H1,I1,r1,q1⟩=>?_;refine a8 (ho XD s1 σ H1 v y u w _ I1 r r1 q1) λz s2 ⟨zv,H2,I2,r2,q2⟩=>?_;exact rL I2 hN hi hx r2 (λs3 I3=>⟨_,H2,I3,q2⟩) hf
 obtain⟨hk,hm⟩ | ⟨hk,c,hc,Y1⟩:=l
 ·exact wpAny_loadName_local I.ok.kind hk hn hm go
 ·obtain hk | hk:=hk
  ·exact wpAny_loadName_cell I.ok.kind hk hc Y1 go
  ·obtain k | k:=hx
   ·have:X.env.scope.names.lookup x∣.free:=hk;rw[k] at this;cases this
   ·have:X.env.scope.names.lookup x∣.free:=hk;rw[k] at this;cases this
def ipI (f:Int->Int->Int):Hb:=λx y H Q=>∃i j,x= .int i/\y= .int j/\Q (.int (f i j)) H
theorem KZ:Pm X .Add (ipI λi j=>i+j):=by
 intro XD s σ H x y v u Q I r1 r2 h;let⟨i,j,e1,e2,q⟩:=h;subst e1;subst e2;let⟨t,rfl⟩:=r1;let⟨t',rfl⟩:=r2;exact iadd_int ⟨.int _,H,I.tok _,⟨_,rfl⟩,q⟩
variable {body:List Stmt}{tb:TS}
noncomputable def LQ (c:TT)(tb:TS):TS:=λD σ H=>∃W:Nat->St->Hp->Prop,(∃m,W m σ H)/\∀m σ H,W m σ H->
 c σ H λb H1=>if b=true then∃N:St->Hp->Prop,(∀σ' H',N σ' H'->∃m',m'<m/\W m' σ' H')/\tb {D with nx:=N,ct:=N,bk:=D.nx} σ H1 else D.nx σ H1
theorem EK (hp:VR `f X.A X.env X.xe)(hc:PT X c tc)(hb:lD X body tb):PS X (.While c body [] pos) (LQ tc tb):=by
 intro XD s σ H D I h;let⟨W,⟨m0,w0⟩,turn⟩:=h;refine wpAny_While (codeAny_whileLoop (λn s'=>∃σ' H',Inv X XD σ' H' s'/\W n σ' H') ?_ m0 ⟨σ,H,I,w0⟩);rintro n s1 ⟨σ1,H1,I1,w1⟩;refine Vs hp (a8 (hc XD s1 σ1 H1 _ I1 (turn n σ1 H1 w1)) λb s2 ⟨H2,I2,q2⟩=>?_);cases b with
 | true=>
   let⟨N,hN,q2⟩:=q2;rw[Xv rfl];refine Vs hp (a8 (hb XD s2 σ1 H2 _ I2 q2) λf s3 q3=>?_);cases f with
   | next=>
     let⟨σ3,H3,I3,n3⟩:=q3;let⟨m',hm,w3⟩:=hN σ3 H3 n3;exact⟨m',hm,σ3,H3,I3,w3⟩
   | cont=>
     let⟨σ3,H3,I3,n3⟩:=q3;let⟨m',hm,w3⟩:=hN σ3 H3 n3;exact⟨m',hm,σ3,H3,I3,w3⟩
   | brk=>exact q3
   | ret v=>exact q3
 | false=>
   rw[Xu Rv];exact VH ⟨σ1,H2,I2,q2⟩
structure It where
 go:Nat->Hp->Prop
 yld:Nat->Hp->V->Hp->Prop
 stop:Nat->Hp->Prop
def mG (X:Cx)(XD:Rk)(H:Hp)(b:Addr):Prop:=
 H b=none/\b≠X.env.locals/\b∉X.fs/\(b∈X.ex∨X.s₀.heap.objs.size<=b)/\(∀x c,X.env.cells.lookup x∣c->c≠b)/\∀p∈X.pn++XD,p.1≠b
theorem Inv.ka (I:`j)(hb:⇑s<=b)(hn:H' b=none):mG X XD H' b:=by
 refine⟨hn,Uy (Uq I.lt hb),I.Qw hb,.inr (Um I.sz hb),λx c e z=>?_,λp hp z=>?_⟩
 ·let⟨v,q⟩:=I.cell x c e;exact Xt (Uq q.lt (by rw[z];exact hb)) (Us _)
 ·exact Xt (Uq (WE (I.pin p hp).1) (by rw[z];exact hb)) (Us _)
structure Turn (P:U4)(w:World)(K:W7)(tg:Expr)(J:It)(fp:Ro)(it:Addr)(tn:Nat->Heap->Prop):Prop where
 mem:it∈fp
 obj:∀i h,tn i h->∀b∈fp,∃o,h.get? b∣o/\∀v,o.data≠ .cell v
 keep:∀i h h',tn i h->(∀b∈fp,∀o,h.get? b∣o->h'.get? b∣o)->tn i h'
 item:∀(X:Cx),X.prog=P->X.w=w->X.K=K->X.calm=true->∀(i:Nat)(XD:Rk)(s:U0)(σ:St)(H:Hp)(E:`s),Inv X XD σ H s->(∀b∈fp,mG X XD H b)->tn i s.heap->J.go i H->
  wpAny (model P w) X.A (VY (.ref it)) (λr s1=>∃u,r∣u/\
   wpAny (model P w) X.A (VI tg (.ref it) u) (λ_ s2=>∃x H',Inv X XD σ H' s2/\RelV x u/\J.yld i H x H'/\tn (i+1) s2.heap/\∀b∈fp,H' b=none) E s1) E s
 done:∀(X:Cx),X.prog=P->X.w=w->X.K=K->X.calm=true->∀(i:Nat)(XD:Rk)(s:U0)(σ:St)(H:Hp)(E:`s),Inv X XD σ H s->(∀b∈fp,mG X XD H b)->tn i s.heap->J.stop i H->
  wpAny (model P w) X.A (VY (.ref it)) (λr s1=>r=none/\Inv X XD σ H s1) E s
 self:∀(A:U6)(i:Nat)(s:U0)(Q:`s)(E:`s),tn i s.heap->Q (.ref it) s->wpAny (model P w) A (pyIter (.ref it)) Q E s
abbrev TI:=St->Hp->(It->Hp->Prop)->Prop
def L7 (X:Cx)(XD:Rk)(σ:St)(tg:Expr)(R:It->Hp->Prop)(itv:`aM)(s2:U0):Prop:=
 ∃(it:Addr)(fp:Ro)(tn:Nat->Heap->Prop)(J:It)(H':Hp),itv= .ref it/\Inv X XD σ H' s2/\Turn X.prog X.w X.K tg J fp it tn/\tn 0 s2.heap/\(∀b∈fp,mG X XD H' b)/\R J H'
def PI (X:Cx)(tg iter:Expr)(wi:TI):Prop:=
 ∀(XD:Rk)(s:U0)(σ:St)(H:Hp)(R:It->Hp->Prop),Inv X XD σ H s->wi σ H R->
  wpAny `f X.A (eval iter X.env) (λv s1=>wpAny `f X.A (pyIter v) (L7 X XD σ tg R) X.xe s1) X.xe s
theorem pK {n:String}{vs:Array Value}{Q:Unit->U0->Prop}(ho:s.heap.get? it∣o)(hc:o.cls= .type n)(hd:o.data= .fields vs)(hn:["enumerate","zip","dict_itemiterator","dict_reverseitemiterator","odict_iterator","itertools.zip_longest","itertools.pairwise"].contains n=false)(hQ:Q () s):wpAny M A (VI tg (.ref it) u) Q E s:=by
 unfold VI;cases tg<;>first
  | exact U3 hQ
  | (cases u<;>first
   | exact U3 hQ
   | (refine U1 (wpAny_load ho ?_)
      rw[hc,hd];show wpAny M A (if(["enumerate","zip","dict_itemiterator","dict_reverseitemiterator","odict_iterator","itertools.zip_longest","itertools.pairwise"].contains n&&vs[0]?==some (V5 _))=true then _ else _) Q E s;rw[Xu (by intro h;rw[hn,Bool.false_and] at h;cases h)]
      exact U3 hQ))
def OP (K:W7)(a:Addr):It:=
 ⟨λi H=>∃xs x,bt K H a xs/\xs[i]?∣x,λi H x H'=>H'=H/\∀xs,bt K H a xs->xs[i]?∣x,λi H=>∃xs,bt K H a xs/\xs.length<=i⟩
def O4 (K:W7)(a:Addr):It:=
 ⟨λi H=>∃xs x,d7 K H a xs/\xs[i]?∣x,λi H x H'=>H'=H/\∀xs,d7 K H a xs->xs[i]?∣x,λi H=>∃xs,d7 K H a xs/\xs.length<=i⟩
def Dl (lo:Int)(n:Nat):It:=⟨λi _=>i<n,λi H x H'=>H'=H/\x= .int (lo+i),λi _=>n<=i⟩
theorem Cs (a it:Addr):Turn P w K tg (OP K a) [it] it (λi h=>h.IsListIter it a i) where
 mem:=`d
 obj:=λi h st b hb=>by
  let e:b=it:= ~~~hb
  subst e;let⟨o,e,c,d⟩:=st;exact⟨o,e,λv z=>by rw[d] at z;cases z⟩
 keep:=λi h h' st k=>st.at λo e=>k it `d o e
 item:=by
  intro X hP hw hK hc i XD s σ H E I hf st hg;subst hP hw hK;let⟨xs,x,hq,hx⟩:=hg;let⟨XF,rv,p,hz⟩:=I.list hq;let⟨u,hu,ru⟩:=rv.get hx;let⟨f0,f1,f2,f3,f4,f5⟩:=hf it `d;refine wpAny_pyNext_list_item st p.isList (x:=u) (~~~hu) λh' Zf sb=>?_;let I1:Inv X XD σ H {s with heap:=h'}:=I.turned (t':=s.toks) (λb o hb e=>(sb.2 b hb).trans e) f0 f1 f3 f4 f5;let⟨o,e,c,d⟩:=id Zf;exact⟨u,rfl,pK (s:={s with heap:=h'}) e c d `c ⟨x,H,I1,ru,⟨rfl,λys hy=>by rw[I.nH hy hq];exact hx⟩,Zf,λb hb=>(hf b hb).1⟩⟩
 done:=by
  intro X hP hw hK hc i XD s σ H E I hf st hg;subst hP hw hK;let⟨xs,hq,hx⟩:=hg;let⟨XF,rv,p,hz⟩:=I.list hq;let⟨f0,f1,f2,f3,f4,f5⟩:=hf it `d;let hl:=rv.length;exact wpAny_pyNext_list_end (I.ok.hd hc) st p.isList (by simp;cbv) λh' eb=>⟨rfl,I.turned (t':=s.toks) (λb o hb e=>eb b o hb e) f0 f1 f3 f4 f5⟩
 self:=λ_ _ _ _ _ st h=>wpAny_pyIter_listiter st h
theorem AV (a it:Addr):Turn P w K tg (O4 K a) [it] it (λi h=>h.IsTupleIter it a i) where
 mem:=`d
 obj:=λi h st b hb=>by
  let e:b=it:= ~~~hb
  subst e;let⟨o,e,c,d⟩:=st;exact⟨o,e,λv z=>by rw[d] at z;cases z⟩
 keep:=λi h h' st k=>st.at λo e=>k it `d o e
 item:=by
  intro X hP hw hK hc i XD s σ H E I hf st hg;subst hP hw hK;let⟨xs,x,hq,hx⟩:=hg;let⟨XF,rv,p,hz⟩:=I.tuple hq;let⟨u,hu,ru⟩:=rv.get hx;let⟨f0,f1,f2,f3,f4,f5⟩:=hf it `d;refine wpAny_pyNext_tuple_item st (show s.heap.IsTuple a XF.toArray from p) (x:=u) (~~~hu) λh' Zf sb=>?_;let I1:Inv X XD σ H {s with heap:=h'}:=I.turned (t':=s.toks) (λb o hb e=>(sb.2 b hb).trans e) f0 f1 f3 f4 f5;let⟨o,e,c,d⟩:=id Zf;exact⟨u,rfl,pK (s:={s with heap:=h'}) e c d `c ⟨x,H,I1,ru,⟨rfl,λys hy=>by rw[I.uN hy hq];exact hx⟩,Zf,λb hb=>(hf b hb).1⟩⟩
 done:=by
  intro X hP hw hK hc i XD s σ H E I hf st hg;subst hP hw hK;let⟨xs,hq,hx⟩:=hg;let⟨XF,rv,p,hz⟩:=I.tuple hq;let⟨f0,f1,f2,f3,f4,f5⟩:=hf it `d;let hl:=rv.length;exact wpAny_pyNext_tuple_end (I.ok.hd hc) st (show s.heap.IsTuple a XF.toArray from p) (by simp;cbv) λh' eb=>⟨rfl,I.turned (t':=s.toks) (λb o hb e=>eb b o hb e) f0 f1 f3 f4 f5⟩
 self:=λ_ _ _ _ _ st h=>wpAny_pyIter_tupleiter st h
theorem Bn (it:Addr)(lo:Int)(n:Nat):Turn P w K tg (Dl lo n) [it] it (λi h=>V2 h it (lo+(i:Nat)*1) ((n:Int)-(i:Nat)) 1) where
 mem:=`d
 obj:=λi h st b hb=>by
  let e:b=it:= ~~~hb
  subst e;exact⟨_,st,λv z=>by
   let z':Data.fields _=Data.cell v:=z;cases z'⟩
 keep:=λi h h' st k=>k it `d _ st
 item:=by
  intro X hP hw hK hc i XD s σ H E I hf st hg;subst hP hw hK;let⟨f0,f1,f2,f3,f4,f5⟩:=hf it `d;let W:=Walks.range (prog:=X.prog) (w:=X.w) (I.ok.hd hc) it lo 1 n;refine W.item i s _ _ hg st λv h' tk hv Zf kk=>?_;let⟨t,rfl⟩:=hv;let I1:Inv X XD σ H {s with heap:=h',toks:=tk}:=I.turned (λb o hb e=>kk b o (~~~hb) e) f0 f1 f3 f4 f5;refine⟨_,rfl,pK (s:={s with heap:=h',toks:=tk}) (n:="range_iterator") Zf rfl rfl `c ⟨.int (lo+i),H,I1,⟨t,?_⟩,⟨rfl,rfl⟩,Zf,λb hb=>(hf b hb).1⟩⟩;rw[Int.mul_one]
 done:=by
  intro X hP hw hK hc i XD s σ H E I hf st hg;subst hP hw hK;let⟨f0,f1,f2,f3,f4,f5⟩:=hf it `d;exact wpAny_pyNext_range_end (I.ok.hd hc) st (by have:n<=i:=hg;cbv) λh' eb=>⟨rfl,I.turned (t':=s.toks) (λb o hb e=>eb b o hb e) f0 f1 f3 f4 f5⟩
 self:=λ_ _ _ _ _ st h=>wpAny_pyIter_rangeiter st h
variable {l:Expr}{tl:TE}
def M8 (K:W7)(tl:TE):TI:=λσ H R=>tl σ H λx H1=>∃a,x= .ref a/\(∃xs,bt K H1 a xs)/\R (OP K a) H1
def Qv (K:W7)(tl:TE):TI:=λσ H R=>tl σ H λx H1=>∃a,x= .ref a/\(∃xs,d7 K H1 a xs)/\R (O4 K a) H1
theorem zV (hl:PE X l tl):PI X tg l (M8 X.K tl):=by
 intro XD s σ H R I h;refine a8 (hl XD s σ H _ I h) λv s1 ⟨x,H1,I1,r1,q1⟩=>?_;let⟨a,e,⟨xs,hq⟩,q⟩:=q1;subst e;cases r1
 let⟨XF,rv,p,hz⟩:=I1.list hq;refine Vw p.isList ?_;refine⟨⇑s1,[⇑s1],_,_,H1,rfl,I1.kept (t':=s1.toks) λb o e=>WC _ e,Cs a _,⟨_,WG _ rfl,rfl,rfl⟩,λb hb=>?_,q⟩;let e:b=⇑s1:= ~~~hb
 subst e;exact I1.ka (Uk _) (I1.XJ.fresh (Uk _))
theorem BU (hl:PE X l tl):PI X tg l (Qv X.K tl):=by
 intro XD s σ H R I h;refine a8 (hl XD s σ H _ I h) λv s1 ⟨x,H1,I1,r1,q1⟩=>?_;let⟨a,e,⟨xs,hq⟩,q⟩:=q1;subst e;cases r1
 let⟨XF,rv,p,hz⟩:=I1.tuple hq;refine wpAny_pyIter_tuple (show s1.heap.IsTuple a XF.toArray from p) ?_;refine⟨⇑s1,[⇑s1],_,_,H1,rfl,I1.kept (t':=s1.toks) λb o e=>WC _ e,AV a _,⟨_,WG _ rfl,rfl,rfl⟩,λb hb=>?_,q⟩;let e:b=⇑s1:= ~~~hb
 subst e;exact I1.ka (Uk _) (I1.XJ.fresh (Uk _))
theorem xI {R:It->Hp->Prop}{lo hi:Int}{t u v:Tok}{tk:Nat}(I:`j)(h1: -(2 ^ 62)<=lo)(h2:lo<2 ^ 62)(h3: -(2 ^ 62)<=hi)(h4:hi<2 ^ 62)(q:R (Dl lo (hi-lo).toNat) H):wpAny `f X.A (pyIter (.ref ⇑s)) (L7 X XD σ tg R) E {s with heap:=s.heap.push {cls:=.type "range",data:=.fields #[.int lo t,.int hi u,.int 1 v]},toks:=tk}:=by
 refine wpAny_pyIter_range (IsRange.new ..) (small_one h1 h2 h3 h4) ?_;let I1:Inv X XD σ H {s with heap:=s.heap.push {cls:=.type "range",data:=.fields #[.int lo t,.int hi u,.int 1 v]},toks:=tk}:=I.kept λb o e=>WC _ e;refine⟨(s.heap.push {cls:=.type "range",data:=.fields #[.int lo t,.int hi u,.int 1 v]}).objs.size,[(s.heap.push {cls:=.type "range",data:=.fields #[.int lo t,.int hi u,.int 1 v]}).objs.size],_,_,H,rfl,
  I1.kept (t':=tk) λb o e=>WC _ e,Bn _ lo (hi-lo).toNat,?_,λb hb=>?_,q⟩
 ·let e1:lo+((0:Nat):Int)*1=lo:=`d
  let e2:(((hi-lo).toNat:Nat):Int)-((0:Nat):Int)=Wh lo hi 1:=by rw[rangeSize_one];split<;>cbv
  show V2 _ _ (lo+((0:Nat):Int)*1) ((((hi-lo).toNat:Nat):Int)-((0:Nat):Int)) 1;rw[e1,e2];exact WG _ rfl
 ·let e:b=(s.heap.push {cls:=.type "range",data:=.fields #[.int lo t,.int hi u,.int 1 v]}).objs.size:= ~~~hb
  subst e;exact I1.ka (Uk _) (I1.XJ.fresh (Uk _))
def Np (ta:TA):TI:=λσ H R=>ta σ H λvs H1=>∃j:Int,vs=[.int j]/\ -(2 ^ 62)<=j/\j<2 ^ 62/\R (Dl 0 j.toNat) H1
def Ng (ta:TA):TI:=λσ H R=>ta σ H λvs H1=>∃i j:Int,vs=[.int i,.int j]/\(-(2 ^ 62)<=i/\i<2 ^ 62/\ -(2 ^ 62)<=j/\j<2 ^ 62)/\R (Dl i (j-i).toNat) H1
theorem BS {a:Expr}{ta:TA}{p:Pos}(hg:Gl X "range")(hm:X.mg "range"=none)(ha:PA X [a] ta)(hs:fU X a:=by rfl):PI X tg (.Call (.Name "range" p) [a] [] pos) (Np ta):=by
 intro XD s σ H R I h;refine Call_ (je I hg hm UX (UQ `U hs rfl));let⟨j,e,q1,q2,q⟩:=q1;subst e;cases r1 with
 | cons r rr=>
   cases rr
   let⟨t,rfl⟩:=r;exact call_range_1 (xI I1 `a `a q1 q2 (~~~q))
theorem Dm {a b:Expr}{ta:TA}{p:Pos}(hg:Gl X "range")(hm:X.mg "range"=none)(ha:PA X [a,b] ta)(hs:v5 X a b:=by rfl)(Yh:fU X b:=by rfl):
 PI X tg (.Call (.Name "range" p) [a,b] [] pos) (Ng ta):=by
 intro XD s σ H R I h;refine Call_ (je I hg hm UX (UQ `U (by first | rw[dh,hs,Yh] | rw[hs,Yh]) (by rw[Yh];rfl)));let⟨i,j,e,⟨q1,q2,q3,q4⟩,q⟩:=q1;subst e;cases r1 with
 | cons r rr=>
   cases rr with
   | cons r' rr=>
     cases rr
     let⟨t,rfl⟩:=r;let⟨t',rfl⟩:=r';exact call_range_2 (xI I1 q1 q2 q3 q4 q)
def QL (wi:TI)(g:TG)(tb:TS):TS:=λD σ H=>wi σ H λJ H1=>∃W:Nat->Nat->St->Hp->Prop,(∃m,W 0 m σ H1)/\∀i m σ H,W i m σ H->
 (J.stop i H/\D.nx σ H)∨(J.go i H/\∃N:St->Hp->Prop,(∀σ' H',N σ' H'->∃m',m'<m/\W (i+1) m' σ' H')/\∀x H',J.yld i H x H'->g x σ H' λσ2 H2=>tb {D with nx:=N,ct:=N,bk:=D.nx} σ2 H2)
noncomputable def mR (fp:Ro)(h:Heap):Rk:=fp.filterMap λb=>(h.get? b).map λo=>(b,o)
theorem kF {fp:Ro}(hb:b∈fp)(e:h.get? b∣o):(b,o)∈mR fp h:=T3.mpr ⟨b,hb,by rw[e];rfl⟩
theorem Cu {fp:Ro}{p:Addr×Obj}(hp:p∈mR fp h):p.1∈fp/\h.get? p.1∣p.2:=by
 let⟨b,hb,e⟩:=T3.mp hp;cases q:h.get? b with
 | none=>rw[q] at e;cases e
 | some o=>
   rw[q] at e;let e':(b,o)=p:=Option.some.inj e;subst e';exact⟨hb,q⟩
theorem Inv.pinned {fp:Ro}(I:`j)(hf:∀b∈fp,mG X XD H b)(ho:∀b∈fp,∃o,s.heap.get? b∣o/\∀v,o.data≠ .cell v):Inv X (XD++mR fp s.heap) σ H s:=
 I.kN λp hp=>(Se.mp hp).elim (λz=>I.pin p (Sa _ z)) λz=>by
   let⟨hb,e⟩:=Cu z;let⟨f0,f1,f2,_⟩:=hf p.1 hb;let⟨o,e',d⟩:=ho p.1 hb;rw[e] at e';cases e'
   exact⟨e,f0,f1,f2,d⟩
theorem Inv.qB {pl:Rk}(I:Inv X (XD++pl) σ H s):Inv X XD σ H s:=I.kN λp hp=>I.pin p (Sa _ (Sg _ hp))
theorem CZ {iter:Expr}{wi:TI}{g:TG}(hp:VR `f X.A X.env X.xe)(hc:X.calm=true)(hi:PI X tg iter wi)(hg:PG X tg g)(hb:lD X body tb)(hs:∀x,Va iter X.env x=pure x:=by intro _;rfl):PS X (.For tg iter body [] pos) (QL wi g tb):=by
 intro XD s σ H D I h;refine wpAny_For (a8 (hi XD s σ H _ I h) λv s1 h1=>a8 h1 λitv s2 h2=>?_) hs;let⟨it,fp,tn,J,H2,e,I2,T,Z8,f2,W,⟨m0,w0⟩,turn⟩:=h2;subst e
 let stat:∀{H':Hp},(∀b∈fp,H' b=none)->∀b∈fp,mG X XD H' b:=λhn b hb=>⟨hn b hb,(f2 b hb).2⟩;refine codeAny_forLoop_any (λn s'=>∃i σ' H',Inv X XD σ' H' s'/\tn i s'.heap/\(∀b∈fp,H' b=none)/\W i n σ' H') ?_ m0 ⟨0,σ,H2,I2,Z8,λb hb=>(f2 b hb).1,w0⟩;rintro n s3 ⟨i,σ3,H3,I3,st3,fr3,w3⟩;obtain⟨stop,qn⟩ | ⟨go,N,hN,step⟩:=turn i n σ3 H3 w3
 ·refine Vs hp (a8 (T.done X rfl rfl rfl hc i XD s3 σ3 H3 X.xe I3 (stat fr3) st3 stop) λr s4 ⟨hr,I4⟩=>?_);subst hr;exact VH ⟨σ3,H3,I4,qn⟩
 ·refine Vs hp (a8 (T.item X rfl rfl rfl hc i XD s3 σ3 H3 X.xe I3 (stat fr3) st3 go) λr s4 ⟨u,hr,h4⟩=>?_);subst hr;refine Vs hp (a8 h4 λ_ s5 ⟨x,H5,I5,r5,y5,st5,fr5⟩=>?_);let I5':=I5.pinned (stat fr5) (T.obj _ _ st5);refine Vs hp (a8 (hg _ s5 σ3 H5 x u _ I5' r5 (step x H5 y5)) λ_ s6 ⟨σ6,H6,I6,q6⟩=>?_);refine Vs hp (a8 (hb _ s6 σ6 H6 _ I6 q6) λf s7 q7=>?_);let again:∀{σ7:St}{H7:Hp},Inv X (XD++mR fp s5.heap) σ7 H7 s7->N σ7 H7->∃m,m<n/\∃i σ' H',Inv X XD σ' H' s7/\tn i s7.heap/\(∀b∈fp,H' b=none)/\W i m σ' H':=λ{σ7 H7} I7 n7=>by
   let⟨m',hm,w7⟩:=hN σ7 H7 n7;refine⟨m',hm,i+1,σ7,H7,I7.qB,T.keep _ _ _ st5 λb hb o e=>(I7.pin (b,o) (Sa _ (Sa _ (kF hb e)))).1,λb hb=>?_,w7⟩;let⟨o,e,d⟩:=T.obj _ _ st5 b hb;exact(I7.pin (b,o) (Sa _ (Sa _ (kF hb e)))).2.1
  cases f with
  | next=>let⟨σ7,H7,I7,n7⟩:=q7;exact again I7 n7
  | cont=>let⟨σ7,H7,I7,n7⟩:=q7;exact again I7 n7
  | brk=>let⟨σ7,H7,I7,q7⟩:=q7;exact⟨σ7,H7,I7.qB,q7⟩
  | ret v=>let⟨x7,σ7,H7,I7,r7,q7⟩:=q7;exact⟨x7,σ7,H7,I7.qB,r7,q7⟩
abbrev R2:=V->V->Hp->VK->Prop
def fk (X:Cx)(f:Value->Value->Sem Value)(r:R2):Prop:=
 ∀(XD:Rk)(s:U0)(σ:St)(H:Hp)(x y:V)(v u:`aM)(Q:VK),Inv X XD σ H s->RelV x v->RelV y u->r x y H Q->
  wpAny `f X.A (f v u) (EP X XD σ Q) X.xe s
def J8 (X:Cx)(f:Value->Sem Value)(r:V->Hp->VK->Prop):Prop:=
 ∀(XD:Rk)(s:U0)(σ:St)(H:Hp)(x:V)(v:`aM)(Q:VK),Inv X XD σ H s->RelV x v->r x H Q->
  wpAny `f X.A (f v) (EP X XD σ Q) X.xe s
def gb (X:Cx)(f:`aM)(r:List V->Hp->VK->Prop):Prop:=
 ∀(XD:Rk)(s:U0)(σ:St)(H:Hp)(xs:`R)(us:Rp)(Q:VK),Inv X XD σ H s->Vals xs us->r xs H Q->
  wpAny `f X.A (call f us) (EP X XD σ Q) X.xe s
def QB (X:Cx)(r:V->Hp->(Bool->Hp->Prop)->Prop):Prop:=
 ∀(XD:Rk)(s:U0)(σ:St)(H:Hp)(x:V)(v:`aM)(Q:Bool->Hp->Prop),Inv X XD σ H s->RelV x v->r x H Q->
  wpAny `f X.A (truthy v) (TP X XD σ Q) X.xe s
def Gd (r:R2)(ta tb:TE):TE:=λσ H Q=>ta σ H λx H1=>tb σ H1 λy H2=>r x y H2 Q
def tUn (r:V->Hp->VK->Prop)(ta:TE):TE:=λσ H Q=>ta σ H λx H1=>r x H1 Q
def rI (C:Int->Int->Prop)(g:Int->Int->V):R2:=λx y H Q=>∃i j,x= .int i/\y= .int j/\C i j/\Q (g i j) H
def u9 (g:Int->Int->V):R2:=λx y H Q=>∃i j,x= .int i/\y= .int j/\Q (g i j) H
def rU (g:Int->V):V->Hp->VK->Prop:=λx H Q=>∃i,x= .int i/\Q (g i) H
variable {g:Int->Int->Int}{r:R2}
section
variable {a b:Expr}{tb tc:TE}
variable {f:Value->Value->Sem Value}
theorem Es (ha:PE X a ta)(hb:PE X b tb){R:V->V->Hp->Prop}(I:`j)(h:ta σ H λx H1=>tb σ H1 λy H2=>R x y H2)(hf:∀v u s2 x y H2,Inv X XD σ H2 s2->RelV x v->RelV y u->R x y H2->wpAny `f X.A (f v u) Q X.xe s2):
 wpAny `f X.A (eval a X.env) (λv s₁=>wpAny `f X.A (eval b X.env) (λu s₂=>wpAny `f X.A (f v u) Q X.xe s₂) X.xe s₁) X.xe s:=by
 refine a8 `aN λv s1 ⟨x,H1,I1,r1,q1⟩=>?_;refine a8 (hb XD s1 σ H1 _ I1 q1) λu s2 ⟨y,H2,I2,r2,q2⟩=>?_;exact hf v u s2 x y H2 I2 r1 r2 q2
theorem Hf (ho:fk X (Vu op) r)(ha:PE X a ta)(hb:PE X b tb):PE X (.BinOp a op b pos) (Gd r ta tb):=by
 intro XD s σ H Q I h;exact wpAny_BinOp (Es ha hb I h λv u s2 x y H2 I2 rx ry q=>ho XD s2 σ H2 x y v u Q I2 rx ry q)
theorem MY {op:UnaryOp}{r:V->Hp->VK->Prop}(ho:J8 X (unaryOp op) r)(ha:PE X a ta):PE X (.UnaryOp op a pos) (tUn r ta):=by
 intro XD s σ H Q I h;exact UnaryOp_ (a8 `aN λv s1 ⟨x,H1,I1,r1,q1⟩=>ho XD s1 σ H1 x v Q I1 r1 q1)
theorem zh {C:Int->Int->Prop}(rule:∀(i j:Int)(t u:Tok)(s:U0)(Q:`s)(E:`s),C i j->Q (.int (g i j) s.toks) {s with toks:=s.toks+1}->wpAny `f X.A (f (.int i t) (.int j u)) Q E s):
 fk X f (rI C λi j=>.int (g i j)):=by
 intro XD s σ H x y v u Q I rx ry h;let⟨i,j,rfl,rfl,hc,q⟩:=h;let⟨t,rfl⟩:=rx;let⟨t',rfl⟩:=ry;exact rule i j t t' s _ _ hc ⟨.int (g i j),H,I.tok _,⟨_,rfl⟩,q⟩
theorem Mh 
 (rule:∀(i j:Int)(t u:Tok)(s:U0)(Q:`s)(E:`s),Q (.int (g i j) s.toks) {s with toks:=s.toks+1}->wpAny `f X.A (f (.int i t) (.int j u)) Q E s):
 fk X f (u9 λi j=>.int (g i j)):=by
 intro XD s σ H x y v u Q I rx ry h;let⟨i,j,rfl,rfl,q⟩:=h;let⟨t,rfl⟩:=rx;let⟨t',rfl⟩:=ry;exact rule i j t t' s _ _ ⟨.int (g i j),H,I.tok _,⟨_,rfl⟩,q⟩
theorem AY {g:Int->Int->Bool}(rule:∀(i j:Int)(t u:Tok)(s:U0)(Q:`s)(E:`s),Q (.bool (g i j)) s->wpAny `f X.A (f (.int i t) (.int j u)) Q E s):
 fk X f (u9 λi j=>.bl (g i j)):=by
 intro XD s σ H x y v u Q I rx ry h;let⟨i,j,rfl,rfl,q⟩:=h;let⟨t,rfl⟩:=rx;let⟨t',rfl⟩:=ry;exact rule i j t t' s _ _ ⟨.bl (g i j),H,I,rfl,q⟩
def Kq (i j:Int):Prop:=0<j/\j<1073741824
def JY (i j:Int):Prop:=0<=j/\j<=1000000/\i.natAbs<2 ^ 64
def AU (i j:Int):Prop:=(-(2 ^ 64)<i/\i<2 ^ 64)∨(-(2 ^ 64)<j/\j<2 ^ 64)
theorem AU.ok {i j:Int}(h:AU i j):Wa i j:=by
 obtain⟨h1,h2⟩ | ⟨h1,h2⟩:=h
 ·exact .of_left (VT h1 h2)
 ·exact .of_right (VT h1 h2)
theorem Lh:fk X (Vu .Add) (u9 λi j=>.int (i+j)):=Mh λ_ _ _ _ _ _ _ q=>add_int q
theorem JX:fk X (Vu .Sub) (u9 λi j=>.int (i-j)):=Mh λ_ _ _ _ _ _ _ q=>sub_int q
theorem Mo:fk X (Vu .Mult) (rI AU λi j=>.int (i*j)):=zh λ_ _ _ _ _ _ _ hc q=>mul_int q hc.ok
theorem Hg:fk X (Vu .FloorDiv) (rI Kq λi j=>.int (i/j)):=zh λi j _ _ _ _ _ hc q=>by
 let h1:(0:Int)<j:=hc.1;let h2:j<1073741824:=hc.2;exact floordiv_int `a (by rw[Int.fdiv_eq_ediv_of_nonneg i `a];exact q) (.inl (PyProof.noPylong_small `a))
theorem JJ:fk X (Vu .Mod) (rI (λ_ j=>0<j) λi j=>.int (i%j)):=zh λi j _ _ _ _ _ hc q=>by
 let h1:(0:Int)<j:=hc;exact mod_int' `a (by rw[Int.fmod_eq_emod_of_nonneg i `a];exact q)
theorem JF:fk X (Vu .Pow) (rI JY λi j=>.int (i ^ j.toNat)):=zh λ_ _ _ _ _ _ _ hc q=>pow_int_small hc.1 hc.2.1 hc.2.2 q
theorem unI {f:Value->Sem Value}{g:Int->Int}(rule:∀(i:Int)(t:Tok)(s:U0)(Q:`s)(E:`s),Q (.int (g i) s.toks) {s with toks:=s.toks+1}->wpAny `f X.A (f (.int i t)) Q E s):
 J8 X f (rU λi=>.int (g i)):=by
 intro XD s σ H x v Q I rx h;let⟨i,rfl,q⟩:=h;let⟨t,rfl⟩:=rx;exact rule i t s _ _ ⟨.int (g i),H,I.tok _,⟨_,rfl⟩,q⟩
theorem Lm:J8 X (unaryOp .USub) (rU λi=>.int (-i)):=unI λ_ _ _ _ _ q=>neg_int q
end
noncomputable def Lr:V->V->Bool
 | .XT,.XT=>true | .XT,.int _=>true | .int _,.XT=>true | .XT,.bl _=>true | .bl _,.XT=>true | .XT,.str _=>true | .str _,.XT=>true
 | .int _,.int _=>true | .bl _,.bl _=>true | .str _,.str _=>true | .Zv _,.Zv _=>true
 | .int _,.str _=>true | .str _,.int _=>true | .bl _,.str _=>true | .str _,.bl _=>true
 | _,_=>false
def rEq:R2:=λx y H Q=>Lr x y=true/\Q (.bl (decide (x=y))) H
def rNe:R2:=λx y H Q=>Lr x y=true/\Q (.bl (!decide (x=y))) H
theorem pY {i j:Int}:decide (V.int i=V.int j)=(i==j):=by
 rw[Ry];simp
theorem xH {i j:Bool}:decide (V.bl i=V.bl j)=(i==j):=by
 rw[Ry];simp
theorem ny {i j:Str}:decide (V.str i=V.str j)=(i==j):=by
 rw[Ry];simp
theorem zR {i j:Array UInt8}:decide (V.Zv i=V.Zv j)=(i.toList==j.toList):=by
 rw[Ry];cases i
 cases j
 simp
variable {Zj:CmpOp}{r':R2}{us:Rp}
section
variable {a b:Expr}{tb tc:TE}
variable {op:CmpOp}
theorem bS {Q:VK}{k k':Bool}(I:`j)(q:Q (.bl k) H)(e:k=k'):EP X XD σ Q (.bool k') s:=by
 subst e;exact⟨.bl k,H,I,rfl,q⟩
theorem Gw:fk X (Vb .Eq) rEq:=by
 intro XD s σ H x y v u Q I rx ry h;let⟨hs,q⟩:=h;cases x with
 | XT=>
   cases rx
   cases y with
   | XT=>cases ry;exact PySem.EqNone.eq_none_none `aP
   | bl j=>cases ry;exact PySem.EqNone.eq_none_bool `aP
   | int j=>let⟨t',rfl⟩:=ry;exact PySem.EqNone.eq_none_int `aP
   | str j=>let⟨t',rfl⟩:=ry;exact PySem.EqNone.eq_none_str `aP
   | _=>exact Xt (show false=true from hs) Rv
 | bl i=>
   cases rx
   cases y with
   | XT=>cases ry;exact PySem.EqNone.eq_bool_none `aP
   | bl j=>cases ry;exact eq_bool (bS I q xH)
   | str j=>let⟨t',rfl⟩:=ry;exact PySem.EqMixed.eq_bool_str `aP
   | _=>exact Xt (show false=true from hs) Rv
 | int i=>
   let⟨t,rfl⟩:=rx;cases y with
   | XT=>cases ry;exact PySem.EqNone.eq_int_none `aP
   | int j=>let⟨t',rfl⟩:=ry;exact eq_int (bS I q pY)
   | str j=>let⟨t',rfl⟩:=ry;exact PySem.EqMixed.eq_int_str `aP
   | _=>exact Xt (show false=true from hs) Rv
 | str i=>
   let⟨t,rfl⟩:=rx;cases y with
   | XT=>cases ry;exact PySem.EqNone.eq_str_none `aP
   | bl j=>cases ry;exact PySem.EqMixed.eq_str_bool `aP
   | int j=>let⟨t',rfl⟩:=ry;exact PySem.EqMixed.eq_str_int `aP
   | str j=>let⟨t',rfl⟩:=ry;exact eq_str (bS I q ny)
   | _=>exact Xt (show false=true from hs) Rv
 | Zv i=>
   let⟨t,rfl⟩:=rx;cases y with
   | Zv j=>let⟨t',rfl⟩:=ry;exact PySem.W.eq_bytes (bS I q zR)
   | _=>exact Xt (show false=true from hs) Rv
 | _=>cases y<;>exact Xt (show false=true from hs) Rv
theorem AG:fk X (Vb .NotEq) rNe:=by
 intro XD s σ H x y v u Q I rx ry h;let⟨hs,q⟩:=h;cases x with
 | XT=>
   cases rx
   cases y with
   | XT=>cases ry;exact PySem.EqNone.ne_none_none `aP
   | bl j=>cases ry;exact PySem.EqNone.ne_none_bool `aP
   | int j=>let⟨t',rfl⟩:=ry;exact PySem.EqNone.ne_none_int `aP
   | str j=>let⟨t',rfl⟩:=ry;exact PySem.EqNone.ne_none_str `aP
   | _=>exact Xt (show false=true from hs) Rv
 | bl i=>
   cases rx
   cases y with
   | XT=>cases ry;exact PySem.EqNone.ne_bool_none `aP
   | bl j=>cases ry;exact ne_bool (bS I q (congrArg not xH))
   | str j=>let⟨t',rfl⟩:=ry;exact PySem.EqMixed.ne_bool_str `aP
   | _=>exact Xt (show false=true from hs) Rv
 | int i=>
   let⟨t,rfl⟩:=rx;cases y with
   | XT=>cases ry;exact PySem.EqNone.ne_int_none `aP
   | int j=>let⟨t',rfl⟩:=ry;exact ne_int (bS I q (congrArg not pY))
   | str j=>let⟨t',rfl⟩:=ry;exact PySem.EqMixed.ne_int_str `aP
   | _=>exact Xt (show false=true from hs) Rv
 | str i=>
   let⟨t,rfl⟩:=rx;cases y with
   | XT=>cases ry;exact PySem.EqNone.ne_str_none `aP
   | bl j=>cases ry;exact PySem.EqMixed.ne_str_bool `aP
   | int j=>let⟨t',rfl⟩:=ry;exact PySem.EqMixed.ne_str_int `aP
   | str j=>let⟨t',rfl⟩:=ry;exact ne_str (bS I q (congrArg not ny))
   | _=>exact Xt (show false=true from hs) Rv
 | Zv i=>
   let⟨t,rfl⟩:=rx;cases y with
   | Zv j=>let⟨t',rfl⟩:=ry;exact PySem.W.ne_bytes (bS I q (congrArg not zR))
   | _=>exact Xt (show false=true from hs) Rv
 | _=>cases y<;>exact Xt (show false=true from hs) Rv
theorem Ox:fk X (Vb .Lt) (u9 λi j=>.bl (decide (i<j))):=AY λ_ _ _ _ _ _ _ q=>lt_int q
theorem N4:fk X (Vb .LtE) (u9 λi j=>.bl (decide (i<=j))):=AY λ_ _ _ _ _ _ _ q=>le_int q
theorem Nu:fk X (Vb .Gt) (u9 λi j=>.bl (decide (j<i))):=AY λ_ _ _ _ _ _ _ q=>gt_int q
theorem Ob:fk X (Vb .GtE) (u9 λi j=>.bl (decide (j<=i))):=AY λ_ _ _ _ _ _ _ q=>ge_int q
theorem tI (b:Expr)(h:op≠ .In:=by decide)(h2:op≠ .NotIn:=by decide):Vn op b=false:=by
 let e1:(op==CmpOp.In)=false:=by cases op<;>first | rfl | exact Xt rfl h
 let e2:(op==CmpOp.NotIn)=false:=by cases op<;>first | rfl | exact Xt rfl h2
 cases b<;>simp[Vn,e1,e2]
theorem IG (ho:fk X (Vb op) r)(ha:PE X a ta)(hb:PE X b tb)(hm:Vn op b=false):PE X (.Compare a [op] [b] pos) (Gd r ta tb):=by
 intro XD s σ H Q I h;exact wpAny_Compare1 (Es ha hb I h λv u s2 x y H2 I2 rx ry q=>ho XD s2 σ H2 x y v u Q I2 rx ry q) hm
def G6 (t:TE):TT:=λσ H Q=>t σ H λx H'=>∃k,x= .bl k/\Q k H'
theorem HK (ho:fk X (Vb op) r)(ha:PE X a ta)(hb:PE X b tb)(hm:Vn op b=false):PT X (.Compare a [op] [b] pos) (G6 (Gd r ta tb)):=by
 intro XD s σ H Q I h;refine wpAny_isTrue_Compare1 (a8 `aN λv s1 ⟨x,H1,I1,r1,q1⟩=>a8 (hb XD s1 σ H1 _ I1 q1) λu s2 ⟨y,H2,I2,r2,q2⟩=>
  a8 (ho XD s2 σ H2 x y v u _ I2 r1 r2 q2) λc s3 ⟨z,H3,I3,r3,k,e,q3⟩=>?_) hm
 subst e;cases r3
 exact U9 ⟨H3,I3,q3⟩
noncomputable def Cn (r r':R2)(ta tb tc:TE):TE:=λσ H Q=>ta σ H λx H1=>tb σ H1 λy H2=>r x y H2 λz H3=>∃k,z= .bl k/\
 (if k=true then tc σ H3 λw' H4=>r' y w' H4 Q else Q (.bl false) H3)
theorem FU (ho:fk X (Vb op) r)(Y4:fk X (Vb Zj) r')(ha:PE X a ta)(hb:PE X b tb)(hc:PE X c tc)(hm:lastMarks [op,Zj] [b,c]=false:=by with_unfolding_all rfl):PE X (.Compare a [op,Zj] [b,c] pos) (Cn r r' ta tb tc):=by
 intro XD s σ H Q I h;refine Compare_chain (a8 `aN λv s1 ⟨x,H1,I1,r1,q1⟩=>chain_link (a8 (hb XD s1 σ H1 _ I1 q1) λu s2 ⟨y,H2,I2,r2,q2⟩=>
  a8 (ho XD s2 σ H2 x y v u _ I2 r1 r2 q2) λd s3 ⟨z,H3,I3,r3,k,e,q3⟩=>?_)) hm
 subst e;cases r3
 refine U9 ?_;cases k with
 | false=>exact ite_ff ⟨.bl false,H3,I3,rfl,q3⟩
 | true=>exact ite_tt (chain_last (a8 (hc XD s3 σ H3 _ I3 q3) λw' s4 ⟨z',H4,I4,r4,q4⟩=>Y4 XD s4 σ H4 y z' u w' Q I4 r2 r4 q4))
theorem FH (ho:fk X (Vb op) r)(Y4:fk X (Vb Zj) r')(ha:PE X a ta)(hb:PE X b tb)(hc:PE X c tc)(hm:lastMarks [op,Zj] [b,c]=false:=by with_unfolding_all rfl):PT X (.Compare a [op,Zj] [b,c] pos) (G6 (Cn r r' ta tb tc)):=by
 intro XD s σ H Q I h;refine isTrue_chain (a8 `aN λv s1 ⟨x,H1,I1,r1,q1⟩=>test_link (a8 (hb XD s1 σ H1 _ I1 q1) λu s2 ⟨y,H2,I2,r2,q2⟩=>
  a8 (ho XD s2 σ H2 x y v u _ I2 r1 r2 q2) λd s3 ⟨z,H3,I3,r3,k,e,q3⟩=>?_)) hm
 subst e;cases r3
 refine U9 ?_;cases k with
 | false=>
   let⟨k',e',q'⟩:=q3;cases e'
   exact ite_ff ⟨H3,I3,q'⟩
 | true=>
   refine ite_tt (test_last (a8 (hc XD s3 σ H3 _ I3 q3) λw' s4 ⟨z',H4,I4,r4,q4⟩=>a8 (Y4 XD s4 σ H4 y z' u w' _ I4 r2 r4 q4) λd' s5 ⟨z2,H5,I5,r5,k2,e2,q5⟩=>?_));subst e2;cases r5
   exact U9 ⟨H5,I5,q5⟩
noncomputable def J1 (K:W7)(x:V)(H:Hp)(k:Bool):Prop:=
 match x with
 | .XT=>k=false
 | .bl b=>k=b
 | .int i=>k=(i != 0)
 | .str y=>y.length<=UZ/\k=((y.length:Int) != 0)
 | .Zv y=>y.size<=UZ/\k=((y.size:Int) != 0)
 | .ref p=>(∃xs,bt K H p xs/\k= !xs.isEmpty)∨(∃xs,d7 K H p xs/\k= !xs.isEmpty)∨∃kvs,H p∣.dK kvs/\k= !kvs.isEmpty
 | _=>False
theorem AD {κ:Type}{kvs:List (κ×V)}{vs:List (κ×Value)}(r:KV kvs vs):(!vs.isEmpty)= !kvs.isEmpty:=by
 cases r<;>rfl
theorem sy {XF:Rp}(r:Vals xs XF):(!XF.toArray.isEmpty)= !xs.isEmpty:=by
 cases r<;>simp
theorem lG:(UZ:Nat)<2 ^ 63:=by rw[VP];decide
theorem Jw:QB X (λx H Q=>∃k,J1 X.K x H k/\Q k H):=by
 intro XD s σ H x v Q I rx h;let⟨k,e,q⟩:=h;let hl:=lG;let hs:UZ=16777216:=VP;cases x with
 | XT=>
   cases rx
   let e':k=false:=e;subst e';exact truthy_none ⟨H,I,q⟩
 | bl b=>
   cases rx
   let e':k=b:=e;subst e';exact U9 ⟨H,I,q⟩
 | int i=>
   let⟨t,rfl⟩:=rx;let e':k=(i != 0):=e;subst e';exact PySem.P.truthy_int ⟨H,I,q⟩
 | str y=>
   let⟨t,rfl⟩:=rx;obtain⟨hy,e'⟩:y.length<=UZ/\k=((y.length:Int) != 0):=e;subst e';exact PySem.P.truthy_str `a ⟨H,I.tok _,q⟩
 | Zv y=>
   let⟨t,rfl⟩:=rx;obtain⟨hy,e'⟩:y.size<=UZ/\k=((y.size:Int) != 0):=e;subst e';exact PySem.W.truthy_bytes `a ⟨H,I.tok _,q⟩
 | ref p=>
   cases rx
   let e':(∃xs,bt X.K H p xs/\k= !xs.isEmpty)∨(∃xs,d7 X.K H p xs/\k= !xs.isEmpty)∨∃kvs,H p∣.dK kvs/\k= !kvs.isEmpty:=e;obtain⟨xs,hx,e'⟩ | ⟨xs,hx,e'⟩ | ⟨kvs,hx,e'⟩:=e'
   ·subst e';let⟨XF,r,pl,hz⟩:=I.list hx;let hlen:=r.length;exact wpAny_truthy_list pl.isList (by simp only[Si];cbv) ⟨H,I.tok _,by rw[sy r];exact q⟩
   ·subst e';let⟨XF,r,pl,hz⟩:=I.tuple hx;let hlen:=r.length;exact truthy_tuple pl (by simp only[Si];cbv) ⟨H,I.tok _,by rw[sy r];exact q⟩
   ·subst e';obtain⟨hz,hS,vs,r,m⟩:kvs.length<=UZ/\(p==Vh)=false/\∃vs,KV kvs vs/\s.heap.DictOf (cE X.prog X.w) p vs:=I.XJ p _ hx;let hlen:kvs.length=vs.length:=Paired.length r;exact wpAny_truthy_dict hS m `a ⟨H,I.tok _,by rw[AD r];exact q⟩
 | _=>exact(show False from e).elim
theorem x6 (ha:PE X a ta)(he:∀whole,VA a X.env whole=(do let v ← whole;VG a.pos;Vk [v] (truthy v))):
 PT X a (λσ H Q=>ta σ H λx H'=>∃k,J1 X.K x H' k/\Q k H'):=by
 intro XD s σ H Q I h;exact isTrue_plain (a8 `aN λv s1 ⟨x,H1,I1,r1,q1⟩=>Jw XD s1 σ H1 x v Q I1 r1 q1) (he _)
theorem AK:fk X (Vu .Add) (λx y H Q=>∃i j,x= .str i/\y= .str j/\i.length+j.length<=UZ/\Q (.str (i++j)) H):=by
 intro XD s σ H x y v u Q I rx ry h;let⟨i,j,rfl,rfl,hz,q⟩:=h;let⟨t,rfl⟩:=rx;let⟨t',rfl⟩:=ry;exact add_str (λt' tk=>⟨.str (i++j),H,I.tok _,⟨_,rfl⟩,q⟩) hz
theorem vals1 {x:V}(r:Vals [x] us):∃u,us=[u]/\RelV x u:=by
 cases r with
 | cons r1 r2=>cases r2;exact⟨_,rfl,r1⟩
theorem vals2 {x y:V}(r:Vals [x,y] us):∃u w',us=[u,w']/\RelV x u/\RelV y w':=by
 cases r with
 | cons r1 r2=>
   cases r2 with
   | cons r3 r4=>cases r4;exact⟨_,_,rfl,r1,r3⟩
theorem CV (hc:X.calm=true):gb X (.builtin "min") (λxs H Q=>∃i j,xs=[.int i,.int j]/\Q (.int (if j<i then j else i)) H):=by
 intro XD s σ H xs us Q I r h;let⟨i,j,rfl,q⟩:=h;let⟨u,w',rfl,⟨t,rfl⟩,⟨t',rfl⟩⟩:=vals2 r;refine min_two_ints (I.ok.hd hc) λh' tk k=>⟨_,H,I.kept k,?_,q⟩;by_cases hj:j<i
 ·rw[Xv hj,Xv hj];exact⟨_,rfl⟩
 ·rw[Xu hj,Xu hj];exact⟨_,rfl⟩
theorem BI:gb X (.type "int") (λxs H Q=>(∃i,xs=[.int i]/\Q (.int i) H)∨∃k,xs=[.bl k]/\Q (.int (if k then 1 else 0)) H):=by
 intro XD s σ H xs us Q I r h;obtain⟨i,rfl,q⟩ | ⟨k,rfl,q⟩:=h
 ·let⟨u,rfl,t,rfl⟩:=vals1 r;exact call_int_int ⟨.int i,H,I,⟨_,rfl⟩,q⟩
 ·let⟨u,rfl,r1⟩:=vals1 r;cases r1
  exact call_int_bool ⟨.int (if k then 1 else 0),H,I.tok _,⟨_,rfl⟩,q⟩
end
structure uw (h:Heap)(x dx C:Addr)(mA:Rj):Prop where
 obj:h.get? x∣Xg C dx
 ns:h.Ns1 dx mA
 ne:dx≠x
variable {dx:Addr}{mA:Rj}
theorem BJ (n:h.Ns1 dx mA):∃od,h.get? dx∣od/\∀name,Xp name od∣mA name:=by
 let⟨o,es,ep,ho,hd,hk,_,hm⟩:=n;refine⟨o,ho,λname=>?_⟩;let e:=hm name;unfold nsFind findBy at e;rw[← Array.find?_toList] at e;unfold Xp;rw[hd];dsimp only;split
 ·rename_i y q;rw[q] at e;exact congrArg some e
 ·rename_i q;rw[q] at e;let a:es.toList.any (·.refKey)=false:=by
   rw[List.any_eq_false];intro y hy;let⟨z,t,Za⟩:=hk y (Array.mem_toList_iff.mp hy);simp[DictEntry.refKey,Za]
  let a':¬es.toList.any (·.refKey)=true:=by rw[a];exact Rv
  rw[Xu a'];exact congrArg some e
variable {C:Addr}
theorem uw.look {x:Addr}(I:uw h x dx C mA):∃od,PySem.W.InstAt h x (Xg C dx) C (some od)/\∀name,Xp name od∣mA name:=
 let ⟨od,ho,hl⟩:=BJ I.ns
 ⟨od,⟨I.obj,rfl,rfl,ho⟩,hl⟩
variable {prog:U4}{name:Str}{kw:List (Str×Value)}
section
variable {x f:Addr}{v:`aM}
theorem get_map {expr:Bool}(X:K.In s.heap)(I:uw s.heap x dx C mA)(hg:Xj K C name=true)(hh:Xi K C=true)(ha:Xa K (.ref C) name∣none)(hv:mA name∣v)(ZZ:PySem.W.handedIn v=true)(h:Q v {s with toks:=s.toks+1}):
 wpAny `t A (getAttr (.ref x) name expr) Q E s:=by
 let⟨od,J,hl⟩:=I.look;exact PySem.W.get_value X J (PySem.W.plainGet_of hg).1 (PySem.W.findObj_own hh ha rfl (by rw[hl,hv])) ZZ h
theorem HQ {ns:Rm}{Q:Unit->U0->Prop}(X:K.In s.heap)(I:uw s.heap x dx C mA)(hs:Xa K (.ref C) "__setattr__"∣(some (.builtin "object.__setattr__")))(hp:Xk K C=true)(ht:Xn K C name∣none)(hh:Xi K C=true)(hw:We mA ns)(hsz:ns.length<=UZ)(h:∀h',uw h' x dx C (λy=>if y=name then some v else mA y)->WI dx s.heap h'->Q () {s with heap:=h',toks:=s.toks+2}):
 wpAny `t A (setAttr (.ref x) name v) Q E s:=by
 let⟨od,J,hl⟩:=I.look;refine PySem.W.set_plain X J hs (PySem.W.osa_open (s:={s with toks:=s.toks+1}) (r:=none) X J hp ht λb=>?_);let⟨cd,hc,hd'⟩:=PySem.W.any_some hh;let hx:s.heap.get? x∣⟨.ref C,some dx,.plain, #[]⟩:=I.obj;refine U1 (U3 (U1 (U1 (wpAny_loadPart hx (U1 (PySem.W.Looks.here (s:={s with toks:=s.toks+1}) (PySem.W.looks_clsIn X hc) ?_))))));rw[hd'];refine U3 (a:=some dx) (U1 (U3 (U1 ?_)));refine wpAny_nsSet1 (s:={s with toks:=s.toks+1}) I.ns λh' hn2 Yh=>?_;let⟨oD,esD,epD,hoD,hdD,hcD⟩:=hn2.count (We.cons name v hw);refine U1 (wpAny_lookBehind hoD (by rw[hdD];exact pastItsLine_dict (Um hcD (by rw[Sb];cbv))) ?_);exact U3 (h _ ⟨(Yh.2 _ (UJ I.ne)).trans I.obj,hn2,I.ne⟩ Yh)
theorem Fi {R:Result->U0->Prop}{vs:Rp}(X:K.In s.heap)(hm:Xl K C=true)(hi:Xa K (.ref C) "__init__"∣(some (.ref f)))(hf:PySem.W.typeIn K (.ref f)∣(.type "function"))(h:VO `t (A.under (.builtin "type.__call__" ⟨.ref C::vs,kw⟩)) (.call (.ref f) ⟨.ref (⇑s+1)::vs,kw⟩) (PySem.W.InitBack (⇑s+1) R)
  {s with heap:=(s.heap.push Xf).push (Xg C ⇑s)}):
 VO `t A (.call (.ref C) ⟨vs,kw⟩) R s:=by
 let⟨hh,g,d,t,os⟩:=s;exact PySem.W.make_core (PySem.W.makes_of X hm) (PySem.W.looks_findIn X hi) (λself=>PySem.W.bind_fn X self hf) (.inl rfl) h
end
noncomputable def gC (f:Str)(v:V):List (Str×V)->List (Str×V)
 | []=>[(f,v)]
 | (g,x)::r=>if g=f then(g,v)::r else(g,x)::gC f v r
theorem qm (f g:Str)(v:V):∀fs:List (Str×V),(gC f v fs).lookup g=if g=f then some v else fs.lookup g
 | []=>by
   show Td g [(f,v)]=_;by_cases h:g=f
   ·let hb:(g==f)=true:=beq_iff_eq.mpr h;simp only[Td,hb,Xv h]
   ·let hb:(g==f)=false:=beq_eq_false_iff_ne.mpr h;simp only[Td,hb,Xu h]
 | (k,x)::r=>by
   let ih:=qm f g v r;rw[show gC f v ((k,x)::r)=(if k=f then(k,v)::r else(k,x)::gC f v r) from rfl];by_cases hk:k=f
   ·rw[Xv hk];by_cases h:g=k
    ·let hb:(g==k)=true:=beq_iff_eq.mpr h;simp only[Td,hb,Xv (h.trans hk)]
    ·let hb:(g==k)=false:=beq_eq_false_iff_ne.mpr h;simp only[Td,hb,Xu (λe:g=f=>h (e.trans hk.symm))]
   ·rw[Xu hk];by_cases h:g=k
    ·let hb:(g==k)=true:=beq_iff_eq.mpr h;simp only[Td,hb,Xu (λe:g=f=>hk (h.symm.trans e))]
    ·let hb:(g==k)=false:=beq_eq_false_iff_ne.mpr h;simp only[Td,hb];exact ih
theorem oO (f:Str)(v:V):∀fs:List (Str×V),f∈(gC f v fs).map (·.1)/\∀g,g∈fs.map (·.1)->g∈(gC f v fs).map (·.1)
 | []=>⟨by simp[gC],λg h=>by simp at h⟩
 | (k,x)::r=>by
   let⟨i1,i2⟩:=oO f v r;rw[show gC f v ((k,x)::r)=(if k=f then(k,v)::r else(k,x)::gC f v r) from rfl];by_cases hk:k=f
   ·rw[Xv hk];subst hk;exact⟨`d,λg h=>by simpa using h⟩
   ·rw[Xu hk];refine⟨?_,λg h=>?_⟩
    ·rw[Sx];exact RX _ i1
    ·rw[Sx] at h ⊢;obtain e | e:=R9.mp h
     ·exact R9.mpr (.inl e)
     ·exact RX _ (i2 g e)
theorem qt (f:Str)(v:V):∀fs:List (Str×V),(gC f v fs).length<=fs.length+1
 | []=>by simp[gC]
 | (k,x)::r=>by
   let ih:=qt f v r;rw[show gC f v ((k,x)::r)=(if k=f then(k,v)::r else(k,x)::gC f v r) from rfl];by_cases hk:k=f
   ·rw[Xv hk,Sb,Sb];cbv
   ·rw[Xu hk,Sb,Sb];cbv
theorem jD.some_of {o:Rn}(r:jD (some v) o):∃u,o∣u/\RelV v u:=by
 cases o with
 | none=>exact(show False from r).elim
 | some u=>exact⟨u,rfl,r⟩
theorem DB (r:RelV v u):PySem.W.handedIn u=true:=by
 cases v with
 | XT=>cases (show u=W0 from r);rfl
 | bl b=>cases (show u=W4 b from r);rfl
 | int i=>let⟨t,e⟩:=(show∃t,u=W2 i t from r);cases e;rfl
 | str x=>let⟨t,e⟩:=(show∃t,u=W3 x t from r);cases e;rfl
 | Zv b=>let⟨t,e⟩:=(show∃t,u=Value.bytes b t from r);cases e;rfl
 | flt b=>let⟨t,e⟩:=(show∃t,u=W5 b t from r);cases e;rfl
 | ref a=>cases (show u=WZ a from r);rfl
 | ty n=>cases (show u=W6 n from r);rfl
section
variable {fs fs':List (Str×V)}
theorem ui (XJ:fc P w H h)(e:H a∣.ins C dx fs):∃mA,uw h a dx C mA/\(∀f,jD (fs.lookup f) (mA f))/\We mA (fs.map (·.1))/\fs.length<=1000/\H dx∣.own a:=by
 let⟨d,z,ne,ob,mA,n,r,q⟩:=(show c9 P w H h a (.ins C dx fs) from XJ a _ e);exact⟨mA,⟨ob,n,ne⟩,r,q,z,d⟩
end
structure m7 (K:W7)(C:Addr):Prop where
 pg:Xj K C Str.empty=true
 hd:Xi K C=true
 po:Xk K C=true
 sa:Xa K (.ref C) "__setattr__"∣(some (.builtin "object.__setattr__"))
theorem m7.get (c:m7 K C)(f:Str):Xj K C f=true:=c.pg
def lE (K:W7)(C:Addr)(f:Str):Prop:=Xa K (.ref C) f∣none
variable {f:Str}
theorem lE.MU (n:lE K C f):Xn K C f∣none:=by
 unfold Xn;rw[show Xa K (.ref C) f∣none from n];rfl
section
variable {fs:List (Str×V)}
theorem Au {b:Bool}(I:`j)(e:H a∣.ins C dx fs)(c:m7 X.K C)(n:lE X.K C f)(l:fs.lookup f∣v)(h:∀u s',Inv X XD σ H s'->RelV v u->Q u s'):wpAny `f A (getAttr (.ref a) f b) Q E s:=by
 let⟨mA,O,r,_,_,_⟩:=ui I.XJ e;let⟨u,hu,ru⟩:=jD.some_of (v:=v) (o:=mA f) (by rw[← l];exact r f);exact get_map I.gy O (c.get f) c.hd n hu (DB ru) (h u _ (I.tok _) ru)
theorem Ax {y:V}{Q:Unit->U0->Prop}(I:`j)(e:H a∣.ins C dx fs)(c:m7 X.K C)(n:lE X.K C f)(hl:fs.length<1000)(ry:RelV y u)(h:∀s',Inv X XD σ (upd H a (.ins C dx (gC f y fs))) s'->Q () s'):wpAny `f A (setAttr (.ref a) f u) Q E s:=by
 let⟨mA,O,r,wi,_,ho⟩:=ui I.XJ e;let hz:(fs.map (·.1)).length<=UZ:=by rw[RS,VP];cbv
 refine HQ I.gy O c.sa c.po n.MU c.hd wi hz λh' O' sb=>h _ ?_;let hd:∃o,h'.get? dx∣o:=let ⟨o,_,_,e',_⟩:=O'.ns;⟨o,e'⟩;refine I.write (x:=a) (e:=dx) (by rw[e];exact Xs) (.inr ho) (λb q hb z=>(sb.2 b hb).trans z) hd ?_;refine⟨by rw[aG O.ne];exact ho,?_,O.ne,O'.obj,_,O'.ns,λg=>?_,λg hg=>?_⟩
 ·have:=qt f y fs;cbv
 ·show jD ((gC f y fs).lookup g) (if g=f then some u else mA g);rw[qm];by_cases q:g=f
  ·rw[Xv q,Xv q];exact ry
  ·rw[Xu q,Xu q];exact r g
 ·by_cases q:g=f
  ·rw[q];exact(oO f y fs).1
  ·refine(oO f y fs).2 g (wi g λz=>hg ?_);show(if g=f then some u else mA g)=none;rw[Xu q];exact z
theorem Inv.made (I:`j):Inv X XD σ (upd (upd H ⇑s (.own (⇑s+1))) (⇑s+1) (.ins C ⇑s []))
 {s with heap:=(s.heap.push Xf).push (Xg C ⇑s)}:=by
 let e1:(s.heap.push Xf).get? ⇑s∣Xf:=WG s.heap rfl;let e2:((s.heap.push Xf).push (Xg C ⇑s)).get? (⇑s+1)∣Xg C ⇑s:=by
  have:=WG (s.heap.push Xf) (o:=Xg C ⇑s) rfl;rwa [WH] at this
 let e3:(s.heap.push Xf).Ns ⇑s (λ_=>none):=⟨Xf, #[],_,e1,rfl,(λe he=>Xt he `d),λ_=>rfl⟩;let I1:=I.laid (a:=⇑s) (o:=.own (⇑s+1)) (h':=s.heap.push Xf) (t':=s.toks) (λb u q=>WC _ q) (Uk _) ⟨_,e1⟩;refine I1.laid (a:=⇑s+1) (o:=.ins C ⇑s []) (t':=s.toks) (λb u q=>WC _ q) (UI (WH _ _)) ?_;let ne:⇑s≠⇑s+1:=Ur (Uv _);refine⟨by rw[aG ne,aD],Ul _,ne,e2,λ_=>none,(Heap.Ns1.of_empty e3).at λo q=>WC _ q,λ_=>Xs,λy hy=>Xt rfl hy⟩
theorem HG {env:Env}(hb:Wc e f env (eval e env)=eval e env)(h:wpAny `t A (eval e env) (λo s₁=>wpAny `t A (getAttr o f true) Q E s₁) E s):wpAny `t A (eval (.Attribute e f pos) env) Q E s:=
 Attribute_any_ h (by rw[arm_eval_Attribute,hb])
end
def Q6 (K:W7)(ta:TE)(f:Str):TE:=λσ H Q=>ta σ H λx H1=>∃a C dx fs v,x= .ref a/\H1 a∣.ins C dx fs/\m7 K C/\lE K C f/\fs.lookup f∣v/\Q v H1
def Q5 (K:W7)(ta tv:TE)(f:Str):TS:=λD σ H=>tv σ H λy H1=>ta σ H1 λx H2=>∃a C dx fs,x= .ref a/\H2 a∣.ins C dx fs/\m7 K C/\lE K C f/\fs.length<1000/\
 D.nx σ (upd H2 a (.ins C dx (gC f y fs)))
section
variable {o value:Expr}{tpos:Pos}{tv:TE}
theorem xh (he:PE X e ta)(hb:eX X e f):PE X (.Attribute e f pos) (Q6 X.K ta f):=by
 intro XD s σ H Q I h;refine HG hb (a8 (he XD s σ H _ I h) λu s1 ⟨x,H1,I1,rx,a,C,dx,fs,v,ex,ea,c,n,l,q⟩=>?_);subst ex;obtain rfl:u=WZ a:=rx;exact Au I1 ea c n l λu' s2 I2 ru=>⟨v,H1,I2,ru,q⟩
theorem KW (ha:PE X o ta)(hv:PE X value tv)(hs:U7 value (some (.Attribute o f pos')) pos.line X.env=pure false):PS X (.Assign [.Attribute o f pos'] value pos) (Q5 X.K ta tv f):=by
 intro XD s σ H D I h;refine plainObj_wpAny_Assign_Attribute (a8 (hv XD s σ H _ I h) λu s1 ⟨y,H1,I1,ry,q⟩=>a8 (ha XD s1 σ H1 _ I1 q) λov s2 ⟨x,H2,I2,rx,a,C,dx,fs,ex,ea,c,n,l,q2⟩=>?_) hs;subst ex;obtain rfl:ov=WZ a:=rx;exact Ax I2 ea c n l ry λs3 I3=>⟨σ,_,I3,q2⟩
end
section
variable {c:`aM}{b:Bool}
inductive fP (K:W7) (H:Hp):V->Value->Prop where
 | XT:fP K H .XT (.type "NoneType")
 | bl (x:Bool):fP K H (.bl x) (.type "bool")
 | int (i:Int):fP K H (.int i) (.type "int")
 | str (x:Str):fP K H (.str x) (.type "str")
 | flt (x:UInt64):fP K H (.flt x) (.type "float")
 | lst {a:Addr} {xs:`R} (e:H a∣.lst xs):fP K H (.ref a) (.type "list")
 | Yu {a:Addr} {o:Obj} {xs:`R} (e:H a∣(.Yu o (.lst xs))):fP K H (.ref a) (.type "list")
 | tup {a:Addr} {xs:`R} (e:H a∣.tup xs):fP K H (.ref a) (.type "tuple")
 | dK {a:Addr} {kvs:List (Key×V)} (e:H a∣.dK kvs):fP K H (.ref a) (.type "dict")
 | dT {a:Addr} {kvs:List (List Key×V)} (e:H a∣.dT kvs):fP K H (.ref a) (.type "dict")
 | ins {a C dx:Addr} {fs:List (Str×V)} (e:H a∣.ins C dx fs) (cl:m7 K C) (ha:Xa K (.ref C) "__class__"∣(some (.builtin "object.__class__")))
  (hn:PySem.W.specialIn K (.builtin "object.__class__") "__get__"∣(some (.builtin "getset_descriptor.__get__"))) (htk:PySem.W.takesIn K (.builtin "object.__class__")∣true)
  (hm:PySem.W.mroIn K C (.type "object")∣true):fP K H (.ref a) (.ref C)
theorem BY {x:V}{t:`aM}(I:`j)(rx:RelV x u)(ty:fP X.K H x t)(e:Xq X.K t c∣b)(h:∀tk,Q (.bool b) {s with toks:=tk}):
 wpAny `f A (call (.builtin "isinstance") [u,c]) Q E s:=by
 cases ty with
 | XT=>cases (show u=W0 from rx);exact Xe PySem.W.kitx_none I.gy Xs e (λz=>nomatch z) h
 | bl y=>cases (show u=W4 y from rx);exact Xe PySem.W.kitx_bool I.gy Xs e (λz=>nomatch z) h
 | int i=>let⟨t,q⟩:=(show∃t,u=W2 i t from rx);cases q;exact Xe PySem.W.kitx_int I.gy Xs e (λz=>nomatch z) h
 | str y=>let⟨t,q⟩:=(show∃t,u=W3 y t from rx);cases q;exact Xe PySem.W.kitx_str I.gy Xs e (λz=>nomatch z) h
 | flt y=>let⟨t,q⟩:=(show∃t,u=W5 y t from rx);cases q;exact Xe PySem.W.kitx_float I.gy Xs e (λz=>nomatch z) h
 | @lst a xs ea=>
   cases (show u=WZ a from rx)
   let⟨_,_,n,_,h1⟩:=(show c9 X.prog X.w H s.heap a (.lst xs) from I.XJ a _ ea);exact Xe PySem.W.kitx_list I.gy ⟨_,h1,rfl⟩ e (λz=>nomatch z) h
 | @Yu a ob xs ea=>
   cases (show u=WZ a from rx)
   let⟨_,_,_,n,_,h1⟩:=(show c9 X.prog X.w H s.heap a (.Yu ob (.lst xs)) from I.XJ a _ ea);exact Xe PySem.W.kitx_list I.gy ⟨_,h1,rfl⟩ e (λz=>nomatch z) h
 | @tup a xs ea=>
   cases (show u=WZ a from rx)
   let⟨_,_,_,p⟩:=(show c9 X.prog X.w H s.heap a (.tup xs) from I.XJ a _ ea);let⟨o,h1,h2,_⟩:=p;exact Xe PySem.W.kitx_tuple I.gy ⟨o,h1,h2⟩ e (λz=>nomatch z) h
 | @dK a kvs ea=>
   cases (show u=WZ a from rx)
   let⟨_,_,vs,_,p⟩:=(show c9 X.prog X.w H s.heap a (.dK kvs) from I.XJ a _ ea);let⟨o,es,ep,h1,h2,_⟩:=p;exact Xe PySem.W.kitx_dict I.gy ⟨o,h1,h2.1⟩ e (λz=>nomatch z) h
 | @dT a kvs ea=>
   cases (show u=WZ a from rx)
   let⟨_,_,xs,_,o,es,ep,h1,h2,_⟩:=(show c9 X.prog X.w H s.heap a (.dT kvs) from I.XJ a _ ea);exact Xe PySem.W.kitx_dict I.gy ⟨o,h1,h2.1⟩ e (λz=>nomatch z) h
 | @ins a C dx fs ea cl ha hn htk hm=>
   cases (show u=WZ a from rx)
   let⟨mA,O,_⟩:=ui I.XJ ea;let⟨od,J,_⟩:=O.look;exact Xe (PySem.W.kitx_own (cl.get _) cl.hd ha hn htk hm) I.gy J e (λz=>nomatch z) h
end
structure bG (k:Nat)(A:U6):Prop where
 hd:A.handled=none
 dp:A.depth+3*k+5<recursionLimit
 un:A.units+16*k+200<cLine
theorem bG.mono {j k:Nat}(r:bG k A)(h:j<=k):bG j A:=⟨r.hd,by have:=r.dp;cbv,by have:=r.un;cbv⟩
theorem bG.deeper {k:Nat}(r:bG (k+1) A)(env:Env):bG k (A.deeper env):=
 ⟨r.hd,by have:=r.dp;show A.depth+1+3*k+5<_;cbv,by have:=r.un;show A.units+3+16*k+200<_;cbv⟩
theorem A9 :(A.under (.builtin "type.__call__" ⟨.ref C::us,kw⟩)).depth=A.depth+1:=by
 first | rfl | simp[U6.under,Code.weight,Code.isCreation,Code.isGuard,Code.isCaller,Code.frames,Ws,guardIds]
theorem Bl :(A.under (.builtin "type.__call__" ⟨.ref C::us,kw⟩)).units=A.units+1:=by
 first | rfl | simp[U6.under,Code.cUnits,Code.frames,Ws]
theorem bG.make {k:Nat}(r:bG (k+1) A)(C:Addr)(us:Rp)(kw:List (Str×Value)):bG k (A.under (.builtin "type.__call__" ⟨.ref C::us,kw⟩)):=
 ⟨r.hd,by have:=r.dp;rw[A9];cbv,by have:=r.un;rw[Bl];cbv⟩
theorem bG.depth {k:Nat}(r:bG k A):A.depth<recursionLimit:=by have:=r.dp;cbv
theorem bG.units {k:Nat}(r:bG k A):A.units+64<cLine:=by have:=r.un;cbv
def QI:TA:=λ_ H Q=>Q [] H
def Ow (ta:TE)(tr:TA):TA:=λσ H Q=>ta σ H λx H1=>tr σ H1 λxs H2=>Q (x::xs) H2
variable {t:TA}
theorem bq:PA X [] QI:=λ_ _ _ _ H Q I h=>Calls.spliced_nil ⟨[],H,I,.nil,h⟩
theorem aI (ha:PE X e te)(hr:PA X es t)(hs:dh X e es:=by rfl):PA X (e::es) (Ow te t):=by
 intro pos XD s σ H Q I h;rw[hs];show wpAny _ _ (spliced ((false,eval e X.env)::VQ pos (U5 es X.env))) _ _ s;refine Wr (a8 `aN λu s1 ⟨x,H1,I1,r1,q1⟩=>?_);exact a8 (hr pos XD s1 σ H1 _ I1 q1) λus s2 ⟨xs,H2,I2,r2,q2⟩=>⟨x::xs,H2,I2,.cons r1 r2,q2⟩
def QK (t:TA):TE:=λσ H Q=>t σ H λxs H1=>xs.length<=UZ/\∀p,H1 p=none->Q (.ref p) (upd H1 p (.tup xs))
def Rb (t:TA):TE:=λσ H Q=>t σ H λxs H1=>xs.length<=UZ/\∀p,H1 p=none->Q (.ref p) (upd H1 p (.lst xs))
theorem si {x1}(h:PA X es t):PE X (.Tuple es x1 pos) (QK t):=by
 intro XD s σ H Q I hq;refine wpAny_Tuple_spliced (a8 (h pos XD s σ H _ I hq) λus s1 ⟨xs,H1,I1,r,z,q⟩=>⟨by rw[← r.length];exact z,?_⟩);let hf:H1 ⇑s1=none:=I1.XJ.fresh (Uk _);refine⟨.ref ⇑s1,upd H1 ⇑s1 (.tup xs),I1.laid (t':=s1.toks) (λb u e=>WC _ e) (Uk _) ?_,rfl,q _ hf⟩;exact⟨z,us,r,⟨_,WG _ rfl,rfl,_,rfl⟩⟩
theorem sM (h:PA X es t):PE X (.List es pos) (Rb t):=by
 intro XD s σ H Q I hq;refine wpAny_List_spliced (a8 (h pos XD s σ H _ I hq) λus s1 ⟨xs,H1,I1,r,z,q⟩=>⟨by rw[← r.length];exact z,?_⟩);let hf:H1 ⇑s1=none:=I1.XJ.fresh (Uk _);refine⟨.ref ⇑s1,upd H1 ⇑s1 (.lst xs),I1.laid (t':=s1.toks) (λb u e=>WC _ e) (Uk _) ?_,rfl,q _ hf⟩;exact⟨z,us,0,r,WG _ rfl⟩
abbrev Sp:=List V->Hp->VK->XK->Prop
abbrev oi:=List Env->Hp->U0->XK->Value->U0->Prop
structure qV (P:U4)(w:World)(K:W7)(mg:Rj)(base:Heap)(A:U6)(outer:List Env)(s:U0)(H:Hp):Prop where
 frames:A.frames∣outer
 mod:Mod K mg base
 bs:∀b o,base.get? b∣o->s.heap.get? b∣o/\H b=none
 bsz:base.objs.size<=⇑s
 YF:s.heap.FunFrames base outer
 frf:∀b∈mY outer,H b=none
 XJ:fc P w H s.heap
 bare:UW s.gens
def CE (outer:List Env)(P:U4)(w:World)(H:Hp)(s:U0)(Q:VK)(u:`aM)(s':U0):Prop:=
 ∃v H',s'.os=s.os/\UW s'.gens/\Un (mY outer) [] H H' s.heap s'.heap/\fc P w H' s'.heap/\RelV v u/\Q v H'
noncomputable def CR (CX:oi)(outer:List Env)(P:U4)(w:World)(H:Hp)(s:U0)(Q:VK)(E:XK)(r:Result)(s':U0):Prop:=
 match r with
 | .ok (.ret u)=>CE outer P w H s Q u s'
 | .ok _=>False
 | .error e=>CX outer H s E e s'
structure fb (P:U4)(w:World)(K:W7)(mg:Rj)(base:Heap)(CX:oi)(k:Nat)(f:Addr)(fd:U8)(ps:Rm)(sp:Sp):Prop where
 len:∀vs H Q E,sp vs H Q E->vs.length=ps.length
 run:∀(A:U6)(outer:List Env)(s:U0)(H:Hp)(args:Args)(us:Rp)(vs:`R)(Q:VK)(E:XK),bG k A->qV P w K mg base A outer s H->V6 s fd args (ps.zip us)->Vals vs us->sp vs H Q E->
  VO (model P w) A (.call (.ref f) args) (CR CX outer P w H s Q E) s
theorem fb.mono {P:U4}{w:World}{K:W7}{mg:Rj}{base:Heap}{CX:oi}{j k:Nat}{f:Addr}{fd:U8}{ps:Rm}{sp:Sp}(F:fb P w K mg base CX j f fd ps sp)(h:j<=k):
 fb P w K mg base CX k f fd ps sp:=⟨F.len,λA outer s H args us vs Q E hr=>F.run A outer s H args us vs Q E (hr.mono h)⟩
variable {mg:Rj}{base:Heap}{outer:List Env}
theorem qV.make (e:qV P w K mg base A outer s H)(C:Addr)(us:Rp)(kw:List (Str×Value)):
 qV P w K mg base (A.under (.builtin "type.__call__" ⟨.ref C::us,kw⟩)) outer s H:=⟨by first | exact e.frames | (simpa[U6.under,Code.envs,Ws,pushEnvs] using e.frames),e.mod,e.bs,e.bsz,e.YF,e.frf,e.XJ,e.bare⟩
theorem Inv.L3 (I:`j):qV X.prog X.w X.K X.mg X.base X.A X.stack s H:=
 ⟨I.ok.frames,I.ok.mod,I.bs,Um I.ok.bsz I.sz,I.stack,I.zK,I.XJ,I.bare⟩
theorem Inv.after {Q:VK}(I:`j)(h:CE X.stack X.prog X.w H s Q u s'):EP X XD σ Q u s':=by
 let⟨v,H',os,bare,un,XJ,r,q⟩:=h;let⟨hh,g,d,t,os'⟩:=s';obtain rfl:os'=s.os:=os;exact⟨v,H',I.call (h':=hh) (g':=g) (d':=d) (t':=t) (ch:=[]) un XJ bare (λb z=>Xt z `d),r,q⟩
def OL (sp:Sp)(Zp:`R)(E:XK)(t:TA):TE:=λσ H Q=>t σ H λvs H1=>sp (vs++Zp) H1 Q E
def N2 (C:Addr)(sp:Sp)(Zp:`R)(E:XK)(t:TA):TE:=λσ H Q=>t σ H λvs H1=>∀x dx,H1 x=none->H1 dx=none->dx≠x->
 sp (.ref x::(vs++Zp)) (upd (upd H1 dx (.own x)) x (.ins C dx [])) (λv H2=>v= .XT/\Q (.ref x) H2) E
def Binds (K:W7)(fd:U8)(ps:Rm)(ds:Rp):Prop:=
 ∀(s:U0)(us:Rp),K.In s.heap->(us++ds).length=ps.length->V6 s fd ⟨us,[]⟩ (ps.zip (us++ds))
variable {fd:U8}{ps:Rm}
theorem Binds.all (h:∀us:Rp,us.length=ps.length->bindArgs fd ⟨us,[]⟩=pure (ps.zip us)):Binds K fd ps []:=λs us _ hl=>by
 rw[Sl] at hl ⊢;exact .of_eq (h us hl)
def Passes (CX:oi)(X:Cx)(E:XK):Prop:=∀(XD:Rk)(σ:St)(H:Hp)(s:U0)(e:`aM)(s':U0),Inv X XD σ H s->CX X.stack H s E e s'->X.xe e s'
variable {CX:oi}{sp:Sp}{vs:`R}
section
variable {k:Nat}{f:Addr}{Zp:`R}{ds:Rp}{E:XK}{m:Str}{p apos:Pos}{o:Expr}
theorem JW {Q:VK}(F:fb X.prog X.w X.K X.mg X.base CX k f fd ps sp)(hr:bG k X.A)(hb:Binds X.K fd ps ds)(hd:Vals Zp ds)(hx:Passes CX X E)(I:`j)(r:Vals vs us)(h:sp (vs++Zp) H Q E):wpAny `f X.A (call (.ref f) us) (EP X XD σ Q) X.xe s:=by
 let r2:Vals (vs++Zp) (us++ds):=r.append hd;let hl:(us++ds).length=ps.length:=by rw[← r2.length];exact F.len _ _ _ _ h
 refine wpAny_call (VZ (F.run X.A X.stack s H ⟨us,[]⟩ (us++ds) (vs++Zp) Q E hr I.L3 (hb s us I.gy hl) r2 h) λr s' hq=>?_);cases r with
 | error e=>exact hx XD σ H s e s' I hq
 | ok fl=>
   cases fl with
   | ret u=>exact I.after hq
   | next=>exact RG hq
   | brk=>exact RG hq
   | cont=>exact RG hq
theorem iU (F:fb X.prog X.w X.K X.mg X.base CX k f fd ps sp)(hr:bG k X.A)(hg:Gl X x)(hm:X.mg x∣.ref f)(hk:Xc X.K (.ref f)=true)(hb:Binds X.K fd ps ds)(hd:Vals Zp ds)(hx:Passes CX X E)(ha:PA X (e::es) t)(Yd:Yz x:=by decide)(he:dh X e es:=by rfl)(X1:fo X pos es:=by rfl):
 PE X (.Call `ao (e::es) [] pos) (OL sp Zp E t):=by
 intro XD s σ H Q I h;refine VB (t9 I hg hm ?_ Yd);refine PySem.W.callWith_K (h₀:=X.base) I.ok.mod.kin hk (a8 (ha pos XD s σ H _ I h) λus s1 ⟨vs,H1,I1,r,q⟩=>⟨I1.gy,?_⟩) he X1;exact JW F hr hb hd hx I1 r q
structure Mk (K:W7)(C f:Addr):Prop where
 makes:Xl K C=true
 init:Xa K (.ref C) "__init__"∣(some (.ref f))
 fn:Xr K (.ref f)=true
 kp:Xc K (.ref C)=true
theorem Fe {Q:VK}(M:Mk X.K C f)(F:fb X.prog X.w X.K X.mg X.base CX k f fd ps sp)(hr:bG (k+1) X.A)(hb:Binds X.K fd ps ds)(hd:Vals Zp ds)(hx:Passes CX X E)(I:`j)(r:Vals vs us)(h:∀x dx,H x=none->H dx=none->dx≠x->sp (.ref x::(vs++Zp)) (upd (upd H dx (.own x)) x (.ins C dx [])) (λv H2=>v= .XT/\Q (.ref x) H2) E):
 wpAny `f X.A (call (.ref C) us) (EP X XD σ Q) X.xe s:=by
 let hq:=h (⇑s+1) ⇑s (I.XJ.fresh (Uw _)) (I.XJ.fresh (Uk _)) (Ur (Uv _));let I2:=Inv.made (C:=C) I;let r2:Vals (V.ref (⇑s+1)::(vs++Zp)) (WZ (⇑s+1)::(us++ds)):=.cons rfl (r.append hd);let hl:(WZ (⇑s+1)::us++ds).length=ps.length:=by
  let e:=r2.length;rw[F.len _ _ _ _ hq] at e;exact e.symm
 refine wpAny_call (Fi (f:=f) I.gy M.makes M.init (beq_iff_eq.mp M.fn) (VZ (F.run _ X.stack _ _ ⟨WZ (⇑s+1)::us,[]⟩ (WZ (⇑s+1)::(us++ds)) _ _ E (hr.make C us [])
  (I2.L3.make C us []) (hb _ (WZ (⇑s+1)::us) I2.gy hl) r2 hq) λr s' YM=>?_))
 cases r with
 | error e=>exact hx XD σ _ _ e s' I2 YM
 | ok fl=>
   cases fl with
   | ret u=>
     let⟨v,H',I3,rv,ev,q3⟩:=I2.after YM;subst ev;exact⟨rv,⟨V.ref (⇑s+1),H',I3,rfl,q3⟩⟩
   | next=>exact RG YM
   | brk=>exact RG YM
   | cont=>exact RG YM
theorem Hz (M:Mk X.K C f)(F:fb X.prog X.w X.K X.mg X.base CX k f fd ps sp)(hr:bG (k+1) X.A)(hg:Gl X x)(hm:X.mg x∣.ref C)(hb:Binds X.K fd ps ds)(hd:Vals Zp ds)(hx:Passes CX X E)(ha:PA X (e::es) t)(Yd:Yz x:=by decide)(he:dh X e es:=by rfl)(X1:fo X pos es:=by rfl):
 PE X (.Call `ao (e::es) [] pos) (N2 C sp Zp E t):=by
 intro XD s σ H Q I h;refine VB (t9 I hg hm ?_ Yd);refine PySem.W.callWith_K (h₀:=X.base) I.ok.mod.kin M.kp (a8 (ha pos XD s σ H _ I h) λus s1 ⟨vs,H1,I1,r,q⟩=>⟨I1.gy,?_⟩) he X1;exact Fe M F hr hb hd hx I1 r q
end
section
variable {k:Nat}{f:Addr}{ks:Rm}{E:XK}{m:Str}{p apos kpos:Pos}{o:Expr}{kws:List VW}{tk:TA}{nm:Option Str}
variable {g:Rp->Rp->Rp}{gV:List V->List V->List V}
end
structure bE (N P:Rm)(sc:Scope):Prop where
 kind:sc.kind= .function
 co:sc.isCoroutine=false
 gen:sc.isGenerator=false
 nd:N.Nodup
 pre:N.take P.length=P
 par:∀x∈P,sc.names.lookup x∣.local∨sc.names.lookup x∣.cell
 nofree:∀y∈sc.names,y.2≠ .free
variable {sc:Scope}
theorem YV{P:Rm}(a:sc.kind=.function:=by rfl)(b:sc.isCoroutine=false:=by rfl)(c:sc.isGenerator=false:=by rfl)(d:N.Nodup:=by decide +kernel)(e:N.take P.length=P:=by rfl)(f:∀x∈P,sc.names.lookup x∣.local∨sc.names.lookup x∣.cell:=by decide +kernel)(g:∀y∈sc.names,y.2≠.free:=by decide +kernel):bE N P sc:=⟨a,b,c,d,e,f,g⟩
theorem uW {kindOf:Str->Option Vx}{x:Str}:∀{binds:List (Str×Value)}{m:Rj},(∀v,(x,v)∉binds)->bindL kindOf binds m x=m x
 | [],_,_=>rfl
 | (n,v)::r,m,h=>by
   unfold bindL;rw[uW λw hw=>h w (RX _ hw)];split
   ·have:x≠n:=by rintro rfl;exact h v RZ
    simp[this]
   ·rfl
theorem va {kindOf:Str->Option Vx}{x:Str}:∀{binds:List (Str×Value)}{m:Rj},(∀v,(x,v)∉binds)->bindC kindOf binds m x=m x
 | [],_,_=>rfl
 | (n,v)::r,m,h=>by
   unfold bindC;rw[va λw hw=>h w (RX _ hw)];split
   ·rfl
   ·have:x≠n:=by rintro rfl;exact h v RZ
    simp[this]
theorem u6 {kindOf:Str->Option Vx}{x:Str}{v:`aM}:∀{P:Rm}{vs:Rp}{i:Nat}{m:Rj},P.Nodup->P[i]?∣x->vs[i]?∣v->kindOf x∣.local->
 bindL kindOf (P.zip vs) m x∣v
 | [],_,_,_,_,h,_,_=>by simp at h
 | _::_,[],_,_,_,_,h,_=>by simp at h
 | p::P,w::vs,0,m,nd,h1,h2,hk=>by
   simp at h1 h2;subst h1;subst h2;show bindL kindOf ((p,w)::P.zip vs) m p=_;unfold bindL;rw[uW λv hv=>(Sn.mp nd).1 (TN hv).1,Xv hk];simp
 | p::P,w::vs,i+1,m,nd,h1,h2,hk=>by
   show bindL kindOf ((p,w)::P.zip vs) m x=_;unfold bindL;exact u6 (i:=i) (Sn.mp nd).2 (~~~h1) (~~~h2) hk
theorem vd {kindOf:Str->Option Vx}{x:Str}{v:`aM}:∀{P:Rm}{vs:Rp}{i:Nat}{m:Rj},P.Nodup->P[i]?∣x->vs[i]?∣v->kindOf x≠some .local->
 bindC kindOf (P.zip vs) m x∣v
 | [],_,_,_,_,h,_,_=>by simp at h
 | _::_,[],_,_,_,_,h,_=>by simp at h
 | p::P,w::vs,0,m,nd,h1,h2,hk=>by
   simp at h1 h2;subst h1;subst h2;show bindC kindOf ((p,w)::P.zip vs) m p=_;unfold bindC;rw[va λv hv=>(Sn.mp nd).1 (TN hv).1,Xu hk];simp
 | p::P,w::vs,i+1,m,nd,h1,h2,hk=>by
   show bindC kindOf ((p,w)::P.zip vs) m x=_;unfold bindC;exact vd (i:=i) (Sn.mp nd).2 (~~~h1) (~~~h2) hk
noncomputable def start (N:Rm)(vs:`R):St:=vs.map some++SW (N.length-vs.length) none
def eK (CX:oi)(P:U4)(w:World)(K:W7)(mg:Rj)(base:Heap)(N:Rm)(qual:Str)(scope:Scope)(f:Addr)(cd:`aM)(A:U6)(outer:List Env)(s:U0)(H:Hp)(E:XK):Cx where
 prog:=P
 w:=w
 K:=K
 mg:=mg
 base:=base
 A:=A.deeper (UT qual scope ⇑s f cd)
 N:=N
 s₀:=s
 H₀:=H
 env:=UT qual scope ⇑s f cd
 outer:=outer
 stack:=UT qual scope ⇑s f cd::outer
 ex:=[]
 calm:=true
 fn:=λ_=>true
 pn:=[]
 xe:=λe s'=>wpAny (model P w) (A.deeper (UT qual scope ⇑s f cd)) (leaving (UT qual scope ⇑s f cd) e) (λ_ s''=>CX outer H s E e s'') (λe' s''=>CX outer H s E e' s'') s'
theorem br (h:sc.names.lookup x∣.cell):∃c,(cellsFrom n sc.names []).lookup x∣c:=by
 let q:=PySem.W.cellsFrom_some sc.names n [] (.inl h);exact Option.isSome_iff_exists.mp q
variable {qual:Str}{scope:Scope}
theorem By {f:Addr}{cd:`aM}{s1:U0}{E:XK}(S:bE N ps scope)(hd:A.handled=none)(e0:qV P w K mg base A outer s H)(hl:vs.length=ps.length)(r:Vals vs us)(x:InCallC s ⇑s (bindL (UT qual scope ⇑s f cd).kindOf (ps.zip us) λ_=>none) (cellsFrom (⇑s+1) scope.names []) (bindC (UT qual scope ⇑s f cd).kindOf (ps.zip us) λ_=>none) s1):
 Inv (eK CX P w K mg base N qual scope f cd A outer s H E) [] (start N vs) H s1:=by
 let X1:ps.length<=N.length:=by have:=congrArg List.length S.pre;rw[Sm] at this;cbv
 let⟨h1,tk,rfl,hk⟩:=x.done;let noA:∀b:Addr,b∉(eK CX P w K mg base N qual scope f cd A outer s H E).ex:=λb z=>Xt (show b∈([]:Ro) from z) `d;refine⟨⟨e0.mod,S.kind,rfl,rfl,Uk _,λy z c h1 h2=>?_,λy hy=>?_,λy c _ h=>?_,λ_=>hd,U6.frames_deeper e0.frames,.inr ⟨rfl,rfl⟩,λb z=>Xt z (noA b),e0.bs,e0.bsz,λb _ _=>noA b,λb z=>Xt z (noA b),e0.YF,e0.frf⟩,
  rfl,e0.bare,Un.kept hk,⟨_,x.toInCall.ns,λi y v h1 h2 h3=>?_⟩,λy c h=>⟨_,x.cell y c h⟩,e0.XJ.fresh (Uk _),λy c h=>?_,λp hp=>Xt (show p∈([]:Rk) from hp) `d,e0.XJ.kept hk,?_⟩
 ·exact name_of_addr x.apart (Vc h1) (Vc h2)
 ·let hy:scope.names.lookup y∣.cell∨scope.names.lookup y∣.free:=hy;obtain hy | hy:=hy
  ·exact br hy
  ·exact Xt rfl (S.nofree _ (Vc hy))
 ·exact UH (x.above y c (Vc h))
 ·let hi:i<vs.length:=by
   unfold start at h2;by_cases hi:i<vs.length
   ·exact hi
   ·rw[Su (~~~hi)] at h2;rw[Tp] at h2;split at h2<;>cases h2
  let ha:vs[i]?∣v:=by
   unfold start at h2;rw[So (~~~hi),R6] at h2;cases e:vs[i]? with
   | none=>rw[e] at h2;cases h2
   | some a=>rw[e] at h2;cases h2;rfl
  let⟨u,hu,rv⟩:=r.get ha;let hp:ps[i]?∣y:=by
   rw[← S.pre,List.getElem?_take_of_lt `a];exact h1
  let ndP:ps.Nodup:=by rw[← S.pre];exact S.nd.sublist (List.take_sublist _ _)
  refine⟨u,rv,?_⟩;obtain k | k:=S.par y (R7 hp)
  ·exact .inl ⟨k,u6 ndP hp hu k⟩
  ·let⟨c,e⟩:=br (n:=⇑s+1) k;refine .inr ⟨.inl k,c,e,?_⟩;let q:=x.cell y c e;rw[vd ndP hp hu (by show scope.names.lookup y≠_;rw[k];decide)] at q;exact q
 ·exact e0.XJ.fresh (UH (x.above y c (Vc h)))
 ·unfold start;show _=N.length;rw[RY,RS,Ta];cbv
theorem M5 {k:Nat}{f:Addr}{params:Arguments}{dV kV doc pm XH ct oc:`aM}{an od:Option Addr}{Zi:Array Rn}(lk:K.lookup f∣⟨oc,od,.func (Xd name qual params body scope dV kV doc pm an XH ct),Zi⟩)(Zz:Xh K XH qual=true)(S:bE N ps scope)(len:∀vs H Q E,sp vs H Q E->vs.length=ps.length)(X2:∀(A:U6)(outer:List Env)(s:U0)(H:Hp)(vs:`R)(Q:VK)(E:XK),bG k (A.deeper (UT qual scope ⇑s f XH))->sp vs H Q E->
  ∃t,lD (eK CX P w K mg base N qual scope f XH A outer s H E) body t/\t {nx:=λ_ H'=>Q .XT H',rt:=Q} (start N vs) H):
 fb P w K mg base CX (k+1) f (Xd name qual params body scope dV kV doc pm an XH ct) ps sp:=by
 refine⟨len,λA outer s H args us vs Q E hr e0 hb r Zx=>?_⟩;let hl:=len _ _ _ _ Zx;let KX:K.In s.heap:=e0.mod.kin.keeps λb o e=>(e0.bs b o e).1;let lim:s.heap.NoLimit:=e0.mod.nolimit.keeps λb o e=>(e0.bs b o e).1;let hkind:∀y∈ps.zip us,scope.names.lookup y.1∣.local∨(scope.names.lookup y.1∣.cell/\((cellsFrom (⇑s+1) scope.names []).lookup y.1).isSome=true):=λ⟨n,v⟩ hy=>by
  obtain q | q:=S.par n (TN hy).1
  ·exact .inl q
  ·exact .inr ⟨q,PySem.W.cellsFrom_some _ _ _ (.inl q)⟩
 refine codeAny_call_function hr.depth (KX _ _ lk) rfl S.co S.gen rfl (PySem.W.codeRec_of KX Zz) (hb _ _ _ _ ?_);refine wpAny_newFunctionEnv_cells S.kind hkind λenv he s1 x=>?_;subst he;refine⟨lim.keeps x.toInCall.keep,codeAny_func ?_⟩;let⟨t,ht,hq⟩:=X2 A outer s H vs Q E (hr.deeper _) Zx;let I:Inv (eK CX P w K mg base N qual scope f XH A outer s H E) [] (start N vs) H s1:=By S hr.hd e0 hl r x;refine Ve (ht [] s1 (start N vs) H _ I hq) (λfl s' hs=>?_) λe s' hs=>hs;let fin:∀{σ':St}{H':Hp}{v:V}{u:`aM},Inv (eK CX P w K mg base N qual scope f XH A outer s H E) [] σ' H' s'->RelV v u->Q v H'->CE outer P w H s Q u s':=
  λ{σ' H' v u} J rv q=>⟨v,H',J.os,J.bare,J.base,J.XJ,rv,q⟩
 cases fl with
 | ret u=>
   let⟨v,σ',H',J,rv,q⟩:=hs;exact fin J rv q
 | next=>
   let⟨σ',H',J,q⟩:=hs;exact fin (v:=V.XT) (u:=W0) J rfl q
 | brk=>
   let⟨_,_,_,q⟩:=hs;exact RG q
 | cont=>
   let⟨_,_,_,q⟩:=hs;exact RG q
section
variable {p:Pos}{id T:String}{r:List V->Hp->VK->Prop}
def Pg (r:List V->Hp->VK->Prop)(t:TA):TE:=λσ H Q=>t σ H λvs H1=>r vs H1 Q
theorem fg (hc:gb X (.builtin id) r)(hg:Gl X x)(hm:X.mg x=none)(hv:Vq x∣.builtin id)(ha:PA X (e::es) t)(hn:x≠"__name__":=by decide)(Yd:Yz x:=by decide)(he:dh X e es:=by rfl)(X1:fo X pos es:=by rfl):PE X (.Call `ao (e::es) [] pos) (Pg r t):=by
 intro XD s σ H Q I h;refine VB (je I hg hm hv ?_ hn Yd);exact PyProof.Rows.callWith_builtin1 (a8 (ha pos XD s σ H _ I h) λus s1 ⟨vs,H1,I1,r1,q1⟩=>hc XD s1 σ H1 vs us Q I1 r1 q1) he X1
theorem i7 (hc:gb X (.type T) r)(hg:Gl X x)(hm:X.mg x=none)(hv:Vq x∣.type T)(ha:PA X (e::es) t)(hn:x≠"__name__":=by decide)(Yd:Yz x:=by decide)(he:dh X e es:=by rfl)(X1:fo X pos es:=by rfl):PE X (.Call `ao (e::es) [] pos) (Pg r t):=by
 intro XD s σ H Q I h;refine VB (je I hg hm hv ?_ hn Yd);exact UQ (a8 (ha pos XD s σ H _ I h) λus s1 ⟨vs,H1,I1,r1,q1⟩=>hc XD s1 σ H1 vs us Q I1 r1 q1) he X1
end
end L2
namespace HT
open PySem PyProof.Rows
section
open PySem.SeqAt
open PySem.AutoSeq1 (wpAny_loadPart')
open PySem.MeetsSeq PySem.MeetsSeq2 PySem.MeetsSeq3
end
variable {sl:Addr}
section
variable {prog:U4}{w:World}{A:U6}{E:`s}{s:U0}
noncomputable def XX (n d:Nat):Option Int->Nat
 | none=>d
 | some v=>if v<0 then(v+(n:Int)).toNat else min v.toNat n
theorem KC (n d:Nat)(hd:d<=n)(o:Option Int):XX n d o<=n:=by
 cases o with
 | none=>exact hd
 | some v=>
   show(if v<0 then(v+(n:Int)).toNat else min v.toNat n)<=n;by_cases hv:v<0
   ·rw[Xv hv];cbv
   ·rw[Xu hv];exact UD _ _
theorem zH (v:Int)(n d:Nat):(if v<0 then max (v+(n:Int)) 0 else min v (n:Int))=((XX n d (some v):Nat):Int):=by
 show(if v<0 then max (v+(n:Int)) 0 else min v (n:Int))=(((if v<0 then(v+(n:Int)).toNat else min v.toNat n):Nat):Int);by_cases hv:v<0
 ·simp only[Xv hv];cbv
 ·simp only[Xu hv];cbv
theorem A1 (lo hi:Option Int)(n:Nat):Wj lo hi 1 (n:Int)=(((XX n 0 lo:Nat):Int),((XX n n hi:Nat):Int)):=by
 let h1:¬((1:Int)<0):=`a
 unfold Wj;simp only[h1,if_false];refine UO ?_ ?_
 ·cases lo with
  | none=>rfl
  | some v=>exact zH v n 0
 ·cases hi with
  | none=>rfl
  | some v=>exact zH v n n
theorem AQ (i j:Nat):Wi (i:Int) (j:Int) 1=j-i:=by
 unfold Wi;let h1:(1:Int)>0:=`a
 simp only[h1,if_true,Int.ediv_one];split<;>cbv
theorem sv {v:`aM}{o:Option Int}{Q:Option Int->U0->Prop}(p:VJ v o)(h:Q o s):wpAny `t A (Builtin.Slice.slicePartIndex v) Q E s:=by
 cases p with
 | none=>exact slicePart_none h
 | int i t=>exact slicePart_int h
theorem lI {vl vu:`aM}{lo hi:Option Int}{n:Nat}{Q:Int×Int×Nat->U0->Prop}(hs:s.heap.IsSliceOf sl vl vu .none)(pl:VJ vl lo)(pu:VJ vu hi)(h:Q (((XX n 0 lo:Nat):Int),1,XX n n hi-XX n 0 lo) s):wpAny `t A (Builtin.Slice.sliceApplied (.ref sl) (pure (n:Int))) Q E s:=by
 let⟨os,hos,hcs,hds⟩:=id hs;unfold Builtin.Slice.sliceApplied Builtin.Slice.sliceFields;refine U1 (U1 (Vd hos hds (x:=vl) rfl (U1 (Vd hos hds (x:=vu) rfl (U1 (Vd hos hds (x:=.none) rfl (U3 ?_)))))));refine U1 (slicePart_none ?_);show wpAny _ _ (if((1:Int)==0)=true then _ else _) _ _ s;rw[Xu `c];refine U1 (sv pl (U1 (sv pu (U1 (U3 ?_)))));show wpAny _ _ (match Wj lo hi 1 (n:Int) with | (lo,hi)=>pure (lo,(1:Int),Wi lo hi 1)) _ _ s;rw[A1 lo hi n];show wpAny _ _ (pure (((XX n 0 lo:Nat):Int),(1:Int),Wi ((XX n 0 lo:Nat):Int) ((XX n n hi:Nat):Int) 1)) _ _ s;rw[AQ];exact U3 h
theorem Eo (xs:Array Value)(i k:Nat):((Sd k).filterMap λ(m:Nat)=>xs[((i:Int)+(m:Int)*1).toNat]?).toArray=((xs.toList.drop i).take k).toArray:=by
 let e:(λ(m:Nat)=>xs[((i:Int)+(m:Int)*1).toNat]?)=λm=>xs[i+m]?:=by
  funext m;have:((i:Int)+(m:Int)*1).toNat=i+m:=`a
  rw[this]
 rw[e];have:=pick_run xs i k;rw[List.filterMap_map] at this;let e2:((λx=>xs[x]?) ∘ λx=>i+x)=λm=>xs[i+m]?:=rfl;rw[e2] at this;rw[this]
theorem qg {t:Addr}{items:Array Value}{vl vu:`aM}{lo hi:Option Int}{Q:`s}(ht:IsTup s.heap t items)(hs:s.heap.IsSliceOf sl vl vu .none)(pl:VJ vl lo)(pu:VJ vu hi)(hw:¬(XX items.size 0 lo=0/\XX items.size items.size hi=items.size))(h:Q (.ref ⇑s) {s with heap:=s.heap.push {cls:=.type "tuple",data:=.seq ((items.toList.drop (XX items.size 0 lo)).take `aE).toArray}})(hsz:items.size<=UZ):wpAny `t A (VD (.ref t) (.ref sl)) Q E s:=by
 let Zt:sizeOk (.seq ((items.toList.drop (XX items.size 0 lo)).take `aE).toArray):=by
  show((items.toList.drop (XX items.size 0 lo)).take `aE).toArray.size<=UZ;rw[Si,Sm,Ts,Ru];cbv
 let hj:XX items.size items.size hi<=items.size:=KC _ _ (Uk _) hi;let⟨os,hos,hcs,hds⟩:=id hs;let hTs:s.TypeIs (.ref sl) "slice":=⟨os,hos,hcs⟩;unfold VD
 try with_reducible refine Vg ?_
 first | refine U1 (U3 ?_) | skip
 refine U1 (wpAny_sequenceKey ht.typeIs `c ?_);refine U1 (Vi (name:=WX "__getitem__") ht.typeIs UR
  (Vv UR ht.typeIs entry_tuple_getitem ?_ (args_tuple_getitem _ _)))
 show wpAny _ _ (Builtin.Tuple.tupleItemsOf (.ref t) >>=_) _ _ s;refine U1 (tupleItemsOf_ ht ?_);refine U1 (wpAny_typeOf hTs ?_);rw[Xv `c];refine U1 (lI hs pl pu ?_);let ZQ:¬(`P=true):=by
  intro q;rw[Rx,Rx] at q;let q1:((XX items.size 0 lo:Nat):Int)=0:=eq_of_beq q.1.1;let q2:XX items.size items.size hi-XX items.size 0 lo=items.size:=eq_of_beq q.2;exact hw ⟨`a,`a⟩
 show wpAny _ _ (if(((XX items.size 0 lo:Nat):Int)==0&&(1:Int)==1&&`aE==items.size)=true then _ else _) _ _ s;rw[Xu ZQ,Eo]
 first
  | exact U1 (m:=Wo _) (Vl (U3 ⟨_,rfl,U3 h⟩) Zt)
  | exact U1 (m:=Wo _) (Vl (U1 (U3 (U3 ⟨_,rfl,U3 h⟩))) Zt)
  | exact U1 (U1 (m:=Wo _) (Vl (U3 (U3 ⟨_,rfl,U3 h⟩)) Zt))
  | exact U1 (U1 (m:=Wo _) (Vl (U3 ⟨_,rfl,U3 h⟩) Zt))
end
end HT
namespace L2
open PySem PySem.Spec PyProof.Rows
abbrev TO:=St->Hp->(Option Int->Hp->Prop)->Prop
def PO (X:Cx)(e:Option Expr)(t:TO):Prop:=
 ∀(XD:Rk)(s:U0)(σ:St)(H:Hp)(Q:Option Int->Hp->Prop),Inv X XD σ H s->t σ H Q->
  wpAny `f X.A (evalPart e X.env) (λu s'=>∃o H',Inv X XD σ H' s'/\VJ u o/\Q o H') X.xe s
def Ig:TO:=λ_ H Q=>Q none H
def NF (t:TE):TO:=λσ H Q=>t σ H λx H1=>∃i,x= .int i/\Q (some i) H1
variable {X:Cx}{e:Expr}{pos:Pos}
section
variable {te:TE}{lo hi:Option Expr}{tl th:TO}{p2:Pos}
theorem zk:PO X none Ig:=by
 intro XD s σ H Q I h;rw[evalPart_none];exact U3 ⟨none,H,I,.none,h⟩
theorem zU (h:PE X e te):PO X (some e) (NF te):=by
 intro XD s σ H Q I hw;rw[evalPart_some];refine a8 (h XD s σ H _ I hw) λu s1 ⟨x,H1,I1,r1,q1⟩=>?_;let⟨i,rfl,q⟩:=q1;let⟨t,rfl⟩:=r1;exact⟨some i,H1,I1,.int i t,q⟩
def BQ (X:Cx)(r:V->Option Int->Option Int->Hp->VK->Prop):Prop:=
 ∀(XD:Rk)(s:U0)(σ:St)(H:Hp)(x:V)(v vl vu:`aM)(lo hi:Option Int)(sl:Addr)(Q:VK),Inv X XD σ H s->RelV x v->s.heap.IsSliceOf sl vl vu .none->VJ vl lo->VJ vu hi->r x lo hi H Q->
  ∃T id,typeLookup (.type T) "__getitem__"=pure (some (.builtin id))/\s.TypeIs v T/\wpAny `f X.A (VD v (.ref sl)) (EP X XD σ Q) X.xe s
def tSl (r:V->Option Int->Option Int->Hp->VK->Prop)(te:TE)(tl th:TO):TE:=λσ H Q=>te σ H λx H1=>tl σ H1 λl H2=>th σ H2 λu H3=>r x l u H3 Q
theorem lT {r:V->Option Int->Option Int->Hp->VK->Prop}(hr:BQ X r)(he:PE X e te)(hl:PO X lo tl)(hu:PO X hi th):PE X (.Subscript e (.Slice lo hi none p2) pos) (tSl r te tl th):=by
 intro XD s σ H Q I h;refine Subscript_ (a8 (he XD s σ H _ I h) λv s1 ⟨x,H1,I1,r1,q1⟩=>?_);refine wpAny_Slice (a8 (hl XD s1 σ H1 _ I1 q1) λvl s2 ⟨l,H2,I2,pl,q2⟩=>a8 (hu XD s2 σ H2 _ I2 q2) λvu s3 ⟨u,H3,I3,pu,q3⟩=>?_);rw[evalPart_none];refine U3 ?_;let I4:Inv X XD σ H3 {s3 with heap:=s3.heap.push {cls:=.type "slice",data:=.fields #[vl,vu,.none]}}:=I3.kept (t':=s3.toks) λb ob q=>WC _ q;let⟨T,id,hT,ht,hg⟩:=hr XD {s3 with heap:=s3.heap.push {cls:=.type "slice",data:=.fields #[vl,vu,.none]}} σ H3 x v vl vu l u ⇑s3 Q I4 r1 (Heap.IsSliceOf.new ..) pl pu q3;show wpAny `f X.A (UY e (.Slice lo hi none p2) v (.ref ⇑s3)) (EP X XD σ Q) X.xe {s3 with heap:=s3.heap.push {cls:=.type "slice",data:=.fields #[vl,vu,.none]}};exact tail_any (ops:=[.ref ⇑s3,v]) ht hT hg (by with_unfolding_all rfl)
def mB (xs:`R)(lo hi:Option Int):List V:=(xs.drop (HT.XX xs.length 0 lo)).take (HT.XX xs.length xs.length hi-HT.XX xs.length 0 lo)
theorem qq (xs:`R)(lo hi:Option Int):(mB xs lo hi).length<=xs.length:=by
 unfold mB;rw[Sm,Ts];cbv
def Q7 (K:W7):V->Option Int->Option Int->Hp->VK->Prop:=λx lo hi H Q=>∃a xs,x= .ref a/\d7 K H a xs/\
 ¬(HT.XX xs.length 0 lo=0/\HT.XX xs.length xs.length hi=xs.length)/\∀p,H p=none->Q (.ref p) (upd H p (.tup (mB xs lo hi)))
theorem CJ:BQ X (Q7 X.K):=by
 intro XD s σ H x v vl vu lo hi sl Q I rx hs pl pu h;let⟨a,xs,rfl,hx,hw,q⟩:=h;cases rx
 let⟨XF,r,ht,hz⟩:=I.tuple hx;let hlen:XF.toArray.size=xs.length:=by rw[Si];exact r.length.symm
 refine⟨"tuple",_,UR.lookup,ht.typeIs,?_⟩;refine HT.qg ht hs pl pu (by rw[hlen];exact hw) ?_ (by rw[hlen];exact hz);rw[hlen];refine⟨.ref ⇑s,_,I.laid (t':=s.toks) (o:=.tup (mB xs lo hi)) (λb ob q=>WC _ q) (Uk _) ?_,rfl,q _ (I.XJ.fresh (Uk _))⟩;exact⟨Um (qq xs lo hi) hz,_,(r.drop (HT.XX xs.length 0 lo)).take (HT.XX xs.length xs.length hi-HT.XX xs.length 0 lo),IsTup.new _ _⟩
end
variable {α:Type}{n:Nat}{i:Int}{j:Nat}{xs:`u}
noncomputable def fO (n:Nat)(i:Int):Option Nat:=if 0<=i then(if i<n then some i.toNat else none) else if -(n:Int)<=i then some (i+n).toNat else none
def bP (xs:`u)(i:Int):Option α:=(fO xs.length i).bind λj=>xs[j]?
theorem ua (h:fO n i∣j):seqIndex? i n∣j/\j<n/\ -(n:Int)<=i/\i<n:=by
 unfold fO at h;by_cases h0:0<=i
 ·rw[Xv h0] at h;by_cases h1:i<n
  ·rw[Xv h1] at h;let e:i.toNat=j:=Option.some.inj h;exact⟨by rw[seqIndex_of h0 h1,e],`a,`a,h1⟩
  ·rw[Xu h1] at h;cases h
 ·rw[Xu h0] at h;by_cases h1: -(n:Int)<=i
  ·rw[Xv h1] at h;let e:(i+n).toNat=j:=Option.some.inj h;exact⟨by rw[seqIndex_neg `a h1,e],`a,h1,`a⟩
  ·rw[Xu h1] at h;cases h
theorem ub {v:α}(h:bP xs i∣v):∃j,seqIndex? i xs.length∣j/\xs[j]?∣v/\j<xs.length/\ -(xs.length:Int)<=i/\i<xs.length:=by
 unfold bP at h;cases e:fO xs.length i with
 | none=>rw[e] at h;cases h
 | some j=>
   rw[e] at h;let⟨h1,h2,h3,h4⟩:=ua e;exact⟨j,h1,h,h2,h3,h4⟩
theorem IZ {v:α}(h:xs[j]?∣v):bP xs (j:Int)∣v:=by
 let hj:j<xs.length:=(RP.mp h).1;let e:fO xs.length (j:Int)∣j:=by
  unfold fO;rw[Xv `a,Xv `a];simp
 unfold bP;rw[e];exact h
def dN (b:Expr):Prop:=∀o i,V3 b false o i=operate [o,i] (VD o i)
def Hd (X:Cx)(r:R2):Prop:=
 ∀(value slice:Expr)(XD:Rk)(s:U0)(σ:St)(H:Hp)(x y:V)(v u:`aM)(Q:VK),Inv X XD σ H s->RelV x v->RelV y u->r x y H Q->
  V3 slice false v u=operate [v,u] (VD v u)->wpAny `f X.A (UY value slice v u) (EP X XD σ Q) X.xe s
def z9 (X:Cx)(id:String)(r:V->List V->Hp->VK->Prop):Prop:=
 ∀(XD:Rk)(s:U0)(σ:St)(H:Hp)(x:V)(xs:`R)(v:`aM)(us:Rp)(Q:VK),Inv X XD σ H s->RelV x v->Vals xs us->r x xs H Q->
  wpAny `f X.A (call (.builtin id) (v::us)) (EP X XD σ Q) X.xe s
variable {XD:Rk}{σ:St}{H:Hp}{s:U0}{XF:Rp}{A:U6}{y x:V}{u:`aM}{T:String}{v:`aM}
section
variable {a b:Expr}{ta tb:TE}
theorem ir {r:R2}(hr:Hd X r)(ha:PE X a ta)(hb:PE X b tb)(hs:dN b):PE X (.Subscript a b pos) (Gd r ta tb):=by
 intro XD s σ H Q I h;exact Subscript_ (Es ha hb I h λv u s2 x y H2 I2 rx ry q=>hr a b XD s2 σ H2 x y v u Q I2 rx ry q (hs _ _))
def QM (K:W7):R2:=λx y H Q=>∃p xs i v,x= .ref p/\y= .int i/\bt K H p xs/\bP xs i∣v/\Q v H
def QD (K:W7):R2:=λx y H Q=>∃p xs i v,x= .ref p/\y= .int i/\d7 K H p xs/\bP xs i∣v/\Q v H
def QJ:R2:=λx y H Q=>∃z i c,x= .str z/\y= .int i/\z.length<=UZ/\bP z.cps.toList i∣c/\Q (.str ⟨#[c]⟩) H
theorem gU:Hd X (QM X.K):=by
 intro value slice XD s σ H x y v u Q I rx ry h hs;let⟨p,xs,i,z,rfl,rfl,hq,he,q⟩:=h;cases rx
 let⟨t,rfl⟩:=ry;let⟨XF,r,pl,hz⟩:=I.list hq;let⟨j,h1,h2,h3,h4,h5⟩:=ub he;let⟨w,ew,Z9⟩:=r.get h2;let hl:=r.length;let hn:=lG;let fin:EP X XD σ Q w s:=⟨z,H,I,Z9,q⟩;by_cases h0:0<=i
 ·let hj:i.toNat=j:=by
   rw[seqIndex_of h0 h5] at h1;exact Option.some.inj h1
  exact item_listR pl.isList h0 `a (by rw[hj];simpa using ew) fin hs
 ·let hj:(i+(XF.toArray.size:Int)).toNat=j:=by
   rw[seqIndex_neg `a h4] at h1;rw[Si,← hl];exact Option.some.inj h1
  exact subscriptTail_builtinR (x:=w) pl.isList.typeIs slot_list_getitem.lookup
   (wpAny_getItem_list_neg (Q:=λr s'=>r=w/\EP X XD σ Q r s') pl.isList `a (by rw[Si]<;>cbv) `a (by rw[hj];simpa using ew) ⟨rfl,fin⟩) hs
theorem Bw:Hd X (QD X.K):=by
 intro value slice XD s σ H x y v u Q I rx ry h hs;let⟨p,xs,i,z,rfl,rfl,hq,he,q⟩:=h;cases rx
 let⟨t,rfl⟩:=ry;let⟨XF,r,pl,hz⟩:=I.tuple hq;let⟨j,h1,h2,h3,h4,h5⟩:=ub he;let⟨w,ew,Z9⟩:=r.get h2;let hl:=r.length;let hn:=lG;let fin:EP X XD σ Q w s:=⟨z,H,I,Z9,q⟩;exact subscriptTail_builtinR (x:=w) pl.typeIs slot_tuple_getitem.lookup
  (getItem_tuple (j:=j) (Q:=λr s'=>r=w/\EP X XD σ Q r s') pl `a `a (by rw[Si,← hl];exact h1) (~~~ew) ⟨rfl,fin⟩) hs
theorem Lv:Hd X QJ:=by
 intro value slice XD s σ H x y v u Q I rx ry h hs;let⟨z,i,c,rfl,rfl,hz,he,q⟩:=h;let⟨t,rfl⟩:=rx;let⟨t',rfl⟩:=ry;let⟨j,h1,h2,h3,h4,h5⟩:=ub he;let hl:z.cps.toList.length=z.length:=by simp[Str.length]
 rw[hl] at h1 h4 h5;let hn:=lG;exact tail_any (VL s z t) slot_str_getitem.lookup (getItem_str (c:=c) (by
  let e1:decide (i < -(2 ^ 63:Int))=false:=Xz `a;let e2:decide (i≥2 ^ 63)=false:=Xz `a;rw[e1,e2,Bool.or_false]) (by rw[h1];simpa using h2) ⟨.str ⟨#[c]⟩,H,I.tok _,⟨_,rfl⟩,q⟩) hs
theorem AZ (XF:Rp)(n j:Nat)(u:`aM):WR (·.setIfInBounds j u) {cls:=.type "list",data:=.seq XF.toArray n}={cls:=.type "list",data:=.seq (XF.set j u).toArray n}:=by
 simp[WR]
theorem Inv.lst {XD:Rk}{σ:St}{H:Hp}{s:U0}{p:Addr}{xs:`R}(I:`j)(h:H p∣.lst xs):
 ∃(XF:Rp)(n:Nat),Vals xs XF/\s.heap.get? p=some {cls:=.type "list",data:=.seq XF.toArray n}/\xs.length<=UZ:=by
 let⟨z,XF,n,r,e⟩:=I.XJ p _ h;exact⟨XF,n,r,e,z⟩
theorem Inv.LG {p:Addr}{xs ys:`R}{its':Rp}{n':Nat}{f:Obj->Obj}(I:`j)(h:H p∣.lst xs)(ho:s.heap.get? p=some {cls:=.type "list",data:=.seq XF.toArray n})(hf:f {cls:=.type "list",data:=.seq XF.toArray n}={cls:=.type "list",data:=.seq its'.toArray n'})(r:Vals ys its')(hz:ys.length<=UZ)(t:Nat):
 Inv X XD σ (upd H p (.lst ys)) {s with heap:=s.heap.update p f,toks:=t}:=by
 let e:(s.heap.update p f).get? p=some {cls:=.type "list",data:=.seq its'.toArray n'}:=by
  rw[WK f ho (by rw[hf]<;>rfl),hf]
 refine I.write (x:=p) (e:=p) (by rw[h];trivial) (.inl rfl) (λb u hb q=>(Heap.get?_update_other _ _ (UJ hb)).trans q) ⟨_,e⟩ ?_;exact⟨hz,its',n',r,e⟩
def M9:V->V->V->Hp->(Hp->Prop)->Prop:=λo i v H Q=>∃p xs k j,o= .ref p/\i= .int k/\H p∣.lst xs/\fO xs.length k∣j/\Q (upd H p (.lst (xs.set j v)))
theorem set_list:LV X M9:=by
 intro XD s σ H o i v ov iv u Q I ro ri rv h;let⟨p,xs,k,j,rfl,rfl,hp,hj,q⟩:=h;cases ro
 let⟨t,rfl⟩:=ri;let⟨XF,n,r,ho,hz⟩:=I.lst hp;let⟨h1,h2,h3,h4⟩:=ua hj;let hl:=r.length;let hn:=lG;let I':Inv X XD σ (upd H p (.lst (xs.set j v))) {s with heap:=s.heap.update p (WR (·.setIfInBounds j u))}:=
  I.LG hp ho (AZ XF n j u) (r.set rv j) (by rw[SF];exact hz) s.toks
 by_cases h0:0<=k
 ·let hk:k.toNat=j:=by
   rw[seqIndex_of h0 h4] at h1;exact Option.some.inj h1
  exact PySem.W.ki_setAt ho h0 `a (by rw[Si,← hl];exact h4) (by rw[hk];exact⟨_,I',q⟩)
 ·let hk:(k+(XF.toArray.size:Int)).toNat=j:=by
   rw[seqIndex_neg `a h3] at h1;rw[Si,← hl];exact Option.some.inj h1
  exact PySem.W.ki_setBack ho `a (by rw[Si,← hl];exact h3) `a (by rw[hk];exact⟨_,I',q⟩)
theorem wH (lo hi:Option Int)(n:Nat):(Vz lo hi none n).1=((HT.XX n 0 lo:Nat):Int)/\(Vz lo hi none n).2.1=((HT.XX n n hi:Nat):Int)/\(Vz lo hi none n).2.2=1:=by
 refine⟨?_,?_,rfl⟩
 ·cases lo with
  | none=>simp[Vz,HT.XX]
  | some i=>
    simp only[Vz,HT.XX,Option.getD_none,show(1:Int)>0 by decide,if_true];by_cases h:i<0
    ·simp only[h,if_true]<;>cbv
    ·simp only[h,if_false]<;>cbv
 ·cases hi with
  | none=>simp[Vz,HT.XX]
  | some i=>
    simp only[Vz,HT.XX,Option.getD_none,show(1:Int)>0 by decide,if_true];by_cases h:i<0
    ·simp only[h,if_true]<;>cbv
    ·simp only[h,if_false]<;>cbv
theorem vq (XF:Rp)(lo hi:Option Int):slicePick XF.toArray lo hi none=((XF.drop (HT.XX XF.length 0 lo)).take (HT.XX XF.length XF.length hi-HT.XX XF.length 0 lo)).toArray:=by
 let⟨h1,h2,h3⟩:=wH lo hi XF.toArray.size;unfold slicePick;rw[h1,h2,h3];simp only[sliceRange_one,pick_run,Si]<;>rfl
def Rc (K:W7):V->Option Int->Option Int->Hp->VK->Prop:=λx lo hi H Q=>∃a xs,x= .ref a/\bt K H a xs/\∀p,H p=none->Q (.ref p) (upd H p (.lst (mB xs lo hi)))
theorem IA:BQ X (Rc X.K):=by
 intro XD s σ H x v vl vu lo hi sl Q I rx hs pl pu h;let⟨a,xs,rfl,hx,q⟩:=h;cases rx
 let⟨XF,r,ht,hz⟩:=I.list hx;let hlen:=r.length;refine⟨"list",_,slot_list_getitem.lookup,ht.isList.typeIs,?_⟩;refine wpAny_getItem_list_slice ht.isList hs pl pu .none `d ?_ (by rw[Si]<;>cbv)
 rw[vq,← hlen];refine⟨.ref ⇑s,_,I.laid (t':=s.toks) (o:=.lst (mB xs lo hi)) (λb ob q=>WC _ q) (Uk _) ?_,rfl,q _ (I.XJ.fresh (Uk _))⟩;exact⟨Um (qq xs lo hi) hz,_,0,(r.drop (HT.XX xs.length 0 lo)).take (HT.XX xs.length xs.length hi-HT.XX xs.length 0 lo),WG _ rfl⟩
noncomputable def kL:V->Bool
 | .XT=>true
 | .bl _=>true
 | .int _=>true
 | .str _=>true
 | _=>false
noncomputable def su:V->V->Bool
 | .XT,.XT=>true
 | .bl a,.bl b=>a==b
 | .bl a,.int b=>(if a then 1 else 0)==b
 | .int a,.bl b=>a==(if b then 1 else 0)
 | .int a,.int b=>a==b
 | .str a,.str b=>a==b
 | _,_=>false
theorem Jy (ry:RelV y u)(rx:RelV x v)(fy:kL y=true)(fx:kL x=true):WV A s u v (su y x):=by
 cases y with
 | XT=>
   cases ry
   cases x with
   | XT=>cases rx;exact WV.same _
   | bl b=>cases rx;exact WV.none_bool b
   | int b=>let⟨t,rfl⟩:=rx;exact WV.none_int b t
   | str b=>let⟨t,rfl⟩:=rx;exact WV.none_str b t
   | _=>exact Xt (show false=true from fx) Rv
 | bl a=>
   cases ry
   cases x with
   | XT=>cases rx;exact WV.bool_none a
   | bl b=>cases rx;exact WV.bool_bool a b
   | int b=>let⟨t,rfl⟩:=rx;exact WV.bool_int a b t
   | str b=>let⟨t,rfl⟩:=rx;exact WV.bool_str a b t
   | _=>exact Xt (show false=true from fx) Rv
 | int a=>
   let⟨t',rfl⟩:=ry;cases x with
   | XT=>cases rx;exact WV.int_none a t'
   | bl b=>cases rx;exact WV.int_bool a t' b
   | int b=>let⟨t,rfl⟩:=rx;exact WV.int_int a t' b t
   | str b=>let⟨t,rfl⟩:=rx;exact WV.int_str a t' b t
   | _=>exact Xt (show false=true from fx) Rv
 | str a=>
   let⟨t',rfl⟩:=ry;cases x with
   | XT=>cases rx;exact WV.str_none a t'
   | bl b=>cases rx;exact WV.str_bool a t' b
   | int b=>let⟨t,rfl⟩:=rx;exact WV.str_int a t' b t
   | str b=>let⟨t,rfl⟩:=rx;exact WV.str_str a t' b t
   | _=>exact Xt (show false=true from fx) Rv
 | _=>exact Xt (show false=true from fy) Rv
noncomputable def lQ (x:V)(u:`aM):Bool:=match u with
 | .none=>su .XT x
 | .bool b=>su (.bl b) x
 | .int i _=>su (.int i) x
 | .str z _=>su (.str z) x
 | _=>false
theorem BE (r:RelV y u)(f:kL y=true):lQ x u=su y x:=by
 cases y with
 | XT=>cases r;rfl
 | bl b=>cases r;rfl
 | int i=>let⟨t,rfl⟩:=r;rfl
 | str z=>let⟨t,rfl⟩:=r;rfl
 | _=>exact Xt (show false=true from f) Rv
theorem mV {x:V}:∀{xs:`R}{us:Rp},Vals xs us->xs.all kL=true->us.any (lQ x)=xs.any λy=>su y x
 | _,_,.nil,_=>rfl
 | y::xs,u::us,.cons r t,f=>by
   rw[all_cons,Rx] at f;rw[T9,T9,BE r f.1,mV t f.2]
theorem lL {A:U6}{s:U0}{x:V}{v:`aM}(rx:RelV x v)(fx:kL x=true):∀{xs:`R}{us:Rp},Vals xs us->xs.all kL=true->∀u∈us,WV A s u v (lQ x u)
 | _,_,.nil,_=>λu hu=>by cases hu
 | y::xs,u::us,.cons r t,f=>λu' hu=>by
   rw[all_cons,Rx] at f;obtain rfl | hu:=R9.mp hu
   ·rw[BE r f.1];exact Jy r rx f.1 fx
   ·exact lL rx fx t f.2 u' hu
def Gs (x:V)(xs:`R):Bool:=xs.any λy=>su y x
noncomputable def OO (K:W7)(neg:Bool):R2:=λx y H Q=>∃p xs,y= .ref p/\(bt K H p xs∨d7 K H p xs)/\kL x=true/\xs.all kL=true/\Q (.bl (if neg then !Gs x xs else Gs x xs)) H
theorem u7:fk X (Vb .In) (OO X.K false):=by
 intro XD s σ H x y v u Q I rx ry h;let⟨p,xs,rfl,hq,fx,fs,q⟩:=h;cases ry
 obtain hq | hq:=hq
 ·let⟨XF,r,pl,hz⟩:=I.list hq;refine SeqAt.in_listAt (lQ x) pl.isList (λw hw=>lL rx fx r fs w (~~~hw)) ⟨.bl _,H,I,rfl,?_⟩;rw[show XF.toArray.any (lQ x)=XF.any (lQ x) by simp,mV r fs];exact q
 ·let⟨XF,r,pl,hz⟩:=I.tuple hq;refine SeqAt.in_tupleAt (lQ x) pl (λw hw=>lL rx fx r fs w (~~~hw)) ⟨.bl _,H,I,rfl,?_⟩;rw[show XF.toArray.any (lQ x)=XF.any (lQ x) by simp,mV r fs];exact q
theorem xt:fk X (Vb .NotIn) (OO X.K true):=by
 intro XD s σ H x y v u Q I rx ry h;let⟨p,xs,rfl,hq,fx,fs,q⟩:=h;cases ry
 obtain hq | hq:=hq
 ·let⟨XF,r,pl,hz⟩:=I.list hq;refine SeqAt.notIn_listAt (lQ x) pl.isList (λw hw=>lL rx fx r fs w (~~~hw)) ⟨.bl _,H,I,rfl,?_⟩;rw[show XF.toArray.any (lQ x)=XF.any (lQ x) by simp,mV r fs];exact q
 ·let⟨XF,r,pl,hz⟩:=I.tuple hq;refine SeqAt.notIn_tupleAt (lQ x) pl (λw hw=>lL rx fx r fs w (~~~hw)) ⟨.bl _,H,I,rfl,?_⟩;rw[show XF.toArray.any (lQ x)=XF.any (lQ x) by simp,mV r fs];exact q
theorem gJ:gb X (.builtin "len") (λxs H Q=>∃p ys,xs=[.ref p]/\(bt X.K H p ys∨d7 X.K H p ys)/\Q (.int ys.length) H):=by
 intro XD s σ H xs us Q I r h;let⟨p,ys,rfl,hq,q⟩:=h;let⟨u,rfl,rx⟩:=vals1 r;cases rx
 let hn:=lG;obtain hq | hq:=hq
 ·let⟨XF,r',pl,hz⟩:=I.list hq;let hlen:=r'.length;exact Calls.call_len_list pl.isList (by simp only[Si]<;>cbv) ⟨.int ys.length,H,I.tok _,⟨s.toks+1,by rw[Si,hlen]⟩,q⟩
 ·let⟨XF,r',pl,hz⟩:=I.tuple hq;let hlen:=r'.length;exact len_tuple pl (by simp only[Si]<;>cbv) ⟨.int ys.length,H,I.tok _,⟨s.toks+1,by rw[Si,hlen]⟩,q⟩
theorem xf:gb X (.builtin "len") (λxs H Q=>∃z,xs=[.str z]/\z.length<=UZ/\Q (.int z.length) H):=by
 intro XD s σ H xs us Q I r h;let⟨z,rfl,hz,q⟩:=h;let⟨u,rfl,t,rfl⟩:=vals1 r;let hn:=lG;exact len_str `a ⟨.int z.length,H,I.tok _,⟨_,rfl⟩,q⟩
theorem xO:gb X (.type "list") (λxs H Q=>∃p ys,xs=[.ref p]/\(bt X.K H p ys∨d7 X.K H p ys)/\∀l,H l=none->Q (.ref l) (upd H l (.lst ys))):=by
 intro XD s σ H xs us Q I r h;let⟨p,ys,rfl,hq,q⟩:=h;let⟨u,rfl,rx⟩:=vals1 r;cases rx
 let fin:∀(XF:Rp),Vals ys XF->ys.length<=UZ->∀(h':Heap)(c':Nat),(∀b o',s.heap.get? b∣o'->h'.get? b∣o')->
  h'.get? ⇑s=some {cls:=.type "list",dict:=none,data:=.seq XF.toArray c',slots:= #[]}->EP X XD σ Q (.ref ⇑s) {s with heap:=h'}:=λXF r' hz h' c' kp e=>
  ⟨.ref ⇑s,_,I.laid (t':=s.toks) kp (Uk _) (show c9 X.prog X.w _ h' _ (.lst ys) from⟨hz,XF,c',r',e⟩),rfl,q _ (I.XJ.fresh (Uk _))⟩
 obtain hq | hq:=hq
 ·let⟨XF,r',pl,hz⟩:=I.list hq;let hlen:=r'.length;let⟨o,ho,hc,n,hd⟩:=pl.isList;exact call_list_seq p (.inl rfl) ho hc hd (λh' c' kp e=>fin XF r' hz h' c' kp e) (by simp only[Si]<;>cbv)
 ·let⟨XF,r',pl,hz⟩:=I.tuple hq;let hlen:=r'.length;let⟨o,ho,hc,n,hd⟩:=pl;exact call_list_seq p (.inr rfl) ho hc hd (λh' c' kp e=>fin XF r' hz h' c' kp e) (by simp only[Si]<;>cbv)
noncomputable def JD (K:W7)(T:String)(x:V)(H:Hp):Prop:=match x with
 | .str _=>T="str"
 | .int _=>T="int"
 | .ref p=>(T="list"/\∃xs,bt K H p xs)∨(T="tuple"/\∃o,K.lookup p∣o/\o.cls= .type "tuple"/\o.dict=none)∨
  (T="dict"/\((∃kvs,H p∣.dK kvs)∨∃kvs,H p∣.dT kvs))∨(T="set"/\∃S n,H p∣.set S n)
 | _=>False
theorem Bz (I:`j)(r:RelV x v)(ty:JD X.K T x H):
 s.TypeIs v T/\∀a,v= .ref a->∃ob,s.heap.get? a∣ob/\ob.dict=none:=by
 cases x with
 | str z=>
   let⟨t,rfl⟩:=r;cases (show T="str" from ty)
   exact⟨VL s z t,λ_ e=>nomatch e⟩
 | int i=>
   let⟨t,rfl⟩:=r;cases (show T="int" from ty)
   exact⟨typeIs_int s i t,λ_ e=>nomatch e⟩
 | ref p=>
   cases r
   obtain⟨rfl,xs,hq⟩ | ⟨rfl,o,hk,hc,hd⟩ | ⟨rfl,hk⟩ | ⟨rfl,S,n,hk⟩:=ty
   ·let⟨XF,_,pl,_⟩:=I.list hq;refine⟨pl.isList.typeIs,λa e=>?_⟩;cases e
    let⟨o,n,e,c,hd,_⟩:=pl;exact⟨o,e,hd⟩
   ·refine⟨⟨o,I.gy p o hk,hc⟩,λa e=>?_⟩;cases e
    exact⟨o,I.gy _ o hk,hd⟩
   ·let z:∃o,s.heap.get? p∣o/\o.ExactDict:=by
     obtain⟨kvs,hk⟩ | ⟨kvs,hk⟩:=hk
     ·let⟨_,_,_,_,o,_,_,e,ex,_⟩:=I.XJ p _ hk;exact⟨o,e,ex⟩
     ·let⟨_,_,_,_,o,_,_,e,ex,_⟩:=I.XJ p _ hk;exact⟨o,e,ex⟩
    let⟨o,e,ex⟩:=z;refine⟨⟨o,e,ex.1⟩,λa e2=>?_⟩;cases e2
    exact⟨o,e,ex.2.1⟩
   ·let⟨o,_,_,_,e,ex,_⟩:=I.XJ p _ hk;refine⟨⟨o,e,ex.1⟩,λa e2=>?_⟩;cases e2
    exact⟨o,e,ex.2.1⟩
 | _=>exact RG ty
def QC (K:W7)(T:String)(r:V->List V->Hp->VK->Prop)(to:TE):TE:=λσ H Q=>to σ H λx H1=>JD K T x H1/\r x [] H1 Q
def tBM (K:W7)(T:String)(r:V->List V->Hp->VK->Prop)(to:TE)(t:TA):TE:=λσ H Q=>to σ H λx H1=>JD K T x H1/\t σ H1 λxs H2=>r x xs H2 Q
variable {o:Expr}{es:Rr}{to:TE}{t:TA}{name:Str}{apos YC:Pos}{id:String}{r:V->List V->Hp->VK->Prop}
theorem Dg (pa:PlainAttrs T)(slot:Slot T name id)(hty:typeOf (.builtin id)=pure (.type "method_descriptor"))(hm:z9 X id r)(ho:PE X o to)(XN:eX X o name:=by rfl)(XM:(apos.endLine==YC.line)=true:=by rfl):PE X (.Call (.Attribute o name apos) [] [] YC) (QC X.K T r to):=by
 intro XD s σ H Q I h;refine wpAny_Call_method0_late XN XM (a8 (ho XD s σ H _ I h) λv s1 ⟨x,H1,I1,r1,ty,q1⟩=>?_);let⟨h1,h2⟩:=Bz I1 r1 ty;exact⟨T,id,pa,slot,hty,h1,h2,Wq rfl (PySem.evalArgs_none (hm XD s1 σ H1 x [] v [] Q I1 r1 .nil q1))⟩
theorem gT (pa:PlainAttrs T)(slot:Slot T name id)(hty:typeOf (.builtin id)=pure (.type "method_descriptor"))(hm:z9 X id r)(ho:PE X o to)(ha:PA X (e::es) t)(XN:eX X o name:=by rfl)(X4:l6 X YC (e::es):=by rfl)(XM:(apos.endLine==YC.line)=true:=by rfl)(hs:dh X e es:=by rfl)(hplain:fo X YC es:=by rfl):
 PE X (.Call (.Attribute o name apos) (e::es) [] YC) (tBM X.K T r to t):=by
 intro XD s σ H Q I h;refine wpAny_Call_method_late XN X4 XM rfl (a8 (ho XD s σ H _ I h) λv s1 ⟨x,H1,I1,r1,ty,q1⟩=>?_);let⟨h1,h2⟩:=Bz I1 r1 ty;refine⟨T,id,pa,slot,hty,h1,h2,?_⟩;let hA:=ha YC XD s1 σ H1 _ I1 q1;rw[hs] at hA ⊢;refine Wq (by show(false ||(VQ YC (U5 es X.env)).any (·.1))=false;rw[hplain]<;>rfl) (Calls.evalArgs_plain ?_)
 exact a8 hA λus s2 ⟨vs,H2,I2,r2,q2⟩=>hm XD s2 σ H2 x vs v us Q I2 r1 r2 q2
end
def He (X:Cx)(id:String)(r:V->List V->Hp->VK->Prop):Prop:=
 ∀(XD:Rk)(s:U0)(σ:St)(H:Hp)(x:V)(xs:`R)(v:`aM)(us:Rp)(Q:VK),Inv X XD σ H s->RelV x v->Vals xs us->r x xs H Q->
  wpAny `f X.A (call (.builtin id) (v::us)) (EP X XD σ Q) X.xe s
theorem Vals.one:∀{x:V}{us:Rp},Vals [x] us->∃u,us=[u]/\RelV x u
 | _,_,.cons r .nil=>⟨_,rfl,r⟩
theorem Vals.zero:∀{us:Rp},Vals [] us->us=[]
 | _,.nil=>rfl
theorem Vals.dropLast {xs:`R}{us:Rp}(h:Vals xs us):Vals xs.dropLast us.dropLast:=by
 induction h with
 | nil=>exact .nil
 | cons r t ih=>
   cases t with
   | nil=>exact .nil
   | cons q t'=>exact .cons r ih
theorem Be (l:`u):l.eraseIdx (l.length-1)=l.dropLast:=by
 induction l with
 | nil=>rfl
 | cons a r ih=>
   cases r with
   | nil=>rfl
   | cons b r=>
     let e:(a::b::r).length-1=((b::r).length-1)+1:=by
      let h1:(a::b::r).length=r.length+2:=rfl;let h2:(b::r).length=r.length+1:=rfl;cbv
     rw[e,List.eraseIdx_cons_succ,ih]
     all_goals rfl
variable {t':Nat}
section
variable {l b:Addr}{xs ys zs:`R}
theorem Inv.Bi {its':Rp}{f:Array Value->Array Value}(I:`j)(hH:H l∣.lst xs)(e:s.heap.get? l=some {cls:=.type "list",data:=.seq XF.toArray n})(hf:f XF.toArray=its'.toArray)(hv:Vals ys its')(hz:ys.length<=UZ):
 Inv X XD σ (upd H l (.lst ys)) {s with heap:=s.heap.update l (WR f),toks:=t'}:=by
 let q:=PySem.IsL.update e f;rw[hf] at q;refine I.write (x:=l) (e:=l) (by rw[hH];exact trivial) (.inl rfl) (λb' u hb hu=>(Heap.get?_update_other s.heap (WR f) (UJ hb)).trans hu) ⟨_,q⟩ ?_;exact⟨hz,its',_,hv,q⟩
theorem Inv.QR (I:`j)(hv:Vals ys XF)(hz:ys.length<=UZ):
 Inv X XD σ (upd H ⇑s (.lst ys)) {s with heap:=s.heap.push {cls:=.type "list",data:=.seq XF.toArray},toks:=t'}:=
 I.laid (λ_ _ q=>WC _ q) (Uk _) ⟨hz,XF,0,hv,WG _ rfl⟩
theorem Inv.fresh (I:`j):H ⇑s=none:=I.XJ.fresh (Uk _)
theorem Inv.nY (I:`j)(hH:H l∣.lst xs):xs.length<=UZ/\∃(XF:Rp)(n:Nat),Vals xs XF/\xs.length=XF.length/\s.heap.get? l=some {cls:=.type "list",data:=.seq XF.toArray n}:=by
 let⟨z,XF,n,r,e⟩:=I.XJ l _ hH;exact⟨z,XF,n,r,r.length,e⟩
theorem D9 (h:n<=UZ):Wg n=false:=by
 unfold Wg;exact Xz `a
end
def HX:V->List V->Hp->VK->Prop:=λx vs H Q=>∃l xs y,x= .ref l/\vs=[y]/\H l∣.lst xs/\xs.length<UZ/\Q .XT (upd H l (.lst (xs++[y])))
theorem gQ:He X "list.append" HX:=by
 intro XD s σ H x vs v us Q I rx rv h;let⟨l,xs,y,rfl,rfl,hH,hz,q⟩:=h;cases rx
 let⟨u,rfl,ru⟩:=rv.one;let⟨z,XF,n,r,hl,e⟩:=I.nY hH;refine Vy F.slot_list_append ⟨_,e,rfl⟩ F.entry_list_append (F.args_list_append_2 _ _) (PySem.list_append l XF.toArray n u (by rw[Si];cbv)) ⟨e,?_⟩;refine⟨.XT,_,I.Bi (its':=XF++[u]) hH e `d (r.append (.cons ru .nil)) ?_,rfl,q⟩;rw[RY,Sz];cbv
def HV:V->List V->Hp->VK->Prop:=λx vs H Q=>∃l b xs zs,x= .ref l/\vs=[.ref b]/\H l∣.lst xs/\H b∣.lst zs/\xs.length+zs.length<=UZ/\Q .XT (upd H l (.lst (xs++zs)))
theorem BC:He X "list.extend" HV:=by
 intro XD s σ H x vs v us Q I rx rv h;let⟨l,b,xs,zs,rfl,rfl,hH,hB,hz,q⟩:=h;cases rx
 let⟨u,rfl,ru⟩:=rv.one;cases ru
 let⟨z,XF,n,r,hl,e⟩:=I.nY hH;let⟨z2,Zk,n2,r2,hl2,e2⟩:=I.nY hB;let hsz:XF.toArray.size+Zk.toArray.size<=UZ:=by rw[Si,Si];cbv
 let hlong:¬(!XF.toArray.isEmpty&&Wg (XF.toArray.size+Zk.toArray.size))=true:=by
  rw[D9 hsz,Bool.and_false];exact Rv
 refine Vy F.slot_list_extend ⟨_,e,rfl⟩ F.entry_list_extend (F.args_list_extend_2 _ _)
  (AutoSeq1.list_extend_list_list_0 l XF.toArray n b Zk.toArray n2 hlong (by rw[Si];cbv) `a) ⟨e,e2,?_⟩
 refine⟨.XT,_,I.Bi (its':=XF++Zk) hH e `d (r.append r2) ?_,rfl,q⟩;rw[RY];cbv
def Q0:V->List V->Hp->VK->Prop:=λx vs H Q=>∃l xs y,x= .ref l/\vs=[]/\H l∣.lst xs/\xs[xs.length-1]?∣y/\Q y (upd H l (.lst xs.dropLast))
theorem DS:He X "list.pop" Q0:=by
 intro XD s σ H x vs v us Q I rx rv h;let⟨l,xs,y,rfl,rfl,hH,hy,q⟩:=h;cases rx
 let hus:=rv.zero;subst hus;let⟨z,XF,n,r,hl,e⟩:=I.nY hH;let⟨u,hu,ru⟩:=r.get hy;let hy':XF.toArray[XF.toArray.size-1]?∣u:=by
  show XF.toArray[XF.length-1]?∣u;rw[← Array.getElem?_toList,← hl];exact hu
 refine Vy F.slot_list_pop ⟨_,e,rfl⟩ F.entry_list_pop (F.args_list_pop_1 _) (MeetsSeq.list_pop_last l XF.toArray n u hy' (by rw[Si];cbv)) ⟨e,?_⟩;refine⟨y,_,I.Bi (its':=XF.dropLast) hH e ?_ r.dropLast ?_,ru,q⟩
 ·show XF.toArray.eraseIdxIfInBounds (XF.toArray.size-1)=XF.dropLast.toArray;rw[Si,List.eraseIdxIfInBounds_toArray,Be]
 ·rw[Tw];cbv
def QH:R2:=λx y H Q=>∃l b xs zs,x= .ref l/\y= .ref b/\H l∣.lst xs/\H b∣.lst zs/\xs.length+zs.length<=UZ/\∀p,H p=none->Q (.ref p) (upd H p (.lst (xs++zs)))
theorem JK:fk X (Vu .Add) QH:=by
 intro XD s σ H x y v u Q I rx ry h;let⟨l,b,xs,zs,rfl,rfl,hH,hB,hz,q⟩:=h;cases rx
 cases ry
 let⟨z,XF,n,r,hl,e⟩:=I.nY hH;let⟨z2,Zk,n2,r2,hl2,e2⟩:=I.nY hB;refine PySem.P.add_list e e2 ?_ (by rw[Si,Si];cbv);let ea:XF.toArray++Zk.toArray=(XF++Zk).toArray:=`d
 rw[ea];exact⟨.ref _,_,I.QR (t':=s.toks) (r.append r2) (by rw[RY];cbv),rfl,q _ I.fresh⟩
variable {prog:U4}{w:World}{E:`s}
variable {o:Option V}
section
variable {κ:Type} [DecidableEq κ]
variable {kvs:List (κ×V)}{vs:List (κ×Value)}
noncomputable def du (kvs:List (κ×V))(k:κ):Option V:=(kvs.find? λkv=>decide (kv.1=k)).map (·.2)
noncomputable def putK (kvs:List (κ×V))(k:κ)(v:V):List (κ×V):=
 if(kvs.any λkv=>decide (kv.1=k))=true then kvs.map (λkv=>if kv.1=k then(kv.1,v) else kv) else kvs++[(k,v)]
theorem d8 {p:κ×V}{r:List (κ×V)}{k:κ}(e:p.1=k):du (p::r) k∣p.2:=by simp[du,Tq,e]
theorem dM {p:κ×V}{r:List (κ×V)}{k:κ}(e:¬p.1=k):du (p::r) k=du r k:=by simp[du,Tq,e]
theorem iD (k:κ):∀kvs:List (κ×V),(kvs.any λkv=>decide (kv.1=k))=(du kvs k).isSome
 | []=>rfl
 | p::r=>by
   rw[T9];by_cases e:p.1=k
   ·simp only[d8 e,Xy e,Bool.true_or,Option.isSome_some]
   ·rw[dM e,Xz e,Bool.false_or];exact iD k r
theorem xA (k j:κ)(y:V):∀kvs:List (κ×V),du (kvs.map λkv=>if kv.1=k then(kv.1,y) else kv) j=(du kvs j).map λx=>if j=k then y else x
 | []=>rfl
 | p::r=>by
   let ih:=xA k j y r;rw[Sx];by_cases h:p.1=k
   ·rw[Xv h];by_cases e:p.1=j
    ·rw[d8 (p:=(p.1,y)) e,d8 e,UM,Xv (e.symm.trans h)]
    ·rw[dM (p:=(p.1,y)) e,dM e,ih]
   ·rw[Xu h];by_cases e:p.1=j
    ·rw[d8 (p:=p) e,d8 e,UM,Xu (λz=>h (e.trans z))]
    ·rw[dM (p:=p) e,dM e,ih]
theorem uQ (k j:κ)(y:V):∀kvs:List (κ×V),du kvs k=none->du (kvs++[(k,y)]) j=if j=k then some y else du kvs j
 | [],_=>by
   by_cases e:k=j
   ·rw[Xv e.symm];exact d8 (p:=(k,y)) e
   ·rw[Xu (λz=>e z.symm)];exact dM (p:=(k,y)) e
 | p::r,hn=>by
   rw[Te];let hk:¬p.1=k:=λz=>by rw[d8 z] at hn;cases hn
   rw[dM hk] at hn;let ih:=uQ k j y r hn;by_cases e:p.1=j
   ·rw[d8 e,d8 e,Xu (λz=>hk (e.trans z))]
   ·rw[dM e,dM e,ih]
theorem Em (kvs:List (κ×V))(k j:κ)(y:V):du (putK kvs k y) j=if j=k then some y else du kvs j:=by
 unfold putK;by_cases a:(kvs.any λkv=>decide (kv.1=k))=true
 ·rw[Xv a,xA];rw[iD] at a;by_cases e:j=k
  ·let⟨x,hx⟩:=Option.isSome_iff_exists.mp a;rw[Xv e,e,hx,UM,Xv rfl]
  ·rw[Xu e];cases du kvs j with
   | none=>rfl
   | some x=>rw[UM,Xu e]
 ·rw[Xu a];refine uQ k j y kvs ?_;rw[iD] at a;cases q:du kvs k with
  | none=>rfl
  | some x=>rw[q] at a;exact(a rfl).elim
theorem mw (kvs:List (κ×V))(k:κ)(v:V):(putK kvs k v).length<=kvs.length+1:=by
 unfold putK;split
 ·rw[RS];cbv
 ·rw[RY,Sb,Sv];cbv
theorem rj {k:κ}(v:V)(h:du kvs k=none):putK kvs k v=kvs++[(k,v)]:=by
 unfold putK;rw[iD,h];exact Xu `c
theorem jD.jX {u:Rn}(r:jD o u):o.isSome=u.isSome:=by
 cases o with
 | none=>cases u with
   | none=>rfl
   | some _=>exact(show False from r).elim
 | some _=>cases u with
   | none=>exact(show False from r).elim
   | some _=>rfl
theorem KV.val (r:KV kvs vs)(k:κ):jD (du kvs k) (Vm vs k):=by
 unfold KV at r
 induction r with
 | nil=>exact Xs
 | @cons p q ps qs h t ih=>
   let⟨h1,h2⟩:=h;by_cases e:p.1=k
   ·let e':q.1=k:=h1.symm.trans e;let b:Vm (q::qs) k∣q.2:=by simp[Vm,Tq,e']
    rw[d8 e,b];exact h2
   ·let e':¬q.1=k:=λz=>e (h1.trans z);let b:Vm (q::qs) k=Vm qs k:=by simp[Vm,Tq,e']
    rw[dM e,b];exact ih
theorem KV.any (r:KV kvs vs)(k:κ):(kvs.any λkv=>decide (kv.1=k))=vs.any λkv=>decide (kv.1=k):=by
 unfold KV at r
 induction r with
 | nil=>rfl
 | cons h t ih=>rw[T9,T9,ih,h.1]
theorem KV.ZH (r:KV kvs vs)(k:κ)(ry:RelV y u):
 KV (kvs.map λkv=>if kv.1=k then(kv.1,y) else kv) (vs.map λkv=>if kv.1=k then(kv.1,u) else kv):=by
 unfold KV at r ⊢
 induction r with
 | nil=>exact .nil
 | @cons p q ps qs h t ih=>
   rw[Sx,Sx];refine .cons ?_ ih;let⟨h1,h2⟩:=h;by_cases e:p.1=k
   ·rw[Xv e,Xv (h1.symm.trans e)];exact⟨h1,ry⟩
   ·rw[Xu e,Xu (λz=>e (h1.trans z))];exact⟨h1,h2⟩
theorem KV.put (r:KV kvs vs)(k:κ)(ry:RelV y u):KV (putK kvs k y) (V7 vs k u):=by
 unfold putK V7;rw[r.any k];by_cases e:(vs.any λkv=>decide (kv.1=k))=true
 ·rw[Xv e,Xv e];exact r.ZH k ry
 ·rw[Xu e,Xu e];exact Paired.snoc r ⟨rfl,ry⟩
theorem KV.length (r:KV kvs vs):kvs.length=vs.length:=Paired.length r
end
variable {P:U4}{H':Hp}
section
variable {kvs:List (List Key×V)}{xs:List (List Key×Addr×Value)}
theorem ku {k:Key}(r:RelV (kV k) u):(cE P w).is k u=true:=by
 cases k with
 | inl i=>let⟨t,e⟩:=(show∃t,u=W2 i t from r);subst e;exact yx P w i t
 | inr x=>let⟨t,e⟩:=(show∃t,u=W3 x t from r);subst e;exact eC P w x t
theorem uM {P:U4}{w:World}:∀{ks:List Key}{us:Rp},Vals (ks.map kV) us->ItemsAre (cE P w) ks us
 | [],_,r=>by rw[TU] at r;cases r;exact .nil
 | k::ks,_,r=>by
   rw[Sx] at r;cases r with
   | cons h t=>exact .cons (ku h) (uM t)
abbrev KT (H:Hp):List (List Key×V)->List (List Key×Addr×Value)->Prop:=Paired λp q=>p.1=q.1/\H q.2.1∣(.tup (p.1.map kV))/\RelV p.2 q.2.2
theorem KT.val (r:KT H kvs xs)(k:List Key):jD (du kvs k) ((atKey xs k).map (·.2)):=by
 induction r with
 | nil=>exact Xs
 | @cons p q ps qs h t ih=>
   let⟨h1,_,h2⟩:=h;by_cases e:p.1=k
   ·let e':q.1=k:=h1.symm.trans e;let b:atKey (q::qs) k∣q.2:=by simp[atKey,Tq,e']
    rw[d8 e,b];exact h2
   ·let e':¬q.1=k:=λz=>e (h1.trans z);let b:atKey (q::qs) k=atKey qs k:=by simp[atKey,Tq,e']
    rw[dM e,b];exact ih
theorem KT.ZH (r:KT H kvs xs)(k:List Key)(ry:RelV y u):
 KT H (kvs.map λkv=>if kv.1=k then(kv.1,y) else kv) (xs.map (putAt k u)):=by
 induction r with
 | nil=>exact .nil
 | @cons p q ps qs h t ih=>
   rw[Sx,Sx];refine .cons ?_ ih;let⟨h1,h2,h3⟩:=h;unfold putAt;by_cases e:p.1=k
   ·rw[Xv e,Xv (h1.symm.trans e)];exact⟨h1,h2,ry⟩
   ·rw[Xu e,Xu (λz=>e (h1.trans z))];exact⟨h1,h2,h3⟩
theorem KT.put (r:KT H kvs xs)(k:List Key){b:Addr}(hb:H b∣(.tup (k.map kV)))(ry:RelV y u):
 KT H (putK kvs k y) (storedH xs k b u):=by
 let e:(kvs.any λkv=>decide (kv.1=k))=(atKey xs k).isSome:=by
  rw[iD,(r.val k).jX,UN]
 unfold putK storedH;rw[e];by_cases q:(atKey xs k).isSome=true
 ·rw[Xv q,Xv q];exact r.ZH k ry
 ·rw[Xu q,Xu q];exact Paired.snoc r ⟨rfl,hb,ry⟩
theorem KT.keeps (r:KT H kvs xs)(ht:∀b ys,H b∣.tup ys->H' b∣.tup ys):KT H' kvs xs:=
 Paired.Fw r λ_ _ z=>⟨z.1,ht _ _ z.2.1,z.2.2⟩
end
variable {kvs:List (Key×V)}{a:Addr}
section
variable {h:Heap}
theorem GX {u:HO}(ok:fc P w H h)(e:Rd H a u):c9 P w H h a u:=e.ok ok
theorem pE (ok:fc P w H h)(e:Rd H a (.dK kvs)):kvs.length<=UZ/\(a==Vh)=false/\∃vs,KV kvs vs/\h.DictOf (cE P w) a vs:=
 show c9 P w H h a (.dK kvs) from GX ok e
theorem Av (ok:fc P w H h)(e:H a∣.dK kvs):kvs.length<=UZ/\(a==Vh)=false/\∃vs,KV kvs vs/\h.DictOf (cE P w) a vs:=pE ok (.inl e)
theorem o9 {ks:List Key}(ok:fc P w H h)(e:H a∣(.tup (ks.map kV))):(V0 (cE P w)).is h ks a:=by
 let⟨_,XF,r,o,h1,h2,n,h3⟩:=(show c9 P w H h a (.tup (ks.map kV)) from ok a _ e);exact⟨o,XF.toArray,n,h1,h2,h3,by simpa using uM r⟩
theorem sG {kvs:List (List Key×V)}(ok:fc P w H h)(e:Rd H a (.dT kvs)):kvs.length<=UZ/\(a==Vh)=false/\
 ∃xs,KT H kvs xs/\h.DictOfH (V0 (cE P w)) a xs:=by
 let⟨z,y,xs,r,o,es,ep,h1,h2,h3,h4,h5⟩:=(show c9 P w H h a (.dT kvs) from GX ok e);refine⟨z,y,xs,r,o,es,ep,h1,h2,h3,h4,λx hx=>?_,h5⟩;let all:∀{l:List (List Key×V)}{m:List (List Key×Addr×Value)},KT H l m->∀x∈m,(V0 (cE P w)).is h x.1 x.2.1:=by
  intro l m q
  induction q with
  | nil=>intro x hx;exact nomatch hx
  | @cons p q ps qs hq t ih=>
    intro x hx;obtain e | hx:=R9.mp hx
    ·subst e;exact o9 ok (by rw[← hq.1];exact hq.2.1)
    ·exact ih x hx
 exact all r x hx
theorem NT {kvs:List (List Key×V)}(ok:fc P w H h)(e:H a∣.dT kvs):kvs.length<=UZ/\(a==Vh)=false/\
 ∃xs,KT H kvs xs/\h.DictOfH (V0 (cE P w)) a xs:=sG ok (.inl e)
end
noncomputable def iG (H:Hp)(a:Addr)(y:V)(r:Option V):Prop:=
 (∃kvs k,Rd H a (.dK kvs)/\y=kV k/\r=du kvs k)∨∃kvs k b,Rd H a (.dT kvs)/\y= .ref b/\H b∣(.tup (k.map kV))/\r=du kvs k
noncomputable def rB (H:Hp)(a:Addr)(y v:V)(H':Hp):Prop:=
 (∃kvs k,H a∣.dK kvs/\y=kV k/\kvs.length<UZ/\H'=upd H a (.dK (putK kvs k v)))∨
 ∃kvs k b,H a∣.dT kvs/\y= .ref b/\H b∣(.tup (k.map kV))/\kvs.length<UZ/\H'=upd H a (.dT (putK kvs k v))
theorem iG.k {H:Hp}{a:Addr}{kvs:List (Key×V)}{k:Key}(e:H a∣.dK kvs):iG H a (kV k) (du kvs k):=.inl ⟨kvs,k,.inl e,rfl,rfl⟩
theorem rB.k {H:Hp}{a:Addr}{kvs:List (Key×V)}{k:Key}{v:V}(e:H a∣.dK kvs)(hl:kvs.length<UZ):rB H a (kV k) v (upd H a (.dK (putK kvs k v))):=.inl ⟨kvs,k,e,rfl,hl,rfl⟩
variable {Q:`s}{h':Heap}
section
variable {v:V}{r:`aM}
theorem Inv.big (I:`j):Vh<⇑s:=by
 let h:U2<⇑s:=(I.mod.glob.keeps I.bk).lt;exact Nat.lt_trans `c h
theorem DZ (hu:A.units+1<cLine)(I:`j)(g:iG H a y (some v))(ry:RelV y u)(h:∀w' s',Inv X XD σ H s'->RelV v w'->Q w' s'):
 wpAny `f A (VD (.ref a) u) Q E s:=by
 obtain⟨kvs,k,e,ey,l⟩ | ⟨kvs,k,b,e,ey,eb,l⟩:=g
 ·subst ey;let⟨z,hd,vs,rel,dd⟩:=pE I.XJ e;let⟨w',hw,Z9⟩:=jD.some_of (v:=v) (o:=Vm vs k) (by rw[l];exact rel.val k);exact wpAny_getItem_of (ku ry) dd.mapOf hw (h w' _ (I.tok _) Z9)
 ·subst ey;cases (show u=WZ b from ry)
  let⟨z,hd,xs,rel,dd⟩:=sG I.XJ e;let⟨w',hw,Z9⟩:=jD.some_of (v:=v) (o:=(atKey xs k).map (·.2)) (by rw[l];exact rel.val k);let⟨p,hp,hp2⟩:=UK.mp hw;refine wpAny_getItem_heap (VC hu) (o9 I.XJ eb) dd hp ?_;rw[hp2];exact h w' _ (I.tok _) Z9
theorem QG (hu:A.units+1<cLine)(I:`j)(g:iG H a y o)(ry:RelV y u)(h:∀s',Inv X XD σ H s'->Q (.bool o.isSome) s'):
 wpAny `f A (Vb .In u (.ref a)) Q E s:=by
 obtain⟨kvs,k,e,ey,l⟩ | ⟨kvs,k,b,e,ey,eb,l⟩:=g
 ·subst ey;let⟨z,hd,vs,rel,dd⟩:=pE I.XJ e;refine wpAny_in_of (ku ry) hd dd.mapOf ?_;rw[← (rel.val k).jX,← l];exact h _ (I.tok _)
 ·subst ey;cases (show u=WZ b from ry)
  let⟨z,hd,xs,rel,dd⟩:=sG I.XJ e;refine wpAny_in_heap (VC hu) (o9 I.XJ eb) hd dd ?_;let q:=(rel.val k).jX;rw[UN] at q;rw[← q,← l];exact h _ (I.tok _)
theorem Hr (hu:A.units+1<cLine)(I:`j)(g:iG H a y o)(ry:RelV y u)(h:∀s',Inv X XD σ H s'->Q (.bool (!o.isSome)) s'):
 wpAny `f A (Vb .NotIn u (.ref a)) Q E s:=by
 obtain⟨kvs,k,e,ey,l⟩ | ⟨kvs,k,b,e,ey,eb,l⟩:=g
 ·subst ey;let⟨z,hd,vs,rel,dd⟩:=pE I.XJ e;refine wpAny_notIn_of (ku ry) hd dd.mapOf ?_;rw[← (rel.val k).jX,← l];exact h _ (I.tok _)
 ·subst ey;cases (show u=WZ b from ry)
  let⟨z,hd,xs,rel,dd⟩:=sG I.XJ e;refine wpAny_notIn_heap (VC hu) (o9 I.XJ eb) hd dd ?_;let q:=(rel.val k).jX;rw[UN] at q;rw[← q,← l];exact h _ (I.tok _)
theorem pT {ob:HO}(I:`j)(mu:DG (H a))(hs:WI a s.heap h')(he:∃q,h'.get? a∣q)(new:c9 X.prog X.w (upd H a ob) h' a ob):
 Inv X XD σ (upd H a ob) {s with heap:=h',toks:=t'}:=
 I.write (x:=a) (e:=a) mu (.inl rfl) (λb q hb z=>(hs.2 b hb).trans z) he new
theorem wW {vs:List (Key×Value)}(z:kvs.length<=UZ)(hd:(a==Vh)=false)(rel:KV kvs vs)(dd:h'.DictOf (cE P w) a vs):
 c9 P w H' h' a (.dK kvs):=⟨z,hd,vs,rel,dd⟩
theorem Dw {Q:Unit->U0->Prop}(hu:A.units+1<cLine)(I:`j)(g:rB H a y v H')(ry:RelV y u)(rv:RelV v r)(h:∀s',Inv X XD σ H' s'->Q () s'):
 wpAny `f A (V4 (.ref a) u r) Q E s:=by
 obtain⟨kvs,k,e,ey,l,eH⟩ | ⟨kvs,k,b,e,ey,eb,l,eH⟩:=g
 ·subst ey eH;let⟨z,hd,vs,rel,dd⟩:=Av I.XJ e;let hz:vs.length<=UZ:=by rw[← rel.length];exact z
  let hl:(putK kvs k v).length<=UZ:=by have:=mw kvs k v;cbv
  refine wpAny_setItem_pairs (hsz:=hz) (ku ry) dd λh' Z5 hs=>h _ ?_;let he:∃q,h'.get? a∣q:=let ⟨q,_,_,hq,_⟩:=Z5;⟨q,hq⟩;exact pT I (by rw[e];exact Xs) hs he (wW hl hd (rel.put k rv) Z5)
 ·subst ey eH;cases (show u=WZ b from ry)
  let⟨z,hd,xs,rel,dd⟩:=NT I.XJ e;let hz:xs.length<=UZ:=by rw[← Paired.length rel];exact z
  let hl:(putK kvs k v).length<=UZ:=by have:=mw kvs k v;cbv
  refine wpAny_setItem_heap (hsz:=hz) (VC hu) (o9 I.XJ eb) dd λh' Z5 hs=>h _ ?_;let⟨q,es,ep,hq,h2,h3,h4,_,h5⟩:=Z5;refine pT I (by rw[e];exact Xs) hs ⟨q,hq⟩ ⟨hl,hd,_,(rel.put k eb rv).keeps λc ys ec=>?_,q,es,ep,hq,h2,h3,h4,h5⟩;rw[aG (Oo ec e (λz=>nomatch z))];exact ec
end
section
variable {k:Key}
theorem MT (I:`j)(e:Rd H a (.dK kvs))(h:∀t s',Inv X XD σ H s'->Q (.int kvs.length t) s'):wpAny `f A (call (.builtin "len") [.ref a]) Q E s:=by
 let⟨z,hd,vs,rel,dd⟩:=pE I.XJ e;refine call_len_dict hd dd (by rw[← rel.length];rw[VP] at z;cbv) ?_;rw[← rel.length];exact h _ _ (I.tok _)
end
def Er (i:Expr):Prop:=∀ov iv,V3 i false ov iv=operate [ov,iv] (VD ov iv)
theorem Jl {env:Env}{value slice:Expr}{id:String}(hl:typeLookup (.type T) "__getitem__"=pure (some (.builtin id)))(hs:Er slice)(h:wpAny `t A (eval value env) (λo s₁=>wpAny `t A (eval slice env) (λi s₂=>s₂.TypeIs o T/\wpAny `t A (VD o i) Q E s₂) E s₁) E s):
 wpAny `t A (eval (.Subscript value slice pos) env) Q E s:=by
 refine Subscript_ (Ve h (λo s₁ h₁=>Ve h₁ (λi s₂ h₂=>?_) λ_ _ x=>x) λ_ _ x=>x);let⟨hT,h₂⟩:=h₂;unfold UY;refine U1 ?_;rw[getitemInPython_of_ne hT.not_modules];refine U1 (wpAny_specialOf hT hl ?_);let fin:wpAny `t A (V3 slice false o i) (λr s₃=>wpAny `t A (letTemporaryGo value o r >>=λ_=>pure r) Q E s₃) E s₂:=by
  rw[hs o i];exact wpAny_operating (Ve h₂ (λr s₃ h₃=>U1 (wpAny_letTemporaryGo (U3 h₃))) λ_ _ x=>x)
 first
  | exact U3 (U1 fin)
  | exact U1 (U3 (U1 fin))
  | exact U1 fin
theorem yy (I:`j)(g:iG H a y o):s.TypeIs (.ref a) "dict":=by
 obtain⟨kvs,k,e,_,_⟩ | ⟨kvs,k,b,e,_,_,_⟩:=g
 ·let⟨_,_,vs,_,dd⟩:=pE I.XJ e;exact dd.typeIs
 ·let⟨_,_,xs,_,dd⟩:=sG I.XJ e;exact dd.typeIs
def NV (td ty:TE):TE:=λσ H Q=>td σ H λx H1=>ty σ H1 λy H2=>∃a v,x= .ref a/\iG H2 a y (some v)/\Q v H2
def Q2 (ty td:TE):TE:=λσ H Q=>ty σ H λy H1=>td σ H1 λx H2=>∃a o,x= .ref a/\iG H2 a y o/\Q (.bl o.isSome) H2
def Ht (ty td:TE):TE:=λσ H Q=>ty σ H λy H1=>td σ H1 λx H2=>∃a o,x= .ref a/\iG H2 a y o/\Q (.bl (!o.isSome)) H2
def Ny (td ty tv:TE):TS:=λD σ H=>tv σ H λv H1=>td σ H1 λx H2=>ty σ H2 λy H3=>∃a H4,x= .ref a/\rB H3 a y v H4/\D.nx σ H4
section
variable {o i value:Expr}{pos' tpos:Pos}{td ty tv:TE}
theorem Hw (hu:X.A.units+1<cLine)(ho:PE X o td)(hi:PE X i ty)(hs:Er i):PE X (.Subscript o i pos) (NV td ty):=by
 intro XD s σ H Q I h;refine Jl PySem.F.slot_dict_getitem.lookup hs (a8 (ho XD s σ H _ I h) λu s1 ⟨x,H1,I1,rx,q1⟩=>a8 (hi XD s1 σ H1 _ I1 q1) λiv s2 ⟨y,H2,I2,ry,a,v,ex,g,q2⟩=>?_);subst ex;obtain rfl:u=WZ a:=rx;exact⟨yy I2 g,DZ hu I2 g ry λw' s3 I3 Z9=>⟨v,H2,I3,Z9,q2⟩⟩
theorem Kr (hu:X.A.units+1<cLine)(hi:PE X i ty)(ho:PE X o td):PC X .In i o (Q2 ty td):=by
 intro XD s σ H Q I h;refine a8 (hi XD s σ H _ I h) λiv s1 ⟨y,H1,I1,ry,q1⟩=>a8 (ho XD s1 σ H1 _ I1 q1) λu s2 ⟨x,H2,I2,rx,a,ov,ex,g,q2⟩=>?_;subst ex;obtain rfl:u=WZ a:=rx;exact QG hu I2 g ry λs3 I3=>⟨.bl ov.isSome,H2,I3,rfl,q2⟩
theorem l7 (hu:X.A.units+1<cLine)(hi:PE X i ty)(ho:PE X o td):PC X .NotIn i o (Ht ty td):=by
 intro XD s σ H Q I h;refine a8 (hi XD s σ H _ I h) λiv s1 ⟨y,H1,I1,ry,q1⟩=>a8 (ho XD s1 σ H1 _ I1 q1) λu s2 ⟨x,H2,I2,rx,a,ov,ex,g,q2⟩=>?_;subst ex;obtain rfl:u=WZ a:=rx;exact Hr hu I2 g ry λs3 I3=>⟨.bl (!ov.isSome),H2,I3,rfl,q2⟩
theorem uE (hu:X.A.units+1<cLine)(ho:PE X o td)(hi:PE X i ty)(hv:PE X value tv)(hs:U7 value (some (.Subscript o i pos')) pos.line X.env=pure false):
 PS X (.Assign [.Subscript o i pos'] value pos) (Ny td ty tv):=by
 intro XD s σ H D I h;refine wpAny_Assign_Subscript (a8 (hv XD s σ H _ I h) λr s1 ⟨v,H1,I1,rv,q1⟩=>a8 (ho XD s1 σ H1 _ I1 q1) λu s2 ⟨x,H2,I2,rx,q2⟩=>a8 (hi XD s2 σ H2 _ I2 q2) λiv s3 ⟨y,H3,I3,ry,a,H4,ex,g,q3⟩=>?_) hs;subst ex;obtain rfl:u=WZ a:=rx;exact Dw hu I3 g ry rv λs4 I4=>⟨σ,H4,I4,q3⟩
end
theorem xR (h:Heap)(hb:Vh<h.objs.size):c9 P w H (h.push {cls:=.type "dict",data:=.dict #[]}) h.objs.size (.dK []):=
 ⟨Ul _,beq_eq_false_iff_ne.mpr (UJ (Ur hb)),[],.nil,Heap.DictOf.new h⟩
def Li:TE:=λ_ H Q=>∀p,H p=none->Q (.ref p) (upd H p (.dK []))
theorem EM:PE X (.Dict [] [] pos) Li:=λXD s σ H Q I h=>
 wpAny_Dict_empty ⟨.ref ⇑s,_,I.laid (a:=⇑s) (o:=.dK []) (t':=s.toks) (λ_ _ q=>WC _ q) (Uk _) (xR s.heap I.big),rfl,h _ (I.XJ.fresh (Uk _))⟩
variable {Z7:List (TE×TE)}
noncomputable def xX:List (TE×TE)->St->Hp->(List (V×V)->Hp->Prop)->Prop
 | [],_,H,Q=>Q [] H
 | (tk,tv)::r,σ,H,Q=>tk σ H λx H1=>tv σ H1 λy H2=>xX r σ H2 λps H3=>Q ((x,y)::ps) H3
abbrev VV:List (V×V)->List (Value×Value)->Prop:=Paired λp q=>RelV p.1 q.1/\RelV p.2 q.2
def Gb (X:Cx)(pos:Pos)(keys:List (Option Expr))(values:Rr)(Z7:List (TE×TE)):Prop:=
 ∀(XD:Rk)(s:U0)(σ:St)(H:Hp)(Q:List (V×V)->Hp->Prop),Inv X XD σ H s->xX Z7 σ H Q->
  wpAny `f X.A (evalPairs (pairTrees keys values X.env pos)) (λvs s'=>∃ps H',Inv X XD σ H' s'/\VV ps vs/\Q ps H') X.xe s
theorem Hq:Gb X pos [] [] []:=λXD s σ H Q I h=>pairTrees_nil_walk ⟨[],H,I,.nil,h⟩
theorem xg {k v:Expr}{ks:List (Option Expr)}{vs:Rr}{tk tv:TE}(hk:PE X k tk)(hv:PE X v tv)(hr:Gb X pos ks vs Z7):
 Gb X pos (some k::ks) (v::vs) ((tk,tv)::Z7):=λXD s σ H Q I h=>
 pairTrees_cons_walk (a8 (hk XD s σ H _ I h) λu s1 ⟨x,H1,I1,rx,q1⟩=>a8 (hv XD s1 σ H1 _ I1 q1) λw2 s2 ⟨y,H2,I2,ry,q2⟩=>
  a8 (hr XD s2 σ H2 _ I2 q2) λws s3 ⟨ps,H3,I3,rel,q3⟩=>⟨(x,y)::ps,H3,I3,.cons ⟨rx,ry⟩ rel,q3⟩)
noncomputable def mX (kvs more:List (Key×V)):List (Key×V):=more.foldl (λacc kv=>putK acc kv.1 kv.2) kvs
theorem KV.merge:∀{more:List (Key×V)}{rs:List (Key×Value)}{kvs:List (Key×V)}{vs:List (Key×Value)},KV more rs->KV kvs vs->KV (mX kvs more) (merged vs rs):=by
 intro more rs kvs vs r;unfold KV at r
 induction r generalizing kvs vs with
 | nil=>intro q;exact q
 | @cons p q ps qs h t ih=>
   intro r0;let e:KV (putK kvs p.1 p.2) (V7 vs q.1 q.2):=by
    have:=r0.put p.1 h.2;rw[← h.1];exact this
   exact ih e
theorem oa:∀(more kvs:List (Key×V)),(mX kvs more).length<=kvs.length+more.length
 | [],kvs=>by show kvs.length<=kvs.length+0;cbv
 | p::r,kvs=>by
   let h1:=oa r (putK kvs p.1 p.2);let h2:=mw kvs p.1 p.2;show(mX (putK kvs p.1 p.2) r).length<=_;rw[Sb];cbv
theorem sg {P:U4}{w:World}:∀{kvs:List (Key×V)}{ws:List (Value×Value)},VV (kvs.map λkv=>(kV kv.1,kv.2)) ws->∃rs,Carries (cE P w) ws rs/\KV kvs rs
 | [],_,r=>by rw[TU] at r;cases r;exact⟨[],Xs,.nil⟩
 | p::kvs,_,r=>by
   rw[Sx] at r;cases r with
   | @cons a b as bs h t=>
     let⟨rs,c,q⟩:=sg (P:=P) (w:=w) t;let⟨b1,b2⟩:=b;exact⟨(p.1,b2)::rs,⟨ku h.1,rfl,c⟩,.cons ⟨rfl,h.2⟩ q⟩
noncomputable def M0 (Z7:List (TE×TE)):TE:=λσ H Q=>∀p,H p=none->xX Z7 σ (upd H p (.dK [])) λps H2=>H2 p∣(.dK [])/\∃kvs:List (Key×V),ps=kvs.map (λkv=>(kV kv.1,kv.2))/\kvs.length<=15/\Q (.ref p) (upd H2 p (.dK (mX [] kvs)))
theorem HU {keys:List (Option Expr)}{values:Rr}(h:Gb X pos keys values Z7)(ZS:keys.all (·.isSome)=true)(hl:keys.length=values.length)(h0:keys≠[])(h15:keys.length<=15):PE X (.Dict keys values pos) (M0 Z7):=by
 intro XD s σ H Q I q;let hn:=I.XJ.fresh (Uk ⇑s);let I1:=I.laid (a:=⇑s) (o:=.dK []) (h':=s.heap.push {cls:=.type "dict",data:=.dict #[]}) (t':=s.toks) (λ_ _ q=>WC _ q) (Uk _) (xR s.heap I.big);refine wpAny_Dict_walk (knd:=cE X.prog X.w) ZS hl h0 h15 (a8 (h XD _ σ _ _ I1 (q _ hn)) λws s2 ⟨ps,H2,I2,rel,e,kvs,ep,lk,q2⟩=>?_);subst ep;let⟨rs,c,rk⟩:=sg (P:=X.prog) (w:=X.w) rel;let⟨z,hd,vs0,r0,dd⟩:=Av I2.XJ e;cases r0
 refine⟨rs,c,dd,λh' Z5 hs=>⟨.ref ⇑s,_,?_,rfl,q2⟩⟩;let hz:(mX [] kvs).length<=UZ:=by
  let h1:=oa kvs [];rw[Sv] at h1;rw[VP];cbv
 let he:∃q,h'.get? ⇑s∣q:=let ⟨q,_,_,hq,_⟩:=Z5;⟨q,hq⟩;exact pT I2 (by rw[e];exact Xs) hs he (wW hz hd (rk.merge .nil) Z5)
structure M2 (X:Cx)(o:Expr)(m:Str)(apos:Pos)(e f:Expr)(YC:Pos):Prop where
 base:Wc o m X.env (eval o X.env)=eval o X.env
 few:((VQ YC (U5 [e,f] X.env)).all (λx=> !x.1)&&(backToKw YC (keywordEach [] X.env)).all (λx=>x.1.isSome)
  &&decide (([e,f]:Rr).length+([]:List VW).length+(if([]:List VW).isEmpty then 0 else 1)<30))=true
 line:(apos.endLine==YC.line)=true
 trees:VQ YC (U5 [e,f] X.env)=[(false,eval e X.env),(false,eval f X.env)]
section
variable {d:V}{r:`aM}
end
section
variable {o f:Expr}{apos YC:Pos}{td ty tx:TE}
end
end L2
namespace Att
open PySem PySem.W PySem.Calls PyProof.Rows
variable {P:Params}{h:Heap}
theorem sI :∀(ns:Rl)(vs:Rp),WellAll P h vs (ns.map WData.int)->IntsAre vs ns:=by
 intro ns
 induction ns with
 | nil=>
   intro vs w;rw[TU] at w;cases w
   exact .nil
 | cons n ns ih=>
   intro vs w;rw[Sx] at w;cases w with
   | cons a b=>
     cases a
     exact .cons _ _ (ih _ b)
theorem Bs {l:OpenLaw}{n:Nat}(hn:l.most∣n){args:List WData}{vals:Rp}(hpre:l.row.toRowW.claim.pre args=true)(hwl:WellAll P h vals args):
 ∃a vs ns,vals=[WZ a]/\args=[WData.list (ns.map WData.int)]/\h.get? a=some {cls:=.type "list",data:=.seq vs.toArray}/\IntsAre vs ns/\ns.length<=n:=by
 let hsh:WShape.hasAll [] args [.list .int]=true:=(pre_splitW hpre).1;let hc:l.pre.holds [] {args:=args}=true:=(pre_splitW hpre).2;let⟨d,r,rfl,h1,h2⟩:=hasAllW_cons hsh;obtain rfl:=hasAllW_nil h2;let⟨xs,rfl,h3⟩:=hasW_list h1;let⟨ns,rfl⟩:=items_int h3;let hlen:ns.length<=n:=by
  unfold OpenLaw.pre at hc;let h4:(WTm.not (.lt (.lit (.int (n:Int))) (.len (.arg 0)))).holds [] {args:=[.list (ns.map .int)]}=true:=by
   let h4:=(holds_andW hc).1;rw[hn] at h4;exact h4
  let h5:=condW_of h4 (w_not (w_lt w_lit (w_len_list (w_arg rfl))));rw[RS] at h5;refine Nat.le_of_not_lt λq=>?_;let q':(n:Int)<((ns.length:Nat):Int):=`a
  first
   | (rw[Xy q'] at h5;exact Xt h5 `c)
   | (simp at h5;cbv)
 cases hwl with
 | cons w1 w2=>
   cases w2
   cases w1 with
   | list ho ZS=>exact⟨_,_,ns,rfl,rfl,ho,sI ns _ ZS,hlen⟩
theorem Cw (l:OpenLaw)(args:List WData):l.row.toRowW.claim.post args (.bool true) args=true:=
 postW_of (r:=l.row.toRowW) (X:=(true==true))
  (show WShape.has [] (.bool true) .bool=true by first | rfl | decide | simp[WShape.has,WShape.arms,WShape.armsAll])
  (show(WTm.eq .res (.lit (.bool true))).value [] {args:=args,res:=some (.bool true),after:=args}∣(.bool (true==true)) from w_eq_bool (w_res rfl) w_lit) rfl
section
variable {prog:U4}{w:World}{A:U6}{E:`s}{s:U0}{K:Frag}
end
end Att
namespace L2
open PySem PySem.Spec PyProof.Rows
theorem uK:∀{vs:Rp}{ns:Rl},IntsAre vs ns->Vals (ns.map V.int) vs
 | _,_,.nil=>.nil
 | _,_,.cons n t h=>.cons ⟨t,rfl⟩ (uK h)
def EX (H:Hp):Prop:=∀b,H b=none∨∃o xs,H b∣(.Yu o (.lst xs))
variable {P:U4}{w:World}{K:W7}{mg:Rj}{fd:U8}{sp:Sp}
theorem E6 {mb:Rj}{CX:oi}{k:Nat}{fa a:Addr}{x:Str}{s₁:U0}{vs:Rp}{ns:Rl}(KX:K.In s₁.heap)(hns:s₁.heap.Ns U2 mg)(hb:s₁.heap.Ns builtinsNs mb)(hbb:∀x:Str,x≠"__name__"->mb x=Vq x)(hlim:s₁.heap.NoLimit)(hg:s₁.gens= #[])(ha:s₁.heap.get? a=some {cls:=.type "list",data:=.seq vs.toArray})(hi:IntsAre vs ns)(hl:ns.length<=UZ)(hr:bG k VX)(F:∀base:Heap,K.In base->base.Ns U2 mg->fb P w K mg base CX k fa fd [x] sp)(hbind:∀(s:U0)(u:`aM),V6 s fd ⟨[u],[]⟩ [(x,u)])(Zx:∀H:Hp,EX H->bt K H a (ns.map V.int)->sp [.ref a] H (λv _=>v= .bl true) λ_ _ _=>False)(hCX:∀H e s',CX [] H s₁ (λ_ _ _=>False) e s'->False):
 VO (model P w) VX (.call (.ref fa) ⟨[.ref a],[]⟩) `aO s₁:=by
 let rv:=uK hi;let lenV:=hi.length
 let core:∀H:Hp,EX H->bt K H a (ns.map V.int)->fc P w H s₁.heap->(∀b,H b≠none->b=a)->(H a≠none->K.lookup a=none)->
  VO (model P w) VX (.call (.ref fa) ⟨[.ref a],[]⟩) `aO s₁:=by
  intro H hO hS XJ hA hK;let base_of:∀{b:Addr}{o:Obj},s₁.heap.get? b∣o->H b=none->(nE s₁.heap H).get? b∣o:=λe n=>FT e n;let noA:∀{b:Addr}{o:Obj}{es:Array DictEntry}{ep:Nat},s₁.heap.get? b∣o->o.data= .dict es ep->H b=none:=λ{b o es ep} e d=>by
   cases q:H b with
   | none=>rfl
   | some u=>
     let e':b=a:=hA b (by rw[q];simp);subst e';rw[ha] at e;cases e
     let d':Data.seq vs.toArray _=Data.dict es ep:=d;cases d'
  let nsK:∀{b:Addr}{m:Rj},s₁.heap.Ns b m->(nE s₁.heap H).Ns b m:=λ{b m} ⟨o,es,ep,e,d,r⟩=>⟨o,es,ep,base_of e (noA e d),d,r⟩;let hKb:K.In (nE s₁.heap H):=λb o e=>base_of (KX b o e) (by
   cases q:H b with
   | none=>rfl
   | some u=>
     let e':b=a:=hA b (by rw[q];simp);subst e';rw[hK (by rw[q];simp)] at e;cases e)
  let hM:Mod K mg (nE s₁.heap H):=⟨hKb,nsK hns,⟨mb,nsK hb,hbb⟩,let ⟨mc,h1,h2⟩:=hlim;⟨mc,nsK h1,h2⟩⟩;let e0:qV P w K mg (nE s₁.heap H) VX [] s₁ H:=⟨rfl,hM,λb o e=>Jk e,UI (C1 _ _),trivial,λb hb=>Xt (show b∈([]:Ro) from hb) `d,XJ,.of_eq hg⟩;refine VZ ((F _ hKb (nsK hns)).run VX [] s₁ H ⟨[.ref a],[]⟩ [.ref a] [.ref a] _ _ hr e0 (hbind s₁ (.ref a)) (.cons rfl .nil) (Zx H hO hS)) λr s' h=>?_;cases r with
  | error e=>exact(hCX H e s' h).elim
  | ok fl=>
    cases fl with
    | next=>exact RG h
    | brk=>exact RG h
    | cont=>exact RG h
    | ret u=>
      let⟨v,H',os,bare,un,hok',r',q⟩:=h;let q':v= .bl true:=q;subst q';obtain rfl:u=W4 true:=r';refine⟨rfl,OldK.of_keep λb o e=>?_,os,bare⟩;cases q:H b with
      | none=>exact un.keep b o e q (by intro z;exact Xt (show b∈([]:Ro) from z) `d) `d
      | some u=>
        obtain z | ⟨ob,xs,z⟩:=hO b
        ·rw[q] at z;cases z
        ·let z2:=un.YQ b ob _ z;let⟨e1,_⟩:=XJ b _ z;let⟨e2,_⟩:=hok' b _ z2;rw[e] at e1;cases e1
         exact e2
 cases hk:K.lookup a with
 | some o=>
   let e:=KX a o hk;rw[ha] at e;cases e
   refine core (λ_=>none) (λ_=>.inl rfl) (.inr ⟨_,vs.toArray,_,hk,rfl,rfl,rfl,by rw[Si,lenV];exact hl,by simpa using rv⟩) (λb u z=>by let z':(none:Option HO)∣u:=z;cases z') (λb z=>Xt rfl z) λz=>Xt rfl z
 | none=>
   refine core (λb=>if b=a then some (.Yu {cls:=.type "list",data:=.seq vs.toArray} (.lst (ns.map V.int))) else none) (λb=>?_) (.inl (.inr ⟨{cls:=.type "list",data:=.seq vs.toArray},Xv rfl⟩)) (λb u z=>?_) (λb z=>?_) λ_=>hk
   ·by_cases hb:b=a
    ·exact .inr ⟨_,_,Xv hb⟩
    ·exact .inl (Xu hb)
   ·by_cases hb:b=a
    ·let z':=(Xv hb).symm.trans z;cases z'
     subst hb;exact⟨ha,by rw[RS];exact hl,vs,_,rv,ha⟩
    ·let z':=(Xu hb).symm.trans z;cases z'
   ·by_cases hb:b=a
    ·exact hb
    ·exact Xt (Xu hb) z
abbrev qk {K:W7}{h:Heap}(_:K.In h):W7:=K
noncomputable def fA (s:Stmt):Arguments:=match s with
 | .FunctionDef _ a _ _ _ _ _ _ _ _=>a
 | _=>{posonlyargs:=[],args:=[],vararg:=none,kwonlyargs:=[],kw_defaults:=[],kwarg:=none,defaults:=[]}
noncomputable def bD (s:Stmt):List Stmt:=match s with
 | .FunctionDef _ _ b _ _ _ _ _ _ _=>b
 | _=>[]
noncomputable def ao (s:Stmt):Scope:=match s with
 | .FunctionDef _ _ _ _ _ _ sc _ _ _=>sc
 | _=>{kind:=.function,names:=[],isGenerator:=false,isCoroutine:=false}
abbrev eo:oi:=λ_ _ _ _ _ _=>False
abbrev E0:XK:=λ_ _ _=>False
variable {X:Cx}
theorem kH :Passes eo X E0:=λ_ _ _ _ _ _ _ h=>h.elim
structure dI (K:W7)(x qual:Str)(st:Stmt)(f:Addr)(fd:U8):Prop where
 ex:∃(oc:`aM)(od:Option Addr)(kV doc pm:`aM)(an:Option Addr)(XH ct:`aM)(Zi:Array Rn),
  fd=Xd x qual (fA st) (bD st) (ao st) .none kV doc pm an XH ct/\K.lookup f∣⟨oc,od,.func fd,Zi⟩/\Xh K XH qual=true
 kp:Xc K (.ref f)=true
variable {ps:Rm}
section
variable {base:Heap}
variable {x qual:Str}{st:Stmt}{f:Addr}
theorem dI.ok {N:Rm}{k:Nat}(F:dI K x qual st f fd)(S:bE N ps (ao st))(len:∀vs H Q E,sp vs H Q E->vs.length=ps.length)(X2:∀(XH:`aM)(A:U6)(outer:List Env)(s:U0)(H:Hp)(vs:`R)(Q:VK)(E:XK),bG k `ap->sp vs H Q E->
  ∃t,lD (eK eo P w K mg base N qual (ao st) f XH A outer s H E).gF (bD st) t/\t {nx:=λ_ H'=>Q .XT H',rt:=Q} (start N vs) H):fb P w K mg base eo (k+1) f fd ps sp:=by
 let⟨oc,od,kV,doc,pm,an,XH,ct,Zi,rfl,lk,Zz⟩:=F.ex;refine M5 lk Zz S len λA outer s H vs Q E hr Zx=>?_;let⟨t,h,q⟩:=X2 XH A outer s H vs Q E hr Zx;exact⟨t,h.gF,q⟩
theorem dI.binds (F:dI K x qual st f fd)(h:∀(kV doc pm:`aM)(an:Option Addr)(XH ct:`aM)(us:Rp),us.length=ps.length->bindArgs (Xd x qual (fA st) (bD st) (ao st) .none kV doc pm an XH ct) ⟨us,[]⟩=pure (ps.zip us)):Binds K fd ps []:=by
 let⟨oc,od,kV,doc,pm,an,XH,ct,Zi,rfl,lk,Zz⟩:=F.ex;exact .all (h kV doc pm an XH ct)
theorem lH {oc:`aM}{od an:Option Addr}{Zi:Array Rn}{kV doc pm XH ct:`aM}(l:K.lookup f∣⟨oc,od,.func (Xd x qual (fA st) (bD st) (ao st) .none kV doc pm an XH ct),Zi⟩)(c:Xh K XH qual=true)(k:Xc K (.ref f)=true):dI K x qual st f (Xd x qual (fA st) (bD st) (ao st) .none kV doc pm an XH ct):=⟨⟨oc,od,kV,doc,pm,an,XH,ct,Zi,rfl,l,c⟩,k⟩
end
variable {H H':Hp}
theorem om {A B:Prop}(h:B):if false=true then A else B:=by
 rw[Xu Rv];exact h
theorem oB {A B:Prop}(h:A):if true=true then A else B:=by
 rw[Xv rfl];exact h
def av (H H':Hp):Prop:=∀b o,H b∣o->H' b∣o
theorem av.refl (H:Hp):av H H:=λ_ _ h=>h
theorem av.trans {H1 H2:Hp}(a:av H H1)(b:av H1 H2):av H H2:=λc o h=>b c o (a c o h)
theorem av.free (e:av H H'){l:Addr}(h:H' l=Option.none):H l=Option.none:=by
 cases q:H l with
 | none=>rfl
 | some o=>
   rw[e l o q] at h;cases h
theorem av.seq {a:Addr}{xs:`R}(e:av H H')(h:bt K H a xs):bt K H' a xs:=by
 obtain (h | ⟨o,h⟩) | h:=h
 ·exact .inl (.inl (e _ _ h))
 ·exact .inl (.inr ⟨o,e _ _ h⟩)
 ·exact .inr h
theorem vc:gb X (.builtin "len") (λxs H Q=>∃a kvs,xs=[V.ref a]/\H a∣.dK kvs/\Q (.int kvs.length) H):=by
 intro XD s σ H xs us Q I r h;let⟨a,kvs,rfl,ha,q⟩:=h;let⟨u,rfl,ru⟩:=vals1 r;cases ru
 exact MT I (.inl ha) λt s' I'=>⟨.int kvs.length,H,I',⟨t,rfl⟩,q⟩
section
variable {κ:Type} [DecidableEq κ]
theorem iN:∀{l:List κ}{k:κ},l.Nodup->¬k∈l->(l++[k]).Nodup
 | [],k,_,_=>`d
 | a::r,k,h,hk=>by
   let⟨h1,h2⟩:=Sn.mp h;show(a::(r++[k])).Nodup;refine Sn.mpr ⟨λm=>?_,iN h2 λm=>hk (R9.mpr (Or.inr m))⟩;obtain q | q:=Se.mp m
   ·exact h1 q
   ·exact hk (R9.mpr (Or.inl (RU.mp q).symm))
end
variable {XD:Rk}{σ:St}
section
variable {elt target iter:Expr}{ifs:Rr}{scope:Scope}{pos:Pos}{s:U0}{fr:Rm}{ix:List Nat}{wi:TI}{g:TG}{tc:TT}{te:TE}
def bc (X:Cx)(scope:Scope)(cl:`aQ)(C:Addr)(N':Rm)(s:U0)(H:Hp)(ex:Ro):Cx:=
 {X with N:=N',s₀:=s,H₀:=H,env:=compEnvC scope cl C X.env,outer:=X.stack,stack:=X.stack,ex:=ex,fn:=λ_=>false,pn:=[],xe:=λ_ _=>False}
noncomputable def PF (X:Cx)(ifs:Rr)(t:TT):Prop:=
 ∀(XD:Rk)(s:U0)(σ:St)(H:Hp)(Q:Bool->Hp->Prop),Inv X XD σ H s->t σ H Q->
  wpAny `f X.A (forIn ifs true λc r=>if r=true then do let ok ← VA c X.env (eval c X.env);pure (RH ok) else pure (RH r)) (TP X XD σ Q) X.xe s
def QF:TT:=λ_ H Q=>Q true H
theorem KD:PF X [] QF:=by
 intro XD s σ H Q I h;exact U3 ⟨H,I,h⟩
theorem Kf {c:Expr}{t:TT}(hc:PT X c t):PF X [c] t:=by
 intro XD s σ H Q I h;show wpAny _ _ (forIn [c] true λc r=>_) _ _ s;rw[Ug];simp only[if_true,forIn_nil];refine U1 (U1 (Ve (hc XD s σ H Q I h) (λb s1 h1=>?_) λ_ _ e=>e));exact U3 (U3 h1)
theorem vX {prog:U4}{A:U6}{R:Result->U0->Prop}{it acc:`aM}{env:Env}(I:Nat->U0->Prop)(turn:∀n s,I n s->wpAny `t A (VY it) (λr s₁=>match r with
  | none=>R (.ok .next) s₁
  | some v=>wpAny `t A (VI target it v) (λ_ s₁'=>wpAny `t A (Vt target env v) (λ_ s₂=>
   wpAny `t A (forIn ifs true λc r=>if r=true then do let ok ← VA c env (eval c env);pure (RH ok) else pure (RH r)) (λok s₃=>
    if ok=true then wpAny `t A (eval elt env) (λx s₄=>
     wpAny `t A (call (.builtin "list.append") [acc,x]) (λ_ s₅=>∃m,m<n/\I m s₅) (λ_ _=>False) s₄) (λ_ _=>False) s₃
    else∃m,m<n/\I m s₃) (λ_ _=>False) s₂) (λ_ _=>False) s₁') (λ_ _=>False) s₁) (λ_ _=>False) s)(n:Nat)(h:I n s):
 VO `t A (.compLoop `I 0 it acc env) R s:=by
 let no:∀{α:Type}{t:Sem α}{Q:α->U0->Prop}{E:`s}{s:U0},wpAny `t A t Q (λ_ _=>False) s->wpAny `t A t Q E s:=λh=>Ve h (λ_ _ q=>q) λ_ _ f=>f.elim;refine codeAny_loop rfl I (λn s hI=>?_) n h;show wpAny _ A ((compTurn `I 0 it acc env).onRaise (λx=>do noteFrame x env;theTreesLotGoes x)) _ _ s;refine wpAny_noted ?_;rw[compTurn_list];refine U1 (VS (U1 (Ve (no (turn n s hI)) (λr s₁ h₁=>?_) λ_ _ h'=>h')));cases r with
 | none=>exact U3 h₁
 | some v=>
   refine U1 (Ve (no h₁) (λ_ s₁' h₁'=>?_) λ_ _ h'=>h');refine U1 (Ve (no h₁') (λ_ s₂ h₂=>U1 (Ve (no h₂) (λok s₃ h₃=>?_) λ_ _ h'=>h')) λ_ _ h'=>h');cases ok with
   | false=>exact U3 ⟨rfl,h₃⟩
   | true=>
     exact U1 (U1 (Ve (no h₃) (λx s₄ h₄=>U1 (Ve (no h₄) (λ_ s₅ h₅=>U3 (U3 ⟨rfl,h₅⟩)) λ_ _ h'=>h')) λ_ _ h'=>h'))
noncomputable def Ba (wi:TI)(g:TG)(tc:TT)(te:TE)(z:St->St):TE:=λσ H Q=>wi σ H λJ H1=>
 ∃W:Nat->Nat->List V->St->Hp->Prop,(∃m,W 0 m [] (z σ) H1)/\∀i m ys σ' H',W i m ys σ' H'->
  ys.length<=UZ/\((J.stop i H'/\∀p,H' p=none->Q (.ref p) (upd H' p (.lst ys)))∨
  (J.go i H'/\∀x H2,J.yld i H' x H2->g x σ' H2 λσ2 H3=>tc σ2 H3 λb H4=>
    if b=true then te σ2 H4 λv H5=>∃m',m'<m/\W (i+1) m' (ys++[v]) σ2 H5 else∃m',m'<m/\W (i+1) m' ys σ2 H4))
structure fF (X:Cx)(scope:Scope)(cl:`aQ)(own fr:Rm)(ix:List Nat):Prop where
 clos:closureFor scope X.env=pure cl
 cells:∀x c,cl.lookup x∣c->X.env.cells.lookup x∣c
 kind:scope.kind= .function
 ncell:∀y∈scope.names,y.2≠ .cell
 names:∀y∈scope.names,y.2= .local->scope.names.lookup y.1∣.local
 has:∀x,scope.names.lookup x∣.free->∃c,cl.lookup x∣c
 frees:∀x∈fr,scope.names.lookup x∣.free
 len:fr.length=ix.length
 at_:∀(k:Nat)(i:Nat)(x:Str),ix[k]?∣i->fr[k]?∣x->X.N[i]?∣x/\X.env.kindOf x∣.cell
theorem jJ {env:Env}:∀{names:List (Str×Vx)}{x:Str}{k:Vx},
 (names.map λ(n,k)=>if(k==Vx.free&&env.scope.kind== .function&&env.kindOf n==some .cell) then(n,Vx.cell) else(n,k)).lookup x∣k->
 ∃k',names.lookup x∣k'/\(k=k'∨(k'= .free/\k= .cell))
 | [],_,_,h=>by simp at h
 | (n,k)::r,x,kk,h=>by
   let ih:=@jJ env r x kk;replace h:Td x ((if(k==Vx.free&&env.scope.kind== .function&&env.kindOf n==some .cell)=true then(n,Vx.cell) else(n,k))::_)∣kk:=h;by_cases hc:(k==Vx.free&&env.scope.kind== .function&&env.kindOf n==some .cell)=true
   ·rw[Xv hc] at h;cases hx:x==n with
    | true=>
      simp only[Ti,hx,Option.some.injEq] at h ⊢;let hk:k= .free:=by
       simp only[Rx] at hc;exact eq_of_beq hc.1.1
      exact⟨k,rfl,.inr ⟨hk,h.symm⟩⟩
    | false=>
      simp only[Ti,hx] at h ⊢;exact ih h
   ·rw[Xu hc] at h;cases hx:x==n with
    | true=>
      simp only[Ti,hx,Option.some.injEq] at h ⊢;exact⟨k,rfl,.inl h.symm⟩
    | false=>
      simp only[Ti,hx] at h ⊢;exact ih h
theorem oz {env:Env}(hf:env.scope.kind= .function):∀{names:List (Str×Vx)}{x:Str},names.lookup x∣.free->env.kindOf x∣.cell->
 (names.map λ(n,k)=>if(k==Vx.free&&env.scope.kind== .function&&env.kindOf n==some .cell) then(n,Vx.cell) else(n,k)).lookup x∣.cell
 | [],_,h,_=>by simp at h
 | (n,k)::r,x,h,hk=>by
   let ih:=@oz env hf r x;show Td x ((if(k==Vx.free&&env.scope.kind== .function&&env.kindOf n==some .cell)=true then(n,Vx.cell) else(n,k))::_)=_;cases hx:x==n with
   | true=>
     simp only[Ti,hx,Option.some.injEq] at h;let e:x=n:=eq_of_beq hx;subst e;subst h;rw[Xv (by rw[hf,hk];rfl)];simp[Ti]
   | false=>
     simp only[Ti,hx] at h;split
     ·simp only[Ti,hx];exact ih h hk
     ·simp only[Ti,hx];exact ih h hk
noncomputable def iu (own:Rm)(ix:List Nat)(σ:St):St:=SW own.length none++ix.map λi=>(σ[i]?).join
structure Off (X:Cx)(XD:Rk)(H:Hp)(s:U0)(C:Addr):Prop where
 ns:∃m,s.heap.Ns C m
 free:H C=none
 ne:C≠X.env.locals
 young:X.s₀.heap.objs.size<=C
 cell:∀x c,X.env.cells.lookup x∣c->c≠C
 pin:∀p∈X.pn++XD,p.1≠C
theorem uY {cl:`aQ}{own:Rm}{use:Option (Value->Sem Unit)}{Qf:`s}{Q:VK}(hc:X.calm=true)(S:fF X scope cl own fr ix)(hi:PI X target iter wi)(hb:∀(C:Addr)(s:U0)(H:Hp)(ex:Ro),PG `m target g/\PF `m ifs tc/\PE `m elt te)(hs:∀x,Va iter X.env x=pure x)(I:`j)(h:Ba wi g tc te (iu own ix) σ H Q)(Zn:∀(D C:Addr)(H6:Hp)(s6:U0),Inv X XD σ H6 s6->Off X XD H6 s6 C->Q (.ref D) H6->compPost `f X.A X.xe use Qf (.ref D) C (.ok .next) s6):
 wpAny `f X.A (comprehension `I scope X.env (firstIterPos [⟨target,iter,ifs,0⟩] pos) (newList []) false (eval iter X.env) use) Qf X.xe s:=by
 refine wpAny_comprehension_free (use:=use) rfl hs S.clos S.kind S.names ?_;refine a8 (hi XD s σ H _ I h) λv s1 h1=>a8 h1 λitv s2 h2=>?_;let⟨it,fp,tn,J,H2,rfl,I2,T,Z8,f2,W,⟨m0,w0⟩,turn⟩:=h2;refine Vl (wpAny_newFunctionEnv S.ncell (by intro y hy;simp at hy) (λh₁ hns₁ hsb₁=>?_) S.kind);dsimp only at hns₁ hsb₁ ⊢;generalize hH3:s2.heap.push {cls:=.type "list",dict:=none,data:=.seq ([]:Rp).toArray}=h3 at hns₁ hsb₁ ⊢;let hC:h3.objs.size=⇑s2+1:=by rw[← hH3,WH]
 let to3:∀b o,s2.heap.get? b∣o->h3.get? b∣o:=λb o e=>by rw[← hH3];exact WC _ e
 let getD3:h3.get? ⇑s2=some {cls:=.type "list",data:=.seq ([]:Rp).toArray}:=by rw[← hH3];exact WG _ rfl
 let to1:∀b o,h3.get? b∣o->h₁.get? b∣o:=λb o e=>hsb₁.extBut b o (Ur (WE e)) (WC _ e);let frD:∀{b:Addr},b∈fp->b≠⇑s2:=λ{b} hb z=>by
  let⟨o,e,_⟩:=T.obj 0 _ Z8 b hb;exact Xt (WE e) (by rw[z];exact Us _)
 let frC:∀{b:Addr},b∈fp->b≠h3.objs.size:=λ{b} hb z=>by
  let⟨o,e,_⟩:=T.obj 0 _ Z8 b hb;exact Xt (WE e) (by rw[z,hC];exact UC.mpr (Uw _))
 let HD2:H2 ⇑s2=none:=I2.XJ.fresh (Uk _)
 let' X':Cx:=bc X scope cl h3.objs.size (own++fr) {s2 with heap:=h3} H2 (⇑s2::fp)
 let ok':X'.Ok:=by
  refine⟨I2.ok.mod,S.kind,I2.ok.glob,I2.ok.blt,Uk _,λx y c e1 e2=>I2.ok.inj x y c (S.cells x c e1) (S.cells y c e2),λx hx=>?_,λx c z=>?_,I2.ok.hd,I2.ok.frames,.inl rfl,λb hb=>?_,λb o e=>?_,?_,λb o e hb=>?_,λb hb z=>?_,?_,I2.zK⟩
  ·let key:scope.names.lookup x∣.free:=by
    let hx:(relabel scope X.env).names.lookup x∣.cell∨(relabel scope X.env).names.lookup x∣.free:=hx;obtain hx | hx:=hx
    ·let⟨k',e,z⟩:=jJ hx;obtain z | z:=z
     ·subst z;exact Xt rfl (S.ncell _ (Vc e))
     ·rw[e,z.1]
    ·let⟨k',e,z⟩:=jJ hx;obtain z | z:=z
     ·subst z;exact e
     ·cases z.2
   exact S.has x key
  ·cases z
  ·obtain rfl | hb:=R9.mp hb
   ·refine⟨by rw[show X'.env.locals=h3.objs.size from rfl,hC];exact Ur (Uv _),λx c e z=>?_⟩;let⟨v',q⟩:=I2.cell x c (S.cells x c e);exact Xt q.lt (by rw[z];exact Us _)
   ·exact⟨frC hb,λx c e=>(f2 b hb).2.2.2.2.1 x c (S.cells x c e)⟩
  ·let⟨e1,e2⟩:=I2.bs b o e;exact⟨to3 b o e1,e2⟩
  ·show X.base.objs.size<=h3.objs.size;have:=I2.ok.bsz;have:=I2.sz;cbv
  ·obtain rfl | hb:=R9.mp hb
   ·exact Xt (WE (I2.bs _ o e).1) (Us _)
   ·rcases(f2 b hb).2.2.2.1 with z | z
    ·exact I2.ok.ZJ b o e z
    ·exact Xt (Uq (Uq (WE e) I2.ok.bsz) z) (Us _)
  ·replace z:b∈mY X.stack:=z;obtain rfl | hb:=R9.mp hb
   ·let⟨_,o,ho,_⟩:=I2.stack.mem z;exact Xt (WE ho) (Us _)
   ·obtain q | q:=R9.mp (I2.wc b z)
    ·exact(f2 b hb).2.1 q
    ·exact(f2 b hb).2.2.1 q
  ·exact I2.stack.of_keeps λb o e _=>⟨o,to3 b o e,rfl⟩
 let I4:Inv X' [] (iu own ix σ) H2 {s2 with heap:=h₁,toks:=s2.toks+([]:List (Str×Value)).length}:=by
  refine⟨ok',rfl,I2.bare,Un.kept to1,⟨_,hns₁,λi x v e1 e2 e3=>?_⟩,λx c e=>?_,I2.XJ.fresh (by show ⇑s2<=h3.objs.size;rw[hC];exact Uw _),λx c e=>I2.Yr x c (S.cells x c e),λp hp=>Xt (show p∈([]:Rk) from hp) `d,I2.XJ.kept λb o e=>to1 b o (to3 b o e),?_⟩
  ·replace e1:(own++fr)[i]?∣x:=e1;unfold iu at e2;by_cases Yq:i<own.length
   ·rw[So (~~~Yq),Tp] at e2;split at e2<;>cases e2
   ·rw[Su (~~~Yq)] at e1 e2;rw[Ta,R6] at e2;cases ek:ix[i-own.length]? with
    | none=>rw[ek] at e2;cases e2
    | some j=>
      rw[ek] at e2;let⟨n1,n2⟩:=S.at_ _ j x ek e1;let e2':σ[j]?∣some v:=by
       let q:(σ[j]?).join∣v:=Option.some.inj e2;cases es:σ[j]? with
       | none=>rw[es] at q;cases q
       | some o=>rw[es] at q;exact congrArg some q
      let⟨m,hn,hl⟩:=I2.loc;let⟨u,r,l⟩:=hl j x v n1 e2' (.inr (.inl n2));refine⟨u,r,?_⟩;let hfr:scope.names.lookup x∣.free:=S.frees x (R7 e1);obtain⟨k,_⟩ | ⟨_,c,hcl,z⟩:=l
      ·rw[n2] at k;cases k
      ·let⟨c',hc'⟩:=S.has x hfr;let q:=S.cells x c' hc';rw[hcl] at q;cases q
       let⟨oc,ho,hd⟩:=z;exact .inr ⟨.inl (oz I2.ok.kind hfr n2),c,hc',oc,to1 _ _ (to3 _ _ ho),hd⟩
  ·let⟨v',oc,ho,hd⟩:=I2.cell x c (S.cells x c e);exact⟨v',oc,to1 _ _ (to3 _ _ ho),hd⟩
  ·show(iu own ix σ).length=(own++fr).length;unfold iu;rw[RY,RY,Ta,RS,S.len]
 let⟨hg,hf,he⟩:=hb h3.objs.size {s2 with heap:=h3} H2 (⇑s2::fp);let hg:PG X' target g:=hg;let hf:PF X' ifs tc:=hf;let he:PE X' elt te:=he;let locX:X'.env.locals=h3.objs.size:=rfl
 let Dne:⇑s2≠X'.env.locals:=by rw[locX,hC];exact Ur (Uv _)
 let Dfs:⇑s2∉X'.fs:=ok'.ZA _ (RZ ..);let Dcl:∀x c,X'.env.cells.lookup x∣c->c≠⇑s2:=λx c e=>(ok'.exf _ (RZ ..)).2 x c e;let fpX:∀{pl:Rk}{H':Hp},(∀p∈pl,p.1=⇑s2)->(∀b∈fp,H' b=none)->∀b∈fp,mG X' pl H' b:=λhp hn b hb=>
  ⟨hn b hb,frC hb,ok'.ZA b (RX _ hb),.inl (RX _ hb),(ok'.exf b (RX _ hb)).2,λp q=>by
   rw[hp p (by simpa[show X'.pn=[] from rfl] using q)];exact UJ (frD hb)⟩
 let pinD:∀{σ':St}{H':Hp}{s':U0}{o:Obj},Inv X' [] σ' H' s'->s'.heap.get? ⇑s2∣o->H' ⇑s2=none->(∀v,o.data≠ .cell v)->Inv X' [(⇑s2,o)] σ' H' s':=λI e n d=>
  I.kN λp hp=>by
    obtain rfl:=RU.mp hp;exact⟨e,n,Dne,Dfs,d⟩
 let loop:VO `f X.A (.compLoop `I 0 (.ref it) (.ref ⇑s2) X'.env)
  (compPost `f X.A X.xe use Qf (.ref ⇑s2) h3.objs.size) {s2 with heap:=h₁,toks:=s2.toks+([]:List (Str×Value)).length}:=by
  refine vX (λn s'=>∃i ys XF k σ' H',Inv X' [] σ' H' s'/\tn i s'.heap/\(∀b∈fp,H' b=none)/\H' ⇑s2=none/\Vals ys XF/\s'.heap.get? ⇑s2=some {cls:=.type "list",data:=.seq XF.toArray k}/\W i n ys σ' H')
   ?_ m0 ⟨0,[],[],0,_,H2,I4,T.keep 0 _ _ Z8 λb _ o e=>to1 b o (to3 b o e),λb YO=>(f2 b YO).1,HD2,.nil,to1 _ _ getD3,w0⟩
  rintro n s5 ⟨i,ys,XF,k,σ5,H5,I5,st5,fr5,hD5,vs5,get5,w5⟩;let⟨hlen,alt⟩:=turn i n ys σ5 H5 w5;let P5:=pinD I5 get5 hD5 (λv z=>by cases z);let okp:∀p∈[`am],p.1=⇑s2:=λp hp=>by
   rw[RU.mp hp]
  obtain⟨stop,q⟩ | ⟨go,step⟩:=alt
  ·refine a8 (T.done X' rfl rfl rfl hc i _ s5 σ5 H5 _ P5 (fpX okp fr5) st5 stop) λr s6 ⟨hr,I6⟩=>?_;subst hr;let⟨m6,hn6,_⟩:=I6.loc;let⟨get6,_,_,_,_⟩:=I6.pin `am (Sa _ (RU.mpr rfl));let toh:∀b o,b≠h3.objs.size->s6.heap.get? b∣o->s6.heap.get? b∣o:=λb o hb e=>e;let exn:∀{b:Addr}{o:Obj},s2.heap.get? b∣o->b∉fp->b∉X'.ex:=λ{b o} e hb z=>by
    obtain z | z:=R9.mp z
    ·exact Xt (WE e) (by rw[z];exact Us _)
    ·exact hb z
   let ZL:∀{b:Addr}{o:Obj},s2.heap.get? b∣o->b≠h3.objs.size:=λ{b o} e z=>by
    let q1:=WE e;rw[z,hC] at q1;exact Xt q1 (UC.mpr (Uw _))
   let neD:∀{b:Addr}{o:Obj},s2.heap.get? b∣o->b≠⇑s2:=λ{b o} e=>Ur (WE e);let neD':∀{b:Addr}{o:HO},H2 b∣o->b≠⇑s2:=λ{b o} e=>dq e HD2;let U:Un (mY X.stack) fp H2 (upd H5 ⇑s2 (.lst ys)) s2.heap s6.heap:=by
    refine⟨λb o e n hb hx=>?_,λb o e n hb hx=>?_,λb o e n hx=>?_,λb o e hx=>?_,λb xs e=>?_,λb o u e=>?_,λb ps e=>?_⟩
    ·exact toh b o (ZL e) (I6.base.keep b o (to3 b o e) n hb (exn e hx))
    ·let⟨sl,q1⟩:=I6.base.slot b o (to3 b o e) n hb (exn e hx);exact⟨sl,toh b _ (ZL e) q1⟩
    ·rw[aG (neD e)];exact I6.base.free b o (to3 b o e) n (exn e hx)
    ·let⟨o',q1⟩:=I6.base.there b o (to3 b o e) (exn e hx);exact⟨o',toh b _ (ZL e) q1⟩
    ·rw[aG (neD' e)];exact I6.base.YX b xs e
    ·rw[aG (neD' e)];exact I6.base.YQ b o u e
    ·rw[aG (neD' e)];exact I6.base.YY b ps e
   let HC:H5 h3.objs.size=none:=I6.free;let XJ:fc X.prog X.w (upd H5 ⇑s2 (.lst ys)) s6.heap:=λb u e=>by
    by_cases hbD:b=⇑s2
    ·subst hbD;rw[aD] at e;cases e
     exact⟨hlen,XF,k,vs5,toh _ _ (by rw[hC];exact Ur (Uv _)) get6⟩
    ·rw[aG hbD] at e;refine(I6.XJ b u e).Yi (λc o hco q1=>toh c o (λz=>?_) q1) (λc q1=>by rw[aG (dq q1 hD5)];exact q1) λc xs q1=>by rw[aG (dq q1 hD5)];exact q1
     obtain hco | hco:=hco
     ·rw[← hco,z,HC] at e;cases e
     ·rw[z,HC] at hco;cases hco
   let fin:=I2.Oh (s':=s6) (ch:=fp) I6.os U XJ I6.bare λb YO=>⟨(f2 b YO).2.2.2.1,(f2 b YO).2.1,(f2 b YO).2.2.2.2.1,(f2 b YO).2.2.2.2.2⟩;refine Zn _ h3.objs.size _ s6 fin ⟨⟨m6,hn6⟩,?_,?_,?_,λx c e z=>?_,λp hp z=>?_⟩ (q _ hD5)
   ·rw[aG (by rw[hC];exact Uy (Uv _))];exact HC
   ·intro z;have:=I2.lt;rw[← z,hC] at this;exact Xt this (UC.mpr (Uw _))
   ·rw[hC];exact Um I2.sz (Uw _)
   ·let⟨v',q1⟩:=I2.cell x c e;have:=q1.lt;rw[z,hC] at this;exact Xt this (UC.mpr (Uw _))
   ·have:=WE (I2.pin p hp).1;rw[z,hC] at this;exact Xt this (UC.mpr (Uw _))
  ·refine a8 (T.item X' rfl rfl rfl hc i _ s5 σ5 H5 _ P5 (fpX okp fr5) st5 go) λr s6 ⟨u,hr,h6⟩=>?_;subst hr;refine a8 h6 λ_ s7 ⟨x,H7,I7,r7,y7,st7,fr7⟩=>?_;let I7':=I7.pinned (fpX okp fr7) (T.obj _ _ st7);refine a8 (hg _ s7 σ5 H7 x u _ I7' r7 (step x H7 y7)) λ_ s8 ⟨σ8,H8,I8,q8⟩=>?_;refine a8 (hf _ s8 σ8 H8 _ I8 q8) λb s9 ⟨H9,I9,q9⟩=>?_;let out:∀{σ':St}{H':Hp}{s':U0},Inv X' ([`am]++mR fp s7.heap) σ' H' s'->
    tn (i+1) s'.heap/\(∀b∈fp,H' b=none)/\H' ⇑s2=none/\s'.heap.get? ⇑s2=some {cls:=.type "list",data:=.seq XF.toArray k}:=λI'=>by
    refine⟨T.keep _ _ _ st7 λb YO o e=>(I'.pin (b,o) (Sa _ (Sa _ (kF YO e)))).1,λb YO=>?_,(I'.pin `am (Sa _ (Sg _ (RU.mpr rfl)))).2.1,(I'.pin `am (Sa _ (Sg _ (RU.mpr rfl)))).1⟩;let⟨o,e,d⟩:=T.obj _ _ st7 b YO;exact(I'.pin (b,o) (Sa _ (Sa _ (kF YO e)))).2.1
   cases b with
   | false=>
     rw[Xu Rv] at q9 ⊢;let⟨m',hm,w'⟩:=q9;let⟨o1,o2,o3,o4⟩:=out I9;exact⟨m',hm,i+1,ys,XF,k,σ8,H9,I9.kN (λ_ z=>nomatch z),o1,o2,o3,vs5,o4,w'⟩
   | true=>
     rw[Xv rfl] at q9 ⊢;refine a8 (he _ s9 σ8 H9 _ I9 q9) λuv s10 ⟨v10,H10,I10,r10,q10⟩=>?_;let⟨m',hm,w'⟩:=q10;let⟨o1,o2,o3,o4⟩:=out I10;refine wpAny_list_append_plain ⟨k,o4⟩ (λh' X1 YS=>?_) (by
      have:=vs5.length;rw[Si,← this];exact hlen)
     let⟨k',Zb⟩:=X1;let I11:Inv X' (mR fp s7.heap) σ8 H10 s10:=I10.kN λp hp=>I10.pin p (Sa _ (Sa _ hp));let I12:Inv X' [] σ8 H10 {s10 with heap:=h'}:=(I10.kN (λ_ z=>nomatch z):Inv X' [] σ8 H10 s10).turned (t':=s10.toks) (λb o YO e=>YS.extBut b o YO e) o3 Dne (.inl (RZ ..)) Dcl (λp hp=>Xt (show p∈([]:Rk) from hp) `d);refine⟨m',hm,i+1,ys++[v10],XF++[uv],k',σ8,H10,I12,T.keep _ _ _ o1 λb YO o e=>YS.extBut b o (frD YO) e,o2,o3,vs5.append (.cons r10 .nil),?_,w'⟩;show h'.get? _=_;rw[Zb];simp
 exact codeAny_compStart_list loop (T.self X.A 0 _ _ _ (T.keep 0 _ _ Z8 λb _ o e=>to1 b o (to3 b o e)) loop)
theorem Off.gone {C:Addr}{h':Heap}(o:Off X XD H s C)(I:`j)(YS:WI C s.heap h'):Inv X XD σ H {s with heap:=h'}:=
 I.turned (t':=s.toks) (λb u hb e=>YS.extBut b u hb e) o.free o.ne (.inr o.young) o.cell o.pin
theorem Ij {cl:`aQ}{own:Rm}(hc:X.calm=true)(S:fF X scope cl own fr ix)(hi:PI X target iter wi)(hb:∀(C:Addr)(s:U0)(H:Hp)(ex:Ro),PG `m target g/\PF `m ifs tc/\PE `m elt te)(hs:∀x,Va iter X.env x=pure x:=by intro _;rfl):
 PE X `I (Ba wi g tc te (iu own ix)):=by
 intro XD s σ H Q I h;rw[eval_ListComp];refine uY (use:=none) hc S hi hb hs I h λD C H6 s6 I6 o6 q=>?_;let⟨m,hn⟩:=o6.ns;exact⟨m,hn,λh' YS=>⟨.ref D,H6,o6.gone I6 YS,rfl,q⟩⟩
theorem nX {i:Nat}{y:Str}{py YL:Pos}{cl:`aQ}{own:Rm}(Yc:U7 `I (some (.Name y py)) YL.line X.env=pure true)(hN:X.N.Nodup)(hi':X.N[i]?∣y)(hx:Loc X.env.scope y)(hc:X.calm=true)(S:fF X scope cl own fr ix)(hi:PI X target iter wi)(hb:∀(C:Addr)(s:U0)(H:Hp)(ex:Ro),PG `m target g/\PF `m ifs tc/\PE `m elt te)(hs:∀x,Va iter X.env x=pure x:=by intro _;rfl)(hf:fM X y:=by first | exact .inl rfl | exact .inr rfl | assumption):
 PS X (.Assign [.Name y py] `I YL) (Ee (Ba wi g tc te (iu own ix)) (As i)):=by
 intro XD s σ H D I h;rw[exec_Assign_Name_used _ _ _ _ Yc];refine U1 (VS (U1 ?_));show wpAny _ _ (do let _ ← comprehension `I scope X.env _ (newList []) false (eval iter X.env) (some (Vt (.Name y py) X.env))) _ _ s;refine U1 (Ve (uY (use:=some (Vt (.Name y py) X.env)) (Qf:=λ_ s'=>SP X XD D .next s') hc S hi hb hs I h λA C H6 s6 I6 o6 q=>?_) (λ_ s' hq=>U3 (U3 hq)) λ_ _ e=>e);show wpAny _ _ (Vt (.Name y py) X.env (.ref A)) _ _ _;refine wpAny_assign_Name (uL I6 hN hi' hx (v:=.ref A) rfl (λs7 I7 hw=>?_) hf);let⟨c,hsb7,hcc⟩:=hw;let ZL:C≠c:=by
  obtain rfl | hcc:=hcc
  ·exact o6.ne
  ·exact UJ (o6.cell y c hcc)
 let⟨m,hn⟩:=o6.ns;let o7:Off X XD H6 s7 C:=⟨⟨m,hn.sameBut hsb7 ZL⟩,o6.free,o6.ne,o6.young,o6.cell,o6.pin⟩;exact⟨m,hn.sameBut hsb7 ZL,λh' YS=>⟨_,H6,o7.gone I7 YS,q⟩⟩
end
end L2
namespace Fc
open PySem PySem.Spec PySem.W PySem.Calls L2
open PyProof.Rows hiding St
variable {X:Cx}{e:Expr}{σ:St}{H:Hp}{v:V}{D:Ends}{Q:VK}
section
variable {t:TT}{Q:Bool->Hp->Prop}
def fX (X:Cx)(e:Expr):TE:=λσ H Q=>∀(XD:Rk)(s:U0),Inv X XD σ H s->wpAny `f X.A (eval e X.env) (EP X XD σ Q) X.xe s
def D4 (X:Cx)(e:Expr):TT:=λσ H Q=>∀(XD:Rk)(s:U0),Inv X XD σ H s->wpAny `f X.A (VA e X.env (eval e X.env)) (TP X XD σ Q) X.xe s
def Ef (X:Cx)(e:Expr):TT:=λσ H Q=>∀(whole:Sem Value)(XD:Rk)(s:U0),Inv X XD σ H s->wpAny `f X.A (VA e X.env whole) (TP X XD σ Q) X.xe s
def nQ (X:Cx)(e:Expr):TG:=λv σ H Q=>∀(XD:Rk)(s:U0)(u:`aM),Inv X XD σ H s->RelV v u->wpAny `f X.A (Vt e X.env u) (λ_ s'=>∃σ' H',Inv X XD σ' H' s'/\Q σ' H') X.xe s
def Fp (X:Cx)(st:Stmt):TS:=λD σ H=>∀(XD:Rk)(s:U0),Inv X XD σ H s->wpAny `f X.A (exec st X.env) (SP X XD D) X.xe s
def vy (X:Cx)(st:List Stmt):TS:=λD σ H=>∀(XD:Rk)(s:U0),Inv X XD σ H s->wpAny `f X.A (execs st X.env) (SP X XD D) X.xe s
def AL (X:Cx)(es:Rr):TA:=λσ H Q=>∀(pos:Pos)(XD:Rk)(s:U0),Inv X XD σ H s->wpAny `f X.A (spliced (VQ pos (U5 es X.env))) (AP X XD σ Q) X.xe s
noncomputable def oC (X:Cx)(ifs:Rr):TT:=λσ H Q=>∀(XD:Rk)(s:U0),Inv X XD σ H s->
 wpAny `f X.A (forIn ifs true λc r=>if r=true then do let ok ← VA c X.env (eval c X.env);pure (RH ok) else pure (RH r)) (TP X XD σ Q) X.xe s
theorem aO:PE X e (fX X e):=λXD s _ _ _ I h=>h XD s I
theorem r6:PT X e (D4 X e):=λXD s _ _ _ I h=>h XD s I
theorem Jx:PW X e (Ef X e):=λwh XD s _ _ _ I h=>h wh XD s I
theorem PR:PG X e (nQ X e):=λXD s _ _ _ u _ I r h=>h XD s u I r
theorem PN {e:Stmt}:PS X e (Fp X e):=λXD s _ _ _ I h=>h XD s I
theorem iM {e:List Stmt}:lD X e (vy X e):=λXD s _ _ _ I h=>h XD s I
theorem nj {e:Rr}:PA X e (AL X e):=λpos XD s _ _ _ I h=>h pos XD s I
theorem eS {t:TE}(h:PE X e t){Q:VK}(q:t σ H Q):fX X e σ H Q:=λXD s I=>h XD s σ H Q I q
theorem tS (h:PT X e t)(q:t σ H Q):D4 X e σ H Q:=λXD s I=>h XD s σ H Q I q
theorem wS (h:PW X e t)(q:t σ H Q):Ef X e σ H Q:=λwh XD s I=>h wh XD s σ H Q I q
theorem gS {t:TG}(h:PG X e t){Q:St->Hp->Prop}(q:t v σ H Q):nQ X e v σ H Q:=λXD s u I r=>h XD s σ H v u Q I r q
theorem sS {e:Stmt}{t:TS}(h:PS X e t)(q:t D σ H):Fp X e D σ H:=λXD s I=>h XD s σ H D I q
theorem Mm {e:List Stmt}{t:TS}(h:lD X e t)(q:t D σ H):vy X e D σ H:=λXD s I=>h XD s σ H D I q
theorem aS {e:Rr}{t:TA}(h:PA X e t){Q:List V->Hp->Prop}(q:t σ H Q):AL X e σ H Q:=λpos XD s I=>h pos XD s σ H Q I q
theorem fS {e:Rr}(h:PF X e t)(q:t σ H Q):oC X e σ H Q:=λXD s I=>h XD s σ H Q I q
end
variable {R:Hp}{α:Type}
theorem av.fresh {p:Addr}(h:H p=none)(o:HO):av H (upd H p o):=λb u q=>by rw[aG (dq q h)];exact q
structure Rep (α:Type) where
 R:W7->Hp->V->α->Prop
 mono:∀{K:W7}{H H':Hp}{v:V}{x:α},av H H'->R K H v x->R K H' v x
def ag:Rep Int:=⟨λ_ _ v x=>v= .int x,λ_ h=>h⟩
def c7:Rep Bool:=⟨λ_ _ v x=>v= .bl x,λ_ h=>h⟩
theorem Paired.map {β:Type}{F G:α->β->Prop}(f:∀a b,F a b->G a b):∀{l:`u}{m:List β},PySem.Paired F l m->PySem.Paired G l m
 | _,_,.nil=>.nil
 | _,_,.cons h t=>.cons (f _ _ h) (Paired.map f t)
noncomputable def ae (r:Rep α):Rep (List α):=⟨λK H v xs=>∃a vs,v= .ref a/\H a∣.lst vs/\PySem.Paired (r.R K H) vs xs/\xs.length<=UZ,
 λs ⟨a,vs,e,q,p,z⟩=>⟨a,vs,e,s _ _ q,Paired.map (λ_ _=>r.mono s) p,z⟩⟩
noncomputable def cO:Rep Rl:=⟨λK H v xs=>∃a,v= .ref a/\bt K H a (xs.map V.int)/\xs.length<=63,λs ⟨a,e,q,z⟩=>⟨a,e,s.seq q,z⟩⟩
def cz {β:Type}(r:Rep α)(r':Rep β):Rep (α×β):=⟨λK H v x=>∃a v1 v2,v= .ref a/\H a∣(.tup [v1,v2])/\r.R K H v1 x.1/\r'.R K H v2 x.2,
 λs ⟨a,v1,v2,e,q,h1,h2⟩=>⟨a,v1,v2,e,s _ _ q,r.mono s h1,r'.mono s h2⟩⟩
abbrev Row:=Int×Int×Int×Int
def dU:Rep Row:=⟨λK H v x=>∃a,v= .ref a/\H a∣(.tup [.int x.1,.int x.2.1,.int x.2.2.1,.int x.2.2.2]),λs ⟨a,e,q⟩=>⟨a,e,s _ _ q⟩⟩
abbrev gZ:=Rl×List Row
def gB:Rep gZ:=cz (ae ag) (ae dU)
structure Ext (H R H' R':Hp):Prop where
 h:av H H'
 r:av R R'
 s:av R' H'
 old:∀b,H b≠none->R' b=R b
theorem Ext.refl (s:av R H):Ext H R H R:=⟨av.refl _,av.refl _,s,λ_ _=>rfl⟩
theorem av.some {H':Hp}(s:av H H'){b:Addr}(h:H b≠none):H' b≠none:=by
 cases q:H b with
 | none=>exact Xt q h
 | some o=>rw[s b o q];exact UL o
theorem Ext.trans {H1 R1 H2 R2:Hp}(a:Ext H R H1 R1)(b:Ext H1 R1 H2 R2):Ext H R H2 R2:=
 ⟨a.h.trans b.h,a.r.trans b.r,b.s,λc hc=>(b.old c (av.some a.h hc)).trans (a.old c hc)⟩
theorem Ext.fresh (s:av R H){p:Addr}(h:H p=none)(o:HO):Ext H R (upd H p o) (upd R p o):=
 ⟨av.fresh h o,av.fresh (s.free h) o,λb u q=>by
  by_cases e:b=p
  ·subst e;rw[aD] at q ⊢;exact q
  ·rw[aG e] at q ⊢;exact s b u q,λb hb=>aG λe=>hb (e▸h)⟩
theorem Ext.d6 (s:av R H){p:Addr}(h:H p=none)(o:HO):Ext H R (upd H p o) R:=
 ⟨av.fresh h o,av.refl _,s.trans (av.fresh h o),λ_ _=>rfl⟩
structure oq:Type 1 where
 fp:Ro
 R:W7->Hp->Hp->V->Prop
 loc:∀{K:W7}{H R0 H' R':Hp}{v:V},(∀a∈fp,H' a=H a)->av R0 R'->R K H R0 v->R K H' R' v
 has:∀{K:W7}{H R0:Hp}{v:V},R K H R0 v->∀a∈fp,H a≠none
inductive Ent:Type 1
 | no
 | im {α:Type} (r:Rep α) (x:α)
 | mu {α:Type} (r:Rep α) (xs:`u)
 | di (kvs:List (Int×V))
 | ob (B:oq)
noncomputable def cS (kvs:List (Int×V)):List (Key×V):=kvs.map λp=>(Sum.inl p.1,p.2)
noncomputable def Ent.ok (K:W7)(H R:Hp):Ent->Option V->Prop
 | .no,_=>True
 | .im r x,o=>∃v,o∣v/\r.R K R v x
 | .mu r xs,o=>∃a vs,o∣.ref a/\H a∣.lst vs/\R a=none/\PySem.Paired (r.R K R) vs xs
 | .di kvs,o=>∃a,o∣.ref a/\H a∣(.dK (cS kvs))/\R a=none
 | .ob B,o=>(∃v,o∣v/\B.R K H R v)/\∀a∈B.fp,R a=none
noncomputable def Ent.own:Ent->Bool
 | .mu .. =>true
 | .di .. =>true
 | _=>false
noncomputable def refOf:Option V->Ro
 | some (.ref a)=>[a]
 | _=>[]
noncomputable def Ent.fp:Ent->Option V->Ro
 | .mu ..,o=>refOf o
 | .di ..,o=>refOf o
 | .ob B,_=>B.fp
 | _,_=>[]
abbrev Ga:=List Ent
structure ar (K:W7)(σ:St)(H0 R0 H R:Hp)(Z:Ga):Prop where
 ext:Ext H0 R0 H R
 ent:∀(i:Nat)(e:Ent),Z[i]?∣e->e.ok K H R (σ[i]?).join
 nw:∀(i:Nat)(e:Ent)(a:Addr),Z[i]?∣e->a∈e.fp (σ[i]?).join->H0 a=none
 ds:∀(i j:Nat)(e e':Ent)(a:Addr),Z[i]?∣e->Z[j]?∣e'->a∈e.fp (σ[i]?).join->a∈e'.fp (σ[j]?).join->i=j
 len:Z.length=σ.length
variable {K:W7}{H0 R0:Hp}{Z:Ga}{a:Addr}{o:Option V}{i:Nat}{en:Ent}{Γ':Ga}{r:Rep α}
section
variable {H' R':Hp}
variable {u:HO}
theorem ck:a∈refOf o↔o∣.ref a:=by
 unfold refOf;split
 ·rw[RU];constructor
  ·rintro rfl;rfl
  ·intro e;cases e;rfl
 ·rename_i h;constructor
  ·intro z;cases z
  ·intro e;exact Xt e (h a)
theorem Ent.r9 {e:Ent}(w:e.own=true):a∈e.fp o↔o∣.ref a:=by
 cases e with
 | no=>cases w
 | im r x=>cases w
 | mu r xs=>exact ck
 | di kvs=>exact ck
 | ob B=>cases w
theorem ar.new (E:`C)(i:Nat)(e:Ent)(a:Addr)(h:Z[i]?∣e)(w:e.own=true)(ha:(σ[i]?).join∣.ref a):H0 a=none:=E.nw i e a h ((Ent.r9 w).mpr ha)
theorem Ent.fG {e:Ent}(h:e.ok K H R o)(ha:a∈e.fp o):H a≠none/\R a=none:=by
 cases e with
 | no=>cases ha
 | im r x=>cases ha
 | mu r xs=>
   let⟨b,vs,e,q,n,_⟩:=h;rw[Ent.fp,ck,e] at ha;cases ha
   exact⟨by rw[q];exact UL _,n⟩
 | di kvs=>
   let⟨b,e,q,n⟩:=h;rw[Ent.fp,ck,e] at ha;cases ha
   exact⟨by rw[q];exact UL _,n⟩
 | ob B=>let⟨⟨v,e,q⟩,n⟩:=h;exact⟨B.has q a ha,n a ha⟩
theorem Ent.ok.loc {e:Ent}(h:e.ok K H R o)(hH:∀a∈e.fp o,H' a=H a)(hR:av R R')(hn:∀a∈e.fp o,R' a=none):e.ok K H' R' o:=by
 cases e with
 | no=>trivial
 | im r y=>let⟨v,e,q⟩:=h;exact⟨v,e,r.mono hR q⟩
 | mu r xs=>
   let⟨a,vs,e,q,n,p⟩:=h;let ha:a∈Ent.fp (.mu r xs) o:=ck.mpr e;exact⟨a,vs,e,(hH a ha).trans q,hn a ha,Paired.map (λ_ _=>r.mono hR) p⟩
 | di kvs=>
   let⟨a,e,q,n⟩:=h;let ha:a∈Ent.fp (.di kvs) o:=ck.mpr e;exact⟨a,e,(hH a ha).trans q,hn a ha⟩
 | ob B=>let⟨⟨v,e,q⟩,n⟩:=h;exact⟨⟨v,e,B.loc hH hR q⟩,hn⟩
theorem Ent.ok.grow {e:Ent}(h:e.ok K H R o)(x:Ext H R H' R'):e.ok K H' R' o:=by
 refine h.loc (λa ha=>?_) x.r (λa ha=>?_)
 ·cases q:H a with
  | none=>exact Xt q (Ent.fG h ha).1
  | some u=>exact x.h _ _ q
 ·let⟨h1,h2⟩:=Ent.fG h ha;exact(x.old a h1).trans h2
theorem ar.grow (E:`C)(x:Ext H R H' R'):ar K σ H0 R0 H' R' Z:=
 ⟨E.ext.trans x,λi e h=>(E.ent i e h).grow x,E.nw,E.ds,E.len⟩
theorem ar.sub (E:`C):av R H:=E.ext.s
def Off (a:Addr)(σ:St)(Z:Ga):Prop:=∀(i:Nat)(e:Ent),Z[i]?∣e->a∉e.fp (σ[i]?).join
theorem ar.off (E:`C)(h:H a=none):Off a σ Z:=λi e q w=>(Ent.fG (E.ent i e q) w).1 h
theorem set_at.{v}{β:Type v}{l:List β}{i:Nat}{y:β}{j:Nat}{e:β}(q:(l.set i y)[j]?∣e):(j=i/\e=y/\i<l.length)∨(j≠i/\l[j]?∣e):=by
 by_cases hj:j=i
 ·subst hj;let hl:j<l.length:=by
   have:=RP.mp q;simpa using this.1
  rw[R8 hl] at q;exact .inl ⟨rfl,(Option.some.inj q).symm,hl⟩
 ·rw[Ss (UJ hj)] at q;exact .inr ⟨hj,q⟩
theorem ar.setG (E:`C)(i:Nat)(ho:en.ok K H R (some v))(h0:∀a∈en.fp (some v),H0 a=none)(hf:∀a∈en.fp (some v),∀(j:Nat)(e:Ent),j≠i->Z[j]?∣e->a∉e.fp (σ[j]?).join):
 ar K (σ.set i (some v)) H0 R0 H R (Z.set i en):=by
 let key:∀(j:Nat)(e:Ent),(Z.set i en)[j]?∣e->(j=i/\e=en/\((σ.set i (some v))[j]?).join∣v)∨(j≠i/\Z[j]?∣e/\(σ.set i (some v))[j]?=σ[j]?):=λj e q=>by
  obtain⟨rfl,rfl,hl⟩ | ⟨hj,q⟩:=set_at q
  ·exact .inl ⟨rfl,rfl,by rw[R8 (by rw[← E.len];exact hl)];rfl⟩
  ·exact .inr ⟨hj,q,Ss (UJ hj)⟩
 refine⟨E.ext,λj e q=>?_,λj e a q w=>?_,λj k e e' a q q' w w'=>?_,by rw[SF,SF];exact E.len⟩
 ·obtain⟨_,rfl,q2⟩ | ⟨_,q1,q2⟩:=key j e q
  ·rw[q2];exact ho
  ·rw[q2];exact E.ent j e q1
 ·obtain⟨_,rfl,q2⟩ | ⟨_,q1,q2⟩:=key j e q
  ·rw[q2] at w;exact h0 a w
  ·rw[q2] at w;exact E.nw j e a q1 w
 ·obtain⟨hj,rfl,q2⟩ | ⟨hj,q1,q2⟩:=key j e q
  ·obtain⟨hk,rfl,q2'⟩ | ⟨hk,YR,q2'⟩:=key k e' q'
   ·rw[hj,hk]
   ·rw[q2] at w;rw[q2'] at w';exact Xt w' (hf a w k e' hk YR)
  ·obtain⟨hk,rfl,q2'⟩ | ⟨hk,YR,q2'⟩:=key k e' q'
   ·rw[q2] at w;rw[q2'] at w';exact Xt w (hf a w' j e hj q1)
   ·rw[q2] at w;rw[q2'] at w';exact E.ds j k e e' a q1 YR w w'
theorem ar.set (E:`C)(i:Nat){v:V}{x:α}(h:r.R K R v x):ar K (σ.set i (some v)) H0 R0 H R (Z.set i (.im r x)):=
 E.setG i ⟨v,rfl,h⟩ (λa w=>by cases w) λa w=>by cases w
theorem ar.xy (E:`C)(i:Nat){u:HO}(ho:en.ok K H R (some (.ref a)))(h0:H0 a=none)(hf:∀(j:Nat)(e:Ent),j≠i->Z[j]?∣e->a∉e.fp (σ[j]?).join)(hfp:en.fp (some (.ref a))=[a]:=by rfl):
 ar K (σ.set i (some (.ref a))) H0 R0 H R (Z.set i en):=
 E.setG i ho (λb w=>by rw[hfp,RU] at w;rw[w];exact h0) λb w=>by rw[hfp,RU] at w;rw[w];exact hf
theorem ar.lF (E:`C){e0:Ent}(hi:Z[i]?∣e0)(ha:a∈e0.fp (σ[i]?).join)(ho:en.ok K (L2.upd H a u) R (σ[i]?).join)(Ya:∀b∈en.fp (σ[i]?).join,b∈e0.fp (σ[i]?).join∨(H0 b=none/\Off b σ Z)):ar K σ H0 R0 (L2.upd H a u) R (Z.set i en):=by
 let h0:H0 a=none:=E.nw i e0 a hi ha;let hR:R a=none:=(Ent.fG (E.ent i e0 hi) ha).2;refine⟨⟨λb o q=>?_,E.ext.r,λb o q=>?_,E.ext.old⟩,λj e q=>?_,λj e b q w=>?_,λj k e e' b q q' w w'=>?_,by rw[SF];exact E.len⟩
 ·rw[aG (dq q h0)];exact E.ext.h b o q
 ·rw[aG (dq q hR)];exact E.ext.s b o q
 ·obtain⟨rfl,rfl,_⟩ | ⟨hj,q1⟩:=set_at q
  ·exact ho
  ·refine(E.ent j e q1).loc (λb hb=>aG λz=>hj ?_) `S λb hb=>(Ent.fG (E.ent j e q1) hb).2;rw[z] at hb;exact E.ds j i e e0 a q1 hi hb ha
 ·obtain⟨rfl,rfl,_⟩ | ⟨hj,q1⟩:=set_at q
  ·obtain z | z:=Ya b w
   ·exact E.nw _ _ b hi z
   ·exact z.1
  ·exact E.nw j e b q1 w
 ·obtain⟨rfl,rfl,_⟩ | ⟨hj,q1⟩:=set_at q
  ·obtain⟨rfl,rfl,_⟩ | ⟨hk,YR⟩:=set_at q'
   ·rfl
   ·obtain z | z:=Ya b w
    ·exact E.ds _ _ _ _ b hi YR z w'
    ·exact Xt w' (z.2 k e' YR)
  ·obtain⟨rfl,rfl,_⟩ | ⟨hk,YR⟩:=set_at q'
   ·obtain z | z:=Ya b w'
    ·exact E.ds _ _ _ _ b q1 hi w z
    ·exact Xt w (z.2 j e q1)
   ·exact E.ds _ _ _ _ b q1 YR w w'
theorem ar.upd (E:`C){e0 en:Ent}(hi:Z[i]?∣e0)(w0:e0.own=true)(ha:(σ[i]?).join∣.ref a)(hR:R a=none)(ho:en.ok K (L2.upd H a u) R (some (.ref a)))(hfp:en.fp (some (.ref a))=[a]:=by rfl):
 ar K σ H0 R0 (L2.upd H a u) R (Z.set i en):=
 E.lF hi ((Ent.r9 w0).mpr ha) (by rw[ha];exact ho) λb w=>.inl (by rw[ha,hfp,RU] at w;rw[w];exact(Ent.r9 w0).mpr ha)
theorem ar.rY (E:`C)(ha:H a∣u)(hR:R a=none)(h0:H0 a=none)(off:Off a σ Z):ar K σ H0 R0 H (L2.upd R a u) Z:=by
 let s2:av R (L2.upd R a u):=av.fresh hR _;refine⟨⟨E.ext.h,E.ext.r.trans s2,λb o qb=>?_,λb hb=>?_⟩,λi e qe=>?_,E.nw,E.ds,E.len⟩
 ·by_cases hb:b=a
  ·subst hb;rw[aD] at qb;cases qb;exact ha
  ·rw[aG hb] at qb;exact E.ext.s b o qb
 ·rw[aG (show b≠a from λe=>hb (by rw[e];exact h0))];exact E.ext.old b hb
 ·refine(E.ent i e qe).loc (λ_ _=>rfl) s2 λb hb=>?_;rw[aG (show b≠a from λz=>off i e qe (z▸hb))];exact(Ent.fG (E.ent i e qe) hb).2
theorem ar.tell (E:`C){e0:Ent}(hi:Z[i]?∣e0)(ho:en.ok K H R (σ[i]?).join)(Ya:∀b∈en.fp (σ[i]?).join,b∈e0.fp (σ[i]?).join):ar K σ H0 R0 H R (Z.set i en):=by
 refine⟨E.ext,λj e q=>?_,λj e b q w=>?_,λj k e e' b q q' w w'=>?_,by rw[SF];exact E.len⟩
 ·obtain⟨rfl,rfl,_⟩ | ⟨hj,q1⟩:=set_at q
  ·exact ho
  ·exact E.ent j e q1
 ·obtain⟨rfl,rfl,_⟩ | ⟨hj,q1⟩:=set_at q
  ·exact E.nw _ _ b hi (Ya b w)
  ·exact E.nw j e b q1 w
 ·obtain⟨rfl,rfl,_⟩ | ⟨hj,q1⟩:=set_at q
  ·obtain⟨rfl,rfl,_⟩ | ⟨hk,YR⟩:=set_at q'
   ·rfl
   ·exact E.ds _ _ _ _ b hi YR (Ya b w) w'
  ·obtain⟨rfl,rfl,_⟩ | ⟨hk,YR⟩:=set_at q'
   ·exact E.ds _ _ _ _ b q1 hi w (Ya b w')
   ·exact E.ds _ _ _ _ b q1 YR w w'
noncomputable def Wk:Ga->Ga->Prop
 | [],[]=>True
 | e::r,e'::r'=>(e'=e∨e'= .no)/\Wk r r'
 | _,_=>False
theorem Wk.len:∀{Z Γ':Ga},Wk Z Γ'->Γ'.length=Z.length
 | [],[],_=>rfl
 | _::_,_::_,h=>by rw[Sb,Sb,Wk.len h.2]
theorem Wk.at:∀{Z Γ':Ga},Wk Z Γ'->∀(i:Nat)(e:Ent),Γ'[i]?∣e->e= .no∨Z[i]?∣e
 | [],[],_,i,e,q=>by simp at q
 | a::_,b::_,h,0,e,q=>by
   simp at q;obtain z | z:=h.1
   ·right;simp[← q,z]
   ·left;rw[← q,z]
 | a::r,b::r',h,i+1,e,q=>by
   simp at q;have:=Wk.at h.2 i e q;simpa using this
theorem Wk.refl:∀Z:Ga,Wk Z Z
 | []=>trivial
 | _::r=>⟨.inl rfl,Wk.refl r⟩
theorem ar.weak (E:`C)(w:Wk Z Γ'):ar K σ H0 R0 H R Γ':=by
 refine⟨E.ext,λi e q=>?_,λi e a q z=>?_,λi j e e' a q q' z z'=>?_,w.len.trans E.len⟩
 ·obtain rfl | q:=w.at i e q
  ·trivial
  ·exact E.ent i e q
 ·obtain rfl | q:=w.at i e q
  ·cases z
  ·exact E.nw i e a q z
 ·obtain rfl | q:=w.at i e q
  ·cases z
  ·obtain rfl | q':=w.at j e' q'
   ·cases z'
   ·exact E.ds i j e e' a q q' z z'
end
variable {Γ1 Γ2 Γ3:Ga}{β γ:Type}{pos:Pos}{j:Nat}{n:Int}{b c:Expr}{op:CmpOp}{x:Str}{ys:`u}{ra:Rep α}{rb:Rep β}{rc:Rep γ}{z:γ}
section
def EV (X:Cx)(e:Expr)(Z:Ga){α:Type}(r:Rep α)(y:α)(Γ':Ga):Prop:=
 ∀(σ:St)(H0 R0 H R:Hp),ar X.K σ H0 R0 H R Z->∀Q:VK,(∀v H' R',ar X.K σ H0 R0 H' R' Γ'->av R R'->r.R X.K R' v y->Q v H')->fX X e σ H Q
def aZ (X:Cx)(e:Expr)(Z:Ga){α:Type}(r:Rep α)(ys:`u)(Γ':Ga):Prop:=
 ∀(σ:St)(H0 R0 H R:Hp),ar X.K σ H0 R0 H R Z->∀Q:VK,(∀a vs H' R',ar X.K σ H0 R0 H' R' Γ'->av R R'->H' a∣.lst vs->R' a=none->H0 a=none->Off a σ Γ'->PySem.Paired (r.R X.K R') vs ys->ys.length<=UZ->Q (.ref a) H')->fX X e σ H Q
def TV (X:Cx)(e:Expr)(Z:Ga)(b:Bool)(Γ':Ga):Prop:=
 ∀(σ:St)(H0 R0 H R:Hp),ar X.K σ H0 R0 H R Z->∀Q:Bool->Hp->Prop,(∀H' R',ar X.K σ H0 R0 H' R' Γ'->av R R'->Q b H')->D4 X e σ H Q
def TW (X:Cx)(e:Expr)(Z:Ga)(b:Bool)(Γ':Ga):Prop:=
 ∀(σ:St)(H0 R0 H R:Hp),ar X.K σ H0 R0 H R Z->∀Q:Bool->Hp->Prop,(∀H' R',ar X.K σ H0 R0 H' R' Γ'->av R R'->Q b H')->Ef X e σ H Q
def TF (X:Cx)(es:Rr)(Z:Ga)(b:Bool)(Γ':Ga):Prop:=
 ∀(σ:St)(H0 R0 H R:Hp),ar X.K σ H0 R0 H R Z->∀Q:Bool->Hp->Prop,(∀H' R',ar X.K σ H0 R0 H' R' Γ'->av R R'->Q b H')->oC X es σ H Q
def BG (X:Cx)(tg:Expr){α:Type}(r:Rep α)(bf:α->Ga->Ga):Prop:=
 ∀(σ:St)(H0 R0 H R:Hp)(Z:Ga)(v:V)(x:α),ar X.K σ H0 R0 H R Z->r.R X.K R v x->∀Q:St->Hp->Prop,(∀σ',ar X.K σ' H0 R0 H R (bf x Z)->Q σ' H)->nQ X tg v σ H Q
abbrev RT:=Hp->V->Hp->Hp->Prop
def WS (X:Cx)(Yx:List Stmt)(Z:Ga)(N:Ga->Prop)(T:RT):Prop:=
 ∀(σ:St)(H0 R0 H R:Hp),ar X.K σ H0 R0 H R Z->∀D:Ends,(∀σ' H' R' Γ',ar X.K σ' H0 R0 H' R' Γ'->av R R'->N Γ'->D.nx σ' H')->(∀v H' R',Ext H0 R0 H' R'->T H0 v H' R'->D.rt v H')->vy X Yx D σ H
def W1 (X:Cx)(st:Stmt)(Z:Ga)(N:Ga->Prop)(T:RT):Prop:=
 ∀(σ:St)(H0 R0 H R:Hp),ar X.K σ H0 R0 H R Z->∀D:Ends,(∀σ' H' R' Γ',ar X.K σ' H0 R0 H' R' Γ'->av R R'->N Γ'->D.nx σ' H')->(∀v H' R',Ext H0 R0 H' R'->T H0 v H' R'->D.rt v H')->Fp X st D σ H
def cP (K:W7){β:Type}(r:Rep β)(P:β->Prop):RT:=λ_ v _ R'=>∃y,r.R K R' v y/\P y
def C5 (K:W7){β:Type}(r:Rep β)(P:List β->Prop):RT:=λH0 v H' R'=>∃a vs ys,v= .ref a/\H0 a=none/\H' a∣.lst vs/\R' a=none/\PySem.Paired (r.R K R') vs ys/\ys.length<=UZ/\P ys
theorem aZ.im (h:aZ X e Z r ys Γ1):EV X e Z (ae r) ys Γ1:=by
 intro σ H0 R0 H R E Q q;refine h σ H0 R0 H R E Q λa vs H' R' E' s1 ha hR h0 off p z=>?_;let s2:av R' (upd R' a (.lst vs)):=av.fresh hR _;exact q (.ref a) H' (upd R' a (.lst vs)) (E'.rY ha hR h0 off) `E ⟨a,vs,rfl,aD,Paired.map (λ_ _=>r.mono s2) p,z⟩
theorem EV.cast {y y':α}(h:EV X e Z r y Γ1)(e1:y=y'):EV X e Z r y' Γ1:=e1▸h
theorem TV.cast {b b':Bool}(h:TV X e Z b Γ1)(e1:b=b'):TV X e Z b' Γ1:=e1▸h
theorem aa (i:Nat){x:Str}{y:α}(hΓ:Z[i]?∣.im r y)(hN:`o):EV X (.Name x pos) Z r y Z:=by
 intro σ H0 R0 H R E Q q;let⟨v,e,h⟩:=E.ent i _ hΓ;refine eS (aV hN) ⟨v,?_,q v H R E `S h⟩;cases es:σ[i]? with
 | none=>rw[es] at e;cases e
 | some o=>rw[es] at e;exact congrArg some e
theorem ev_int {i:Int}:EV X (.Constant (.int i) j pos) Z ag i Z:=λ_ _ _ _ _ E _ q=>eS xT (q _ _ _ E `S rfl)
theorem jH {b:Bool}:EV X (.Constant (.bool b) j pos) Z c7 b Z:=λ_ _ _ _ _ E _ q=>eS AI (q _ _ _ E `S rfl)
theorem fY {x:Str}{t:Tok}(hm:X.mg x∣.int n t)(hg:Gl X x:=by rfl)(hd:Yz x:=by decide):EV X (.Name x pos) Z ag n Z:=
 λ_ _ _ _ _ E _ q=>eS (jC (v:=.int n) hg hm ⟨t,rfl⟩ hd) (q (.int n) _ _ E `S rfl)
theorem kC {op:Operator}{r2:R2}{a:Expr}{x:α}{y:β}(ho:fk X (Vu op) r2)(ha:EV X a Z ra x Γ1)(hb:EV X b Γ1 rb y Γ2)(hz:∀(R:Hp) v u H Q,ra.R X.K R v x->rb.R X.K R u y->(∀w,rc.R X.K R w z->Q w H)->r2 v u H Q):EV X (.BinOp a op b pos) Z rc z Γ2:=by
 intro σ H0 R0 H R E Q q;refine eS (Hf ho aO aO) `l;exact hz R2 v u H2 _ (ra.mono s2 e1) e2 λw hw=>q w H2 R2 E2 `E hw
section
variable {a:Expr}{x y z:Int}
theorem bY (ha:EV X a Z ag x Γ1)(hb:EV X b Γ1 ag y Γ2):EV X (.BinOp a .Add b pos) Z ag (x+y) Γ2:=kC Lh ha hb λR v u H Q e1 e2 q=>⟨x,y,e1,e2,q _ rfl⟩
theorem gP (ha:EV X a Z ag x Γ1)(hb:EV X b Γ1 ag y Γ2):EV X (.BinOp a .Sub b pos) Z ag (x-y) Γ2:=kC JX ha hb λR v u H Q e1 e2 q=>⟨x,y,e1,e2,q _ rfl⟩
theorem Dc (ha:EV X a Z ag x Γ1)(hb:EV X b Γ1 ag y Γ2)(h:AU x y):EV X (.BinOp a .Mult b pos) Z ag (x*y) Γ2:=kC Mo ha hb λR v u H Q e1 e2 q=>⟨x,y,e1,e2,h,q _ rfl⟩
theorem cU (ha:EV X a Z ag x Γ1)(hb:EV X b Γ1 ag y Γ2)(h:0<y):EV X (.BinOp a .Mod b pos) Z ag (x%y) Γ2:=kC JJ ha hb λR v u H Q e1 e2 q=>⟨x,y,e1,e2,h,q _ rfl⟩
theorem ni (ha:EV X a Z ag x Γ1)(hb:EV X b Γ1 ag y Γ2)(h:Kq x y):EV X (.BinOp a .FloorDiv b pos) Z ag (x/y) Γ2:=kC Hg ha hb λR v u H Q e1 e2 q=>⟨x,y,e1,e2,h,q _ rfl⟩
theorem xY (ha:EV X a Z ag x Γ1)(hb:EV X b Γ1 ag y Γ2)(h:JY x y):EV X (.BinOp a .Pow b pos) Z ag (x ^ y.toNat) Γ2:=kC JF ha hb λR v u H Q e1 e2 q=>⟨x,y,e1,e2,h,q _ rfl⟩
theorem bR (ha:EV X a Z ag x Γ1):EV X (.UnaryOp .USub a pos) Z ag (-x) Γ1:=by
 intro σ H0 R0 H R E Q q;exact eS (MY Lm aO) (ha σ H0 R0 H R E _ λv H1 R1 E1 s1 e1=>⟨x,e1,q _ H1 R1 E1 s1 rfl⟩)
end
structure iY (X:Cx)(op:CmpOp){α β:Type}(ra:Rep α)(rb:Rep β)(x:α)(y:β)(k:Bool):Prop where
 r2:∃r,fk X (Vb op) r/\∀(R H:Hp) v u Q,av R H->ra.R X.K R v x->rb.R X.K R u y->Q (.bl k) H->r v u H Q
theorem jk {a:Expr}{x:α}{y:β}{k:Bool}(c:iY X op ra rb x y k)(ha:EV X a Z ra x Γ1)(hb:EV X b Γ1 rb y Γ2)(hm:Vn op b=false:=by first | exact tI _ | with_unfolding_all rfl):
 EV X (.Compare a [op] [b] pos) Z c7 k Γ2:=by
 let⟨r,ho,hr⟩:=c.r2;intro σ H0 R0 H R E Q q;refine eS (IG ho aO aO hm) `l;exact hr R2 H2 v u _ E2.sub (ra.mono s2 e1) e2 (q _ H2 R2 E2 `E rfl)
theorem ay {a:Expr}{x:α}{y:β}{k:Bool}(c:iY X op ra rb x y k)(ha:EV X a Z ra x Γ1)(hb:EV X b Γ1 rb y Γ2)(hm:Vn op b=false:=by first | exact tI _ | with_unfolding_all rfl):
 TV X (.Compare a [op] [b] pos) Z k Γ2:=by
 let⟨r,ho,hr⟩:=c.r2;intro σ H0 R0 H R E Q q;refine tS (HK ho aO aO hm) `l;exact hr R2 H2 v u _ E2.sub (ra.mono s2 e1) e2 ⟨k,rfl,q H2 R2 E2 `E⟩
section
variable {x y:Int}
theorem n5:iY X .Lt ag ag x y (decide (x<y)):=⟨_,Ox,λR H v u Q _ e1 e2 q=>⟨x,y,e1,e2,q⟩⟩
theorem wU:iY X .LtE ag ag x y (decide (x<=y)):=⟨_,N4,λR H v u Q _ e1 e2 q=>⟨x,y,e1,e2,q⟩⟩
theorem iJ:iY X .Gt ag ag x y (decide (y<x)):=⟨_,Nu,λR H v u Q _ e1 e2 q=>⟨x,y,e1,e2,q⟩⟩
theorem K8:iY X .GtE ag ag x y (decide (y<=x)):=⟨_,Ob,λR H v u Q _ e1 e2 q=>⟨x,y,e1,e2,q⟩⟩
theorem gi:iY X .Eq ag ag x y (decide (x=y)):=⟨_,Gw,λR H v u Q _ e1 e2 q=>by
 cases e1;cases e2
 exact⟨rfl,by rw[show decide (V.int x=V.int y)=decide (x=y) by rw[pY];exact Rz x y];exact q⟩⟩
theorem Fb:iY X .NotEq ag ag x y (!decide (x=y)):=⟨_,AG,λR H v u Q _ e1 e2 q=>by
 cases e1;cases e2
 exact⟨rfl,by rw[show decide (V.int x=V.int y)=decide (x=y) by rw[pY];exact Rz x y];exact q⟩⟩
theorem vJ {x y:Bool}:iY X .NotEq c7 c7 x y (!decide (x=y)):=⟨_,AG,λR H v u Q _ e1 e2 q=>by
 cases e1;cases e2
 exact⟨rfl,by rw[show decide (V.bl x=V.bl y)=decide (x=y) by rw[xH];exact Rz x y];exact q⟩⟩
end
variable {a:Expr}{x:Bool}{y:Bool}{rest:Rr}
theorem qX {Zj:CmpOp}{x:α}{y:β}{k k':Bool}(c1:iY X op ra rb x y k)(c2:iY X Zj rb rc y z k')(ha:EV X a Z ra x Z)(hb:EV X b Z rb y Z)(hc:EV X c Z rc z Z)(hm:lastMarks [op,Zj] [b,c]=false:=by with_unfolding_all rfl):EV X (.Compare a [op,Zj] [b,c] pos) Z c7 (k&&k') Z:=by
 let⟨r,ho,hr⟩:=c1.r2;let⟨r',Y4,YK⟩:=c2.r2;intro σ H0 R0 H R E Q q;refine eS (FU ho Y4 aO aO aO hm) `l;refine hr R2 H2 v u _ E2.sub (ra.mono s2 e1) e2 ⟨k,rfl,?_⟩;cases k with
 | false=>exact om (q _ H2 R2 E2 `E rfl)
 | true=>exact oB (hc σ H0 R0 H2 R2 E2 _ λw H3 R3 E3 s3 e3=>YK R3 H3 u w _ E3.sub (rb.mono s3 e2) e3 (q _ H3 R3 E3 (s1.trans (s2.trans s3)) rfl))
theorem Ey {Zj:CmpOp}{x:α}{y:β}{k k':Bool}(c1:iY X op ra rb x y k)(c2:iY X Zj rb rc y z k')(ha:EV X a Z ra x Z)(hb:EV X b Z rb y Z)(hc:EV X c Z rc z Z)(hm:lastMarks [op,Zj] [b,c]=false:=by with_unfolding_all rfl):TV X (.Compare a [op,Zj] [b,c] pos) Z (k&&k') Z:=by
 let⟨r,ho,hr⟩:=c1.r2;let⟨r',Y4,YK⟩:=c2.r2;intro σ H0 R0 H R E Q q;refine tS (FH ho Y4 aO aO aO hm) `l;refine hr R2 H2 v u _ E2.sub (ra.mono s2 e1) e2 ⟨k,rfl,?_⟩;cases k with
 | false=>exact om ⟨false,rfl,q H2 R2 E2 `E⟩
 | true=>exact oB (hc σ H0 R0 H2 R2 E2 _ λw H3 R3 E3 s3 e3=>YK R3 H3 u w _ E3.sub (rb.mono s3 e2) e3 ⟨k',rfl,q H3 R3 E3 (s1.trans (s2.trans s3))⟩)
theorem sT {op:BoolOp}{x:α}(h:EV X a Z r x Γ1):EV X (.BoolOp op [a] pos) Z r x Γ1:=λσ H0 R0 H R E Q q=>eS (K9 aO) (h σ H0 R0 H R E Q q)
theorem pf (ha:EV X a Z c7 x Z)(hb:x=true->EV X (.BoolOp .And (b::rest) pos) Z c7 y Z):EV X (.BoolOp .And (a::b::rest) pos) Z c7 (x&&y) Z:=by
 intro σ H0 R0 H R E Q q;refine eS (JP aO aO) (ha σ H0 R0 H R E _ λv H1 R1 E1 s1 e1=>⟨x,e1,?_⟩);cases x with
 | false=>exact om (q _ H1 R1 E1 s1 rfl)
 | true=>exact oB (hb rfl σ H0 R0 H1 R1 E1 _ λw H3 R3 E3 s3 e3=>q w H3 R3 E3 (s1.trans s3) e3)
theorem yi (ha:EV X a Z c7 x Γ1):EV X (.UnaryOp .Not a pos) Z c7 (!x) Γ1:=by
 intro σ H0 R0 H R E Q q;exact eS (JN aO) (ha σ H0 R0 H R E _ λv H1 R1 E1 s1 e1=>⟨x,e1,q _ H1 R1 E1 s1 rfl⟩)
theorem gu (ha:TV X a Z x Γ1):TV X (.UnaryOp .Not a pos) Z (!x) Γ1:=by
 intro σ H0 R0 H R E Q q;exact tS (LC r6) (ha σ H0 R0 H R E _ λH1 R1 E1 s1=>q H1 R1 E1 s1)
theorem TW.tv {b:Bool}(h:TW X e Z b Γ1):TV X e Z b Γ1:=λσ H0 R0 H R E Q q=>tS (Jx.pt) (h σ H0 R0 H R E Q q)
theorem eL (ha:TV X a Z x Γ1):TW X (.BoolOp .And [a] pos) Z x Γ1:=λσ H0 R0 H R E Q q=>wS (IK r6) (ha σ H0 R0 H R E Q q)
theorem jt (ha:TV X a Z x Γ1):TW X (.BoolOp .Or [a] pos) Z x Γ1:=λσ H0 R0 H R E Q q=>wS (Kc r6) (ha σ H0 R0 H R E Q q)
theorem cZ (ha:TV X a Z x Z)(hb:x=true->TW X (.BoolOp .And (b::rest) pos) Z y Z):TW X (.BoolOp .And (a::b::rest) pos) Z (x&&y) Z:=by
 intro σ H0 R0 H R E Q q;refine wS (Lz r6 Jx) (ha σ H0 R0 H R E _ λH1 R1 E1 s1=>?_);cases x with
 | false=>exact om (q H1 R1 E1 s1)
 | true=>exact oB (hb rfl σ H0 R0 H1 R1 E1 _ λH3 R3 E3 s3=>q H3 R3 E3 (s1.trans s3))
theorem jb (ha:TV X a Z x Z)(hb:x=false->TW X (.BoolOp .Or (b::rest) pos) Z y Z):TW X (.BoolOp .Or (a::b::rest) pos) Z (x ||y) Z:=by
 intro σ H0 R0 H R E Q q;refine wS (OA r6 Jx) (ha σ H0 R0 H R E _ λH1 R1 E1 s1=>?_);cases x with
 | true=>exact oB (q H1 R1 E1 s1)
 | false=>exact om (hb rfl σ H0 R0 H1 R1 E1 _ λH3 R3 E3 s3=>q H3 R3 E3 (s1.trans s3))
theorem bU {k:Bool}(ha:EV X a Z c7 k Γ1)(he:∀whole,VA a X.env whole=(do let v ← whole;VG a.pos;Vk [v] (truthy v)):=by intro _;rfl):TV X a Z k Γ1:=by
 intro σ H0 R0 H R E Q q;exact tS (JL aO he) (ha σ H0 R0 H R E _ λv H1 R1 E1 s1 e1=>⟨k,e1,q H1 R1 E1 s1⟩)
theorem dv:TF X [] Z true Z:=λσ H0 R0 H R E Q q=>fS KD (q H R E `S)
theorem hU {b:Bool}(h:TV X c Z b Γ1):TF X [c] Z b Γ1:=λσ H0 R0 H R E Q q=>fS (Kf r6) (h σ H0 R0 H R E Q q)
theorem lU {k:Bool}{x y:α}(hc:TV X c Z k Γ1)(ha:k=true->EV X a Γ1 r x Γ2)(hb:k=false->EV X b Γ1 r y Γ2):EV X (.IfExp c a b pos) Z r (if k then x else y) Γ2:=by
 intro σ H0 R0 H R E Q q;refine eS (Fg r6 aO aO) (hc σ H0 R0 H R E _ λH1 R1 E1 s1=>?_);cases k with
 | true=>exact oB (ha rfl σ H0 R0 H1 R1 E1 _ λv H3 R3 E3 s3 e3=>q v H3 R3 E3 (s1.trans s3) e3)
 | false=>exact om (hb rfl σ H0 R0 H1 R1 E1 _ λv H3 R3 E3 s3 e3=>q v H3 R3 E3 (s1.trans s3) e3)
end
variable {δ:Type}{es:Rr}{xs:`u}{p1 p2:Pos}{r':Rep β}{F:α->β->Prop}
section
variable {i:Int}{a:Expr}{x:α}
structure Pk:Type 1 where
 {α:Type}
 r:Rep α
 x:α
inductive mq (K:W7) (R:Hp):List V->List Pk->Prop
 | nil:mq K R [] []
 | cons {v:V} {vs:`R} {p:Pk} {ps:List Pk}:p.r.R K R v p.x->mq K R vs ps->mq K R (v::vs) (p::ps)
def HA (X:Cx)(es:Rr)(Z:Ga)(ps:List Pk)(Γ':Ga):Prop:=
 ∀(σ:St)(H0 R0 H R:Hp),ar X.K σ H0 R0 H R Z->∀Q:List V->Hp->Prop,(∀vs H' R',ar X.K σ H0 R0 H' R' Γ'->av R R'->mq X.K R' vs ps->Q vs H')->AL X es σ H Q
theorem ax:HA X [] Z [] Z:=λσ H0 R0 H R E Q q=>aS bq (q [] H R E `S .nil)
theorem ah {ps:List Pk}(he:EV X e Z r x Γ1)(hr:HA X es Γ1 ps Γ2)(hs:dh X e es:=by rfl):HA X (e::es) Z (⟨r,x⟩::ps) Γ2:=by
 intro σ H0 R0 H R E Q q;refine aS (aI aO nj hs) (he σ H0 R0 H R E _ λv H1 R1 E1 s1 e1=>hr σ H0 R0 H1 R1 E1 _ λvs H2 R2 E2 s2 e2=>?_);exact q (v::vs) H2 R2 E2 `E (.cons (r.mono s2 e1) e2)
def EA (X:Cx)(es:Rr)(Z:Ga){α:Type}(r:Rep α)(ys:`u)(Γ':Ga):Prop:=
 ∀(σ:St)(H0 R0 H R:Hp),ar X.K σ H0 R0 H R Z->∀Q:List V->Hp->Prop,(∀vs H' R',ar X.K σ H0 R0 H' R' Γ'->av R R'->PySem.Paired (r.R X.K R') vs ys->Q vs H')->AL X es σ H Q
theorem aK:EA X [] Z r [] Z:=λσ H0 R0 H R E Q q=>aS bq (q [] H R E `S .nil)
theorem ak (he:EV X e Z r x Γ1)(hr:EA X es Γ1 r ys Γ2)(hs:dh X e es:=by rfl):EA X (e::es) Z r (x::ys) Γ2:=by
 intro σ H0 R0 H R E Q q;refine aS (aI aO nj hs) (he σ H0 R0 H R E _ λv H1 R1 E1 s1 e1=>hr σ H0 R0 H1 R1 E1 _ λvs H2 R2 E2 s2 e2=>?_);exact q (v::vs) H2 R2 E2 `E (.cons (r.mono s2 e1) e2)
theorem aN (h:EA X es Z r ys Γ1)(hz:ys.length<=UZ):aZ X (.List es pos) Z r ys Γ1:=by
 intro σ H0 R0 H R E Q q;refine eS (sM nj) (h σ H0 R0 H R E _ λvs H1 R1 E1 s1 p1=>⟨by rw[p1.length];exact hz,λp hp=>?_⟩);exact q p vs _ R1 (E1.grow (Ext.d6 E1.sub hp _)) s1 aD (E1.sub.free hp) (E1.ext.h.free hp) (E1.off hp) p1 hz
theorem gX {k:Nat}{y:β}(h:HA X [a,b] Z [⟨r,x⟩,⟨r',y⟩] Γ1):EV X (.Tuple [a,b] k pos) Z (cz r r') (x,y) Γ1:=by
 intro σ H0 R0 H R E Q q;refine eS (si nj) (h σ H0 R0 H R E _ λvs H1 R1 E1 s1 p1=>?_);obtain⟨h1,h2⟩:∃v1 v2,vs=[v1,v2]/\r.R X.K R1 v1 x/\r'.R X.K R1 v2 y:=by
  cases p1 with
  | cons a1 t=>cases t with
    | cons a2 t2=>cases t2;exact⟨_,_,rfl,a1,a2⟩
 let⟨v2,rfl,e1,e2⟩:=h2;refine⟨by show 2<=UZ;decide,λp hp=>?_⟩;let s2:av R1 (upd R1 p (.tup [h1,v2])):=av.fresh (E1.sub.free hp) _;exact q _ _ (upd R1 p (.tup [h1,v2])) (E1.grow (Ext.fresh E1.sub hp _)) `E ⟨p,_,_,rfl,aD,r.mono s2 e1,r'.mono s2 e2⟩
theorem LN {d:Expr}{k:Nat}{x y z w:Int}(h:HA X [a,b,c,d] Z [⟨ag,x⟩,⟨ag,y⟩,⟨ag,z⟩,⟨ag,w⟩] Γ1):EV X (.Tuple [a,b,c,d] k pos) Z dU (x,y,z,w) Γ1:=by
 intro σ H0 R0 H R E Q q;refine eS (si nj) (h σ H0 R0 H R E _ λvs H1 R1 E1 s1 p1=>?_);let e:vs=[.int x,.int y,.int z,.int w]:=by
  cases p1 with
  | cons a1 t=>cases t with
    | cons a2 t=>cases t with
      | cons a3 t=>cases t with
        | cons a4 t=>cases t;cases a1;cases a2;cases a3;cases a4;rfl
 subst e;refine⟨by show 4<=UZ;decide,λp hp=>?_⟩;exact q _ _ (upd R1 p _) (E1.grow (Ext.fresh E1.sub hp _)) (s1.trans (av.fresh (E1.sub.free hp) _)) ⟨p,rfl,aD⟩
theorem fH {F:α->β->Prop}:∀{vs:`u}{xs:List β},PySem.Paired F vs xs->∀{i:Nat}{y:β},xs[i]?∣y->∃v,vs[i]?∣v/\F v y
 | _,_,.nil,i,y,h=>by simp at h
 | _,_,.cons h t,0,y,e=>by simp at e;subst e;exact⟨_,rfl,h⟩
 | _,_,.cons h t,i+1,y,e=>by
   let⟨v,e1,e2⟩:=fH t (i:=i) (y:=y) (~~~e);exact⟨v,by simpa using e1,e2⟩
theorem i9 {vs:`u}{xs:List β}(p:PySem.Paired F vs xs){y:β}(h:bP xs i∣y):∃v,bP vs i∣v/\F v y:=by
 unfold bP at h ⊢;rw[p.length];cases e:fO xs.length i with
 | none=>rw[e] at h;cases h
 | some j=>rw[e] at h;exact fH p h
theorem gm (h0:0<=i)(h1:i<xs.length):bP xs i=xs[i.toNat]?:=by
 let e:i=((i.toNat:Nat):Int):=`a
 let hl:i.toNat<xs.length:=`a
 let q:bP xs ((i.toNat:Nat):Int)=some xs[i.toNat]:=IZ (RQ hl);rw[← e] at q;rw[q,RQ hl]
theorem aL {y:α}(ha:EV X a Z (ae r) xs Γ1)(hb:EV X b Γ1 ag i Γ2)(h:bP xs i∣y)(hs:dN b:=by exact λ_ _=>rfl):EV X (.Subscript a b pos) Z r y Γ2:=by
 intro σ H0 R0 H R E Q q;refine eS (ir gU aO aO hs) `l;let⟨p,vs,rfl,ha,pp,z⟩:=(ae r).mono s2 e1;let⟨w,e3,e4⟩:=i9 pp h;exact⟨p,vs,i,w,rfl,e2,bt.of (E2.sub _ _ ha),e3,q w H2 R2 E2 `E e4⟩
theorem xZ {xs:Rl}{y:Int}(ha:EV X a Z cO xs Γ1)(hb:EV X b Γ1 ag i Γ2)(h:bP xs i∣y)(hs:dN b:=by exact λ_ _=>rfl):EV X (.Subscript a b pos) Z ag y Γ2:=by
 intro σ H0 R0 H R E Q q;refine eS (ir gU aO aO hs) `l;let⟨p,rfl,ha,z⟩:=cO.mono s2 e1;let e3:bP (xs.map V.int) i∣.int y:=by
  unfold bP at h ⊢;rw[RS];cases e:fO xs.length i with
  | none=>rw[e] at h;cases h
  | some j=>
    rw[e] at h;show(xs.map V.int)[j]?=_;rw[R6,show xs[j]?∣y from h];rfl
 exact⟨p,_,i,_,rfl,e2,E2.sub.seq ha,e3,q _ H2 R2 E2 `E rfl⟩
theorem oV (j:Nat){x:Str}{y:α}(hb:EV X b Z ag i Γ1)(hΓ:Z[j]?∣.mu r xs)(hΓ1:Γ1[j]?∣.mu r xs)(h:bP xs i∣y)(hN:X.N[j]?∣x:=by rfl)(hv:autoParam (BR X.env.scope x) vA1)(hs:dN b:=by exact λ_ _=>rfl)(hd:Yz x:=by decide)(Zz:Cd0 x:=by decide):EV X (.Subscript `h b pos) Z r y Γ1:=by
 intro σ H0 R0 H R E Q q;let⟨a,vs,e,_,_,_⟩:=E.ent j _ hΓ;refine eS (ir gU (aV ⟨hN,hv,hd,Zz⟩) aO hs) ⟨.ref a,?_,hb σ H0 R0 H R E _ λu H2 R2 E2 s2 e2=>?_⟩
 ·cases es:σ[j]? with
  | none=>rw[es] at e;cases e
  | some o=>rw[es] at e;exact congrArg some e
 ·let⟨a',Yg,e',ha,hR,pp⟩:=E2.ent j _ hΓ1;rw[e] at e';cases e'
  let⟨w,e3,e4⟩:=i9 pp h;exact⟨a,Yg,i,w,rfl,e2,bt.of ha,e3,q w H2 R2 E2 s2 e4⟩
section
variable {a:Expr}{w:Row}
theorem nr {x:α}{y:β}(ha:EV X a Z r x Γ1)(k:∀(R:Hp) v,r.R X.K R v x->∃p vs w,v= .ref p/\R p∣.tup vs/\bP vs n∣w/\r'.R X.K R w y):EV X (.Subscript a (.Constant (.int n) j p1) pos) Z r' y Γ1:=by
 intro σ H0 R0 H R E Q q;refine eS (ir Bw aO xT (λ_ _=>rfl)) `A;let⟨p,vs,w,rfl,hp,e3,e4⟩:=k R1 v e1;exact⟨p,vs,n,w,rfl,rfl,d7.of (E1.sub _ _ hp),e3,q w H1 R1 E1 s1 e4⟩
theorem zF (ha:EV X a Z dU w Γ1):EV X (.Subscript a (.Constant (.int 0) j p1) pos) Z ag w.1 Γ1:=nr ha λR v ⟨p,e,h⟩=>⟨p,_,_,e,h,rfl,rfl⟩
theorem HW (ha:EV X a Z dU w Γ1):EV X (.Subscript a (.Constant (.int 1) j p1) pos) Z ag w.2.1 Γ1:=nr ha λR v ⟨p,e,h⟩=>⟨p,_,_,e,h,rfl,rfl⟩
theorem Ad (ha:EV X a Z dU w Γ1):EV X (.Subscript a (.Constant (.int 2) j p1) pos) Z ag w.2.2.1 Γ1:=nr ha λR v ⟨p,e,h⟩=>⟨p,_,_,e,h,rfl,rfl⟩
theorem px (ha:EV X a Z dU w Γ1):EV X (.Subscript a (.Constant (.int 3) j p1) pos) Z ag w.2.2.2 Γ1:=nr ha λR v ⟨p,e,h⟩=>⟨p,_,_,e,h,rfl,rfl⟩
theorem sq {x:α×β}(ha:EV X a Z (cz r r') x Γ1):EV X (.Subscript a (.Constant (.int 0) j p1) pos) Z r x.1 Γ1:=nr ha λR v ⟨p,v1,v2,e,h,h1,h2⟩=>⟨p,_,v1,e,h,rfl,h1⟩
theorem hZ {x:α×β}(ha:EV X a Z (cz r r') x Γ1):EV X (.Subscript a (.Constant (.int 1) j p1) pos) Z r' x.2 Γ1:=nr ha λR v ⟨p,v1,v2,e,h,h1,h2⟩=>⟨p,_,v2,e,h,rfl,h2⟩
end
variable {a:Expr}
def OV (X:Cx)(e:Option Expr)(Z:Ga)(o:Option Int):Prop:=∃t,PO X e t/\∀(σ:St)(H0 R0 H R:Hp),ar X.K σ H0 R0 H R Z->∀Q:Option Int->Hp->Prop,(∀H' R',ar X.K σ H0 R0 H' R' Z->av R R'->Q o H')->t σ H Q
theorem ov_none:OV X none Z none:=⟨_,zk,λσ H0 R0 H R E Q q=>q H R E `S⟩
theorem ov_some {i:Int}(h:EV X e Z ag i Z):OV X (some e) Z (some i):=⟨_,zU aO,λσ H0 R0 H R E Q q=>h σ H0 R0 H R E _ λv H1 R1 E1 s1 e1=>⟨i,e1,q H1 R1 E1 s1⟩⟩
def cut (xs:`u)(lo hi:Option Int):List α:=(xs.drop (HT.XX xs.length 0 lo)).take (HT.XX xs.length xs.length hi-HT.XX xs.length 0 lo)
theorem mC {F:α->β->Prop}:∀(n:Nat){vs:`u}{xs:List β},PySem.Paired F vs xs->PySem.Paired F (vs.drop n) (xs.drop n)
 | 0,_,_,h=>h
 | _+1,_,_,.nil=>.nil
 | n+1,_,_,.cons _ t=>mC n t
theorem jR {F:α->β->Prop}:∀(n:Nat){vs:`u}{xs:List β},PySem.Paired F vs xs->PySem.Paired F (vs.take n) (xs.take n)
 | 0,_,_,_=>.nil
 | _+1,_,_,.nil=>.nil
 | n+1,_,_,.cons h t=>.cons h (jR n t)
theorem dQ {F:α->β->Prop}:∀{vs:`u}{xs:List β}{Yg:`u}{xs':List β},PySem.Paired F vs xs->PySem.Paired F Yg xs'->PySem.Paired F (vs++Yg) (xs++xs')
 | _,_,_,_,.nil,h=>h
 | _,_,_,_,.cons h t,h'=>.cons h (dQ t h')
theorem Bf (xs:`u)(lo hi:Option Int):(cut xs lo hi).length<=xs.length:=by
 unfold cut;rw[Sm,Ts];cbv
theorem jZ {lo hi:Option Expr}{l h:Option Int}(ha:EV X a Z (ae r) xs Z)(hl:OV X lo Z l)(hh:OV X hi Z h):aZ X (.Subscript a (.Slice lo hi none p2) pos) Z r (cut xs l h) Z:=by
 intro σ H0 R0 H R E Q q;let⟨tl,pl,kl⟩:=hl;let⟨th,ph,kh⟩:=hh;refine eS (lT IA aO pl ph) `G;let⟨p,vs,rfl,hp,pp,z⟩:=(ae r).mono (s2.trans s3) e1;refine⟨p,vs,rfl,bt.of (E3.sub _ _ hp),λd hd=>?_⟩;refine q d _ _ R3 (E3.grow (Ext.d6 E3.sub hd _)) (s1.trans (s2.trans s3)) aD (E3.sub.free hd) (E3.ext.h.free hd) (E3.off hd) ?_ (Um (Bf _ _ _) z);unfold cut mB;rw[pp.length];exact jR _ (mC _ pp)
theorem cK (ha:EV X a Z (ae r) xs Γ1)(hb:EV X b Γ1 (ae r) ys Γ2)(hz:xs.length+ys.length<=UZ):aZ X (.BinOp a .Add b pos) Z r (xs++ys) Γ2:=by
 intro σ H0 R0 H R E Q q;refine eS (Hf JK aO aO) `l;let⟨p,vs,rfl,hp,pp,z⟩:=(ae r).mono s2 e1;let⟨p',ws,rfl,hp',YD,z'⟩:=e2;refine⟨p,p',vs,ws,rfl,rfl,E2.sub _ _ hp,E2.sub _ _ hp',by rw[pp.length,YD.length];exact hz,λd hd=>?_⟩;exact q d _ _ R2 (E2.grow (Ext.d6 E2.sub hd _)) `E aD (E2.sub.free hd) (E2.ext.h.free hd) (E2.off hd) (dQ pp YD) (by rw[RY];exact hz)
theorem da {p:Pos}(hm:X.mg "len"=none)(ha:EV X a Z (ae r) xs Γ1)(hs:fU X a:=by rfl)(hg:Gl X "len":=by rfl):EV X (.Call (.Name "len" p) [a] [] pos) Z ag (xs.length:Int) Γ1:=by
 intro σ H0 R0 H R E Q q;refine eS (fg gJ hg hm Vo (aI aO bq hs) `c `c hs) `A;let⟨p,vs,rfl,hp,pp,z⟩:=e1;refine⟨p,vs,rfl,.inl (bt.of (E1.sub _ _ hp)),?_⟩;rw[pp.length];exact q _ H1 R1 E1 s1 rfl
theorem ud {p:Pos}{xs:Rl}(hm:X.mg "len"=none)(ha:EV X a Z cO xs Γ1)(hs:fU X a:=by rfl)(hg:Gl X "len":=by rfl):EV X (.Call (.Name "len" p) [a] [] pos) Z ag (xs.length:Int) Γ1:=by
 intro σ H0 R0 H R E Q q;refine eS (fg gJ hg hm Vo (aI aO bq hs) `c `c hs) `A;let⟨p,rfl,hp,z⟩:=e1;refine⟨p,_,rfl,.inl (E1.sub.seq hp),?_⟩;rw[RS];exact q _ H1 R1 E1 s1 rfl
end
variable {y:Str}{N:Ga->Prop}{T:RT}{st:Stmt}
theorem KL (w:Wk Z Γ')(h:N Γ'):WS X [] Z N T:=λσ H0 R0 H R E D dn dr=>Mm Ie (dn σ H R Γ' (E.weak w) `S h)
theorem aF (h:N Z):WS X [] Z N T:=KL (Wk.refl Z) h
theorem ai {rest:List Stmt}(h:W1 X st Z (λΓ'=>WS X rest Γ' N T) T):WS X (st::rest) Z N T:=λσ H0 R0 H R E D dn dr=>
 Mm (FR PN iM) (h σ H0 R0 H R E {D with nx:=vy X rest D} (λσ' H' R' Γ' E' s' h'=>h' σ' H0 R0 H' R' E' D (λσ2 H2 R2 Γ2 E2 s2=>dn σ2 H2 R2 Γ2 E2 (s'.trans s2)) dr) dr)
theorem aj (h:W1 X st Z N T):WS X [st] Z N T:=λσ H0 R0 H R E D dn dr=>Mm (Hi PN) (h σ H0 R0 H R E D dn dr)
theorem ba (i:Nat){y:α}(he:EV X e Z r y Γ1)(h:N (Γ1.set i (.im r y)))(hN:X.N.Nodup:=by first | assumption | decide)(hi:X.N[i]?∣x:=by rfl)(hx:`ai)(hs:U7 e (some `h) pos.line X.env=pure false:=by rfl)(hf:autoParam (fM X x) YI):W1 X (.Assign [.Name x p1] e pos) Z N T:=λσ H0 R0 H R E D dn dr=>
 sS (j8 hN hi hx aO hs hf) (he σ H0 R0 H R E _ λv H1 R1 E1 s1 e1=>dn _ H1 R1 _ (E1.set i e1) s1 h)
theorem cD (i:Nat)(he:aZ X e Z r ys Γ1)(h:N (Γ1.set i (.mu r ys)))(hN:X.N.Nodup:=by first | assumption | decide)(hi:X.N[i]?∣x:=by rfl)(hx:`ai)(hs:U7 e (some `h) pos.line X.env=pure false:=by rfl)(hf:autoParam (fM X x) YI):W1 X (.Assign [.Name x p1] e pos) Z N T:=λσ H0 R0 H R E D dn dr=>
 sS (j8 hN hi hx aO hs hf) (he σ H0 R0 H R E _ λa vs H1 R1 E1 s1 ha hR h0 off p z=>dn _ H1 R1 _ (E1.xy (u:=.lst vs) (en:=.mu r ys) i ⟨a,vs,rfl,ha,hR,p⟩ h0 λj e _ q w=>off j e q w) s1 h)
theorem aU {P:α->Prop}{y:α}(he:EV X e Z r y Γ1)(h:P y):W1 X (.Return (some e) pos) Z N (cP X.K r P):=λσ H0 R0 H R E D dn dr=>
 sS (jq aO) (he σ H0 R0 H R E _ λv H1 R1 E1 s1 e1=>dr v H1 R1 E1.ext ⟨y,e1,h⟩)
theorem a9 {a b:List Stmt}{k:Bool}(hc:TV X c Z k Γ1)(h1:k=true->WS X a Γ1 N T)(h2:k=false->WS X b Γ1 N T):W1 X (.If c a b pos) Z N T:=λσ H0 R0 H R E D dn dr=>by
 refine sS (NN r6 iM iM) (hc σ H0 R0 H R E _ λH1 R1 E1 s1=>?_);cases k with
 | true=>exact oB (h1 rfl σ H0 R0 H1 R1 E1 D (λσ2 H2 R2 Γ2 E2 s2=>dn σ2 H2 R2 Γ2 E2 `E) dr)
 | false=>exact om (h2 rfl σ H0 R0 H1 R1 E1 D (λσ2 H2 R2 Γ2 E2 s2=>dn σ2 H2 R2 Γ2 E2 `E) dr)
theorem aY (i:Nat)(hN:X.N.Nodup:=by first | assumption | decide)(hi:X.N[i]?∣x:=by rfl)(hx:`ai)(hf:autoParam (fM X x) YI):
 BG X (.Name x pos) r (λy Z=>Z.set i (.im r y)):=λσ H0 R0 H R Z v x E h Q q=>gS (fw hN hi hx hf) (q _ (E.set i h))
theorem d9 (i j:Nat){k:Nat}(hc:X.calm=true:=by rfl)(hN:X.N.Nodup:=by first | assumption | decide)(hi:X.N[i]?∣x:=by rfl)(hx:`ai)(hf:autoParam (fM X x) YI)(hj:X.N[j]?∣y:=by rfl)(hy:`ax)(hf':autoParam (X.fn y=true∨X.env.scope.names.lookup y∣.local) YI):
 BG X (.Tuple [.Name x p1,.Name y p2] k pos) (cz r r') (λw Z=>(Z.set i (.im r w.1)).set j (.im r' w.2)):=λσ H0 R0 H R Z v w E h Q q=>by
 let⟨a,v1,v2,rfl,ha,e1,e2⟩:=h;exact gS (xp hc (fm (fw hN hi hx hf) (fm (fw hN hj hy hf') pH))) ⟨a,_,rfl,d7.of (E.sub _ _ ha),rfl,v1,[v2],rfl,v2,[],rfl,rfl,q _ ((E.set i e1).set j e2)⟩
variable {body:List Stmt}
section
variable {kvs:List (Int×V)}{y:α}
theorem at_of (e:(σ[i]?).join∣v):σ[i]?∣some v:=by
 cases es:σ[i]? with
 | none=>rw[es] at e;cases e
 | some o=>rw[es] at e;exact congrArg some e
theorem jA (I:Nat->Ga->Prop){m0:Nat}(h0:I m0 Z)(Yk:∀(m:Nat)(Z:Ga),I m Z->∃(k:Bool)(Γ':Ga),TV X c Z k Γ'/\(k=true->WS X body Γ' (λΓ''=>∃m',m'<m/\I m' Γ'') T)/\(k=false->N Γ'))(hp:VR `f X.A X.env X.xe:=by exact VR.never):W1 X (.While c body [] pos) Z N T:=λσ H0 R0 H R E D dn dr=>by
 refine sS (EK hp r6 iM) ?_;refine⟨λm σ' H'=>∃R' Γ',ar X.K σ' H0 R0 H' R' Γ'/\av R R'/\I m Γ',⟨m0,R,Z,E,av.refl _,h0⟩,?_⟩;rintro m σ' H' ⟨R',Γ',E',s',hI⟩;let⟨k,Γ2,ht,h1,h2⟩:=Yk m Γ' hI;refine ht σ' H0 R0 H' R' E' _ λH1 R1 E1 s1=>?_;cases k with
 | true=>
   refine oB ⟨_,λσ2 H2 h=>h,h1 rfl σ' H0 R0 H1 R1 E1 _ (λσ3 H3 R3 Γ3 E3 s3 h3=>?_) dr⟩;let⟨m',hm,hI'⟩:=h3;exact⟨m',hm,R3,Γ3,E3,s'.trans (s1.trans s3),hI'⟩
 | false=>exact om (dn σ' H1 R1 Γ2 E1 (s'.trans s1) (h2 rfl))
theorem ee (i:Nat){ap cp:Pos}(he:EV X e Z r y Γ1)(hΓ:`aC)(hΓ1:Γ1[i]?∣.mu r xs)(hz:xs.length<UZ)(h:N (Γ1.set i (.mu r (xs++[y]))))(hN:`o)(Yc:U7 `y none pos.line X.env=pure false:=by rfl)(XN:eX X `h "append":=by rfl)(X4:l6 X cp [e]:=by rfl)(XM:`Y=true:=by rfl)(hs:dh X e []:=by rfl):W1 X (.Expr `y pos) Z N T:=λσ H0 R0 H R E D dn dr=>by
 let⟨a,vs,ea,ha,hR,pp⟩:=E.ent i _ hΓ;refine sS (dO `ad Yc) ?_;refine⟨.ref a,at_of ea,.inl ⟨rfl,vs,bt.of ha⟩,he σ H0 R0 H R E _ λv H1 R1 E1 s1 e1=>?_⟩;let⟨a',Yg,Yf,Yv,Yj,YD⟩:=E1.ent i _ hΓ1;rw[ea] at Yf;cases Yf
 refine⟨a,Yg,v,rfl,rfl,Yv,by rw[YD.length];exact hz,?_⟩;exact dn σ _ R1 _ (E1.upd (en:=.mu r (xs++[y])) hΓ1 rfl ea Yj ⟨a,_,rfl,aD,Yj,dQ YD (.cons e1 .nil)⟩) s1 h
theorem kA {F:α->β->Prop}{v:α}{y:β}(h:F v y):∀{vs:`u}{xs:List β}(i:Nat),PySem.Paired F vs xs->PySem.Paired F (vs.set i v) (xs.set i y)
 | _,_,_,.nil=>.nil
 | _,_,0,.cons _ t=>.cons h t
 | _,_,i+1,.cons q t=>.cons q (kA h i t)
theorem Ia (i:Nat){k:Int}(he:EV X e Z r y Γ1)(hb:EV X b Γ1 ag k Γ2)(hΓ1:Γ1[i]?∣.mu r xs)(hΓ2:Γ2[i]?∣.mu r xs)(hj:fO xs.length k∣j)(h:N (Γ2.set i (.mu r (xs.set j y))))(hN:`o)(ha:∀v,Vt `ah X.env v=(do
  let ov ← Vk [v] (eval `h X.env)
  let iv ← Vk [v,ov] (eval b X.env)
  VG p2
  Vk [v,ov,iv] (V4 ov iv v)
  release [v,ov,iv] []):=by intro _;rfl)(hs:VE [.Subscript `h b p2] e pos.line X.env=pure false:=by rfl)(hw:VF [.Subscript `h b p2] e X.env=pure none:=by rfl)(h1:(Vf [.Subscript `h b p2] X.env).map (·.2)=[Vt `ah X.env]:=by rfl):
 W1 X (.Assign [.Subscript `h b p2] e pos) Z N T:=λσ H0 R0 H R E D dn dr=>by
 refine sS (sL aO (vL (aV hN) aO set_list ha) hs hw h1) `K;let⟨a,vs,ea,hp,hR,pp⟩:=E1.ent i _ hΓ1;refine⟨.ref a,at_of ea,hb σ H0 R0 H1 R1 E1 _ λu H2 R2 E2 s2 e2=>?_⟩;let⟨a',Yg,Yf,Yv,Yj,YD⟩:=E2.ent i _ hΓ2;rw[ea] at Yf;cases Yf
 refine⟨a,Yg,k,j,rfl,e2,Yv,by rw[YD.length];exact hj,?_⟩;exact dn σ _ R2 _ (E2.upd (en:=.mu r (xs.set j y)) hΓ2 rfl ea Yj ⟨a,_,rfl,aD,Yj,kA (r.mono s2 e1) j YD⟩) `E h
theorem tf {vs:`u}{xs:List β}(p:PySem.Paired F vs xs):PySem.Paired F vs.dropLast xs.dropLast:=by
 rw[List.dropLast_eq_take,List.dropLast_eq_take,p.length];exact jR _ p
theorem xC (i:Nat){ap cp:Pos}(hΓ:`aC)(hy:xs[xs.length-1]?∣y)(hN:`o)(XN:eX X `h "pop":=by rfl)(XM:`Y=true:=by rfl):
 EV X (.Call (.Attribute `h "pop" ap) [] [] cp) Z r y (Z.set i (.mu r xs.dropLast)):=by
 intro σ H0 R0 H R E Q q;let⟨a,vs,ea,ha,hR,pp⟩:=E.ent i _ hΓ;let⟨v,ZZ,hr⟩:=fH pp hy;refine eS (Dg Wt PySem.F.slot_list_pop PySem.F.type_list_pop DS (aV hN) XN XM) ⟨.ref a,at_of ea,.inl ⟨rfl,vs,bt.of ha⟩,?_⟩;refine⟨a,vs,v,rfl,rfl,ha,by rw[pp.length];exact ZZ,?_⟩;exact q v _ R (E.upd hΓ rfl ea hR ⟨a,_,rfl,aD,hR,tf pp⟩) `S hr
theorem nB (i:Nat)(hΓ:`aC)(hN:`o)(he:∀whole,VA (.Name x pos) X.env whole=(do let v ← whole;VG (Expr.Name x pos).pos;Vk [v] (truthy v)):=by intro _;rfl):TV X (.Name x pos) Z (!xs.isEmpty) Z:=by
 intro σ H0 R0 H R E Q q;let⟨a,vs,ea,ha,hR,pp⟩:=E.ent i _ hΓ;refine tS (x6 (aV hN) he) ⟨.ref a,at_of ea, !xs.isEmpty,.inl ⟨vs,bt.of ha,?_⟩,q H R E `S⟩;cases pp<;>rfl
theorem tX (i:Nat){p:Pos}(hm:X.mg "len"=none)(hΓ:`aC)(hN:`o)(hg:Gl X "len":=by rfl):EV X (.Call (.Name "len" p) [.Name x p1] [] pos) Z ag (xs.length:Int) Z:=by
 intro σ H0 R0 H R E Q q;let⟨a,vs,ea,ha,hR,pp⟩:=E.ent i _ hΓ;refine eS (fg gJ hg hm Vo (aI (aV hN) bq rfl) `c `c rfl) ⟨.ref a,at_of ea,a,vs,rfl,.inl (bt.of ha),?_⟩;rw[pp.length];exact q _ H R E `S rfl
theorem freeze (E:`C)(hΓ:`aC)(hz:xs.length<=UZ):∃R' v,ar K σ H0 R0 H R' (Z.set i (.im (ae r) xs))/\av R R'/\(σ[i]?).join∣v/\(ae r).R K R' v xs:=by
 let⟨a,vs,ea,ha,hR,pp⟩:=E.ent i _ hΓ;let h0:H0 a=none:=E.new i _ a hΓ rfl ea;let s2:av R (upd R a (.lst vs)):=av.fresh hR _;let rr:(ae r).R K (upd R a (.lst vs)) (.ref a) xs:=⟨a,vs,rfl,aD,Paired.map (λ_ _=>r.mono s2) pp,hz⟩;let E1:ar K σ H0 R0 H R (Z.set i .no):=E.tell hΓ trivial λb w=>by cases w
 let E2:=E1.rY ha hR h0 λj e q w=>by
  obtain⟨rfl,rfl,_⟩ | ⟨hj,q1⟩:=set_at q
  ·cases w
  ·exact hj (E.ds j i e _ a q1 hΓ w ((Ent.r9 (e:=.mu r xs) rfl).mpr ea))
 let hl:i<Z.length:=(RP.mp hΓ).1;let E3:=E2.tell (i:=i) (e0:=.no) (en:=.im (ae r) xs) (R8 hl) ⟨_,ea,rr⟩ λb w=>by cases w
 rw[Tb] at E3;exact⟨_,.ref a,E3,s2,ea,rr⟩
theorem WS.freeze (i:Nat){Yx:List Stmt}(hΓ:`aC)(hz:xs.length<=UZ)(h:WS X Yx (Z.set i (.im (ae r) xs)) N T):WS X Yx Z N T:=λσ H0 R0 H R E D dn dr=>by
 let⟨R',v,E',s',_,_⟩:=Fc.freeze E hΓ hz;exact h σ H0 R0 H R' E' D (λσ2 H2 R2 Γ2 E2 s2=>dn σ2 H2 R2 Γ2 E2 (s'.trans s2)) dr
def nG:Rep (List (Int×V)):=⟨λK H v kvs=>∃a,v= .ref a/\H a∣(.dK (cS kvs)),λs ⟨a,e,q⟩=>⟨a,e,s _ _ q⟩⟩
def ja (kvs:List (Int×V))(k:Int):Bool:=kvs.any λp=>decide (p.1=k)
theorem mU (kvs:List (Int×V))(k:Int):(du (cS kvs) (Sum.inl k:Key)).isSome=ja kvs k:=by
 rw[← iD];unfold cS ja;rw[List.any_map];congr 1;funext p;show decide ((Sum.inl p.1:Key)=Sum.inl k)=decide (p.1=k);by_cases h:p.1=k
 ·rw[h];simp
 ·rw[Xz h,Xz λz=>h (Sum.inl.inj z)]
theorem HB (i:Nat)(neg:Bool){k:Int}(hu:X.A.units+1<cLine)(he:EV X e Z ag k Z)(hΓ:Z[i]?∣.di kvs)(hN:`o):
 TV X (.Compare e [if neg then .NotIn else .In] [.Name x p1] pos) Z (if neg then !ja kvs k else ja kvs k) Z:=by
 intro σ H0 R0 H R E Q q;cases neg with
 | false=>
   refine tS (mP (Kr hu aO (aV hN)) (by with_unfolding_all rfl)) `K;let⟨a,ea,ha,hR⟩:=E1.ent i _ hΓ;cases e1
   refine⟨.ref a,at_of ea,a,_,rfl,iG.k (k:=Sum.inl k) ha,_,rfl,?_⟩;rw[mU];exact q H1 R1 E1 s1
 | true=>
   refine tS (mP (l7 hu aO (aV hN)) (by with_unfolding_all rfl)) `K;let⟨a,ea,ha,hR⟩:=E1.ent i _ hΓ;cases e1
   refine⟨.ref a,at_of ea,a,_,rfl,iG.k (k:=Sum.inl k) ha,_,rfl,?_⟩;rw[mU];exact q H1 R1 E1 s1
theorem BA (i:Nat){ke ve:Expr}{k:Int}(hu:X.A.units+1<cLine)(hk:EV X ke Z ag k Z)(hv:PE X ve (tC v))(hΓ:Z[i]?∣.di kvs)(hn:ja kvs k=false)(hz:kvs.length<UZ)(h:N (Z.set i (.di (kvs++[(k,v)]))))(hN:`o)(hs:U7 ve (some (.Subscript `h ke p2)) pos.line X.env=pure false:=by rfl):W1 X (.Assign [.Subscript `h ke p2] ve pos) Z N T:=λσ H0 R0 H R E D dn dr=>by
 refine sS (uE hu (aV hN) aO hv hs) ?_;let⟨a,ea,ha,hR⟩:=E.ent i _ hΓ;refine⟨.ref a,at_of ea,hk σ H0 R0 H R E _ λu H1 R1 E1 s1 e1=>?_⟩;let⟨a',Yf,Yv,Yj⟩:=E1.ent i _ hΓ;rw[ea] at Yf;cases Yf
 cases e1
 refine⟨a,_,rfl,rB.k (k:=Sum.inl k) Yv (by unfold cS;rw[RS];exact hz),?_⟩;let vn:du (cS kvs) (Sum.inl k:Key)=none:=by
  have:=mU kvs k;rw[hn] at this;cases q:du (cS kvs) (Sum.inl k:Key) with
  | none=>rfl
  | some z=>rw[q] at this;cases this
 rw[rj v vn];let e:cS kvs++[((Sum.inl k:Key),v)]=cS (kvs++[(k,v)]):=by unfold cS;rw[Sf];rfl
 rw[e];exact dn σ _ R1 _ (E1.upd (en:=.di (kvs++[(k,v)])) hΓ rfl ea Yj ⟨a,rfl,aD,Yj⟩) s1 h
theorem JT (i:Nat){P:List (Int×V)->Prop}(hΓ:Z[i]?∣.di kvs)(h:P kvs)(hN:`o):W1 X (.Return (some `h) pos) Z N (cP X.K nG P):=λσ H0 R0 H R E D dn dr=>by
 let⟨a,ea,ha,hR⟩:=E.ent i _ hΓ;let h0:H0 a=none:=E.new i _ a hΓ rfl ea;refine sS (jq (aV hN)) ⟨.ref a,at_of ea,dr _ H (upd R a (.dK (cS kvs))) ⟨E.ext.h,E.ext.r.trans (av.fresh hR _),λb o qb=>?_,λb hb=>?_⟩ ⟨kvs,⟨a,rfl,aD⟩,h⟩⟩
 ·by_cases hb:b=a
  ·subst hb;rw[aD] at qb;cases qb;exact ha
  ·rw[aG hb] at qb;exact E.ext.s b o qb
 ·rw[aG (show b≠a from λe=>hb (by rw[e];exact h0))];exact E.ext.old b hb
theorem Ji {a:Expr}{p:Pos}(hm:X.mg "len"=none)(ha:EV X a Z nG kvs Γ1)(hs:fU X a:=by rfl)(hg:Gl X "len":=by rfl):EV X (.Call (.Name "len" p) [a] [] pos) Z ag (kvs.length:Int) Γ1:=by
 intro σ H0 R0 H R E Q q;refine eS (fg vc hg hm Vo (aI aO bq hs) `c `c hs) `A;let⟨p,rfl,hp⟩:=e1;refine⟨p,_,rfl,E1.sub _ _ hp,?_⟩;unfold cS;rw[RS];exact q _ H1 R1 E1 s1 rfl
end
abbrev dc:=W7->List Pk->RT->Prop
def aQ (S:dc)(K:W7):Sp:=λvs H Q _=>∃R ps T,av R H/\mq K R vs ps/\S K ps T/\∀v H' R',Ext H R H' R'->T H v H' R'->Q v H'
theorem mq.length {K:W7}{R:Hp}:∀{vs:`R}{ps:List Pk},mq K R vs ps->vs.length=ps.length
 | _,_,.nil=>rfl
 | _,_,.cons _ t=>by rw[Sb,Sb,mq.length t]
structure aE (P:U4)(w:World)(K:W7)(mg:Rj)(base:Heap)(x:Str)(k:Nat)(sp:Sp):Prop where
 ex:∃f fd ps,fb P w K mg base eo k f fd ps sp/\mg x∣.ref f/\Xc K (.ref f)=true/\Binds K fd ps []
theorem aE.mono {P:U4}{w:World}{K:W7}{mg:Rj}{base:Heap}{x:Str}{j k:Nat}{sp:Sp}(c:aE P w K mg base x j sp)(h:j<=k):aE P w K mg base x k sp:=by
 let⟨f,fd,ps,F,a,b,c⟩:=c.ex;exact⟨f,fd,ps,F.mono h,a,b,c⟩
variable {ps:List Pk}{S:dc}
theorem lO {k:Nat}{p:Pos}(C:`aR)(hr:bG k X.A)(ha:HA X (e::es) Z ps Γ1)(hS:S X.K ps T)(E:`aF)(q:∀H1 R1 v H' R',ar X.K σ H0 R0 H1 R1 Γ1->av R R1->Ext H1 R1 H' R'->T H1 v H' R'->Q v H')(hg:Gl X x)(Yd:(x==("__debug__":Str))=false)(he:dh X e es)(X1:fo X pos es):fX X (.Call `ao (e::es) [] pos) σ H Q:=by
 let⟨f,fd,pn,F,hm,hk,hb⟩:=C.ex;refine eS (iU F hr hg hm hk hb .nil kH nj Yd he X1) (ha σ H0 R0 H R E _ λvs H1 R1 E1 s1 p1=>?_);refine⟨R1,ps,T,E1.sub,by rw[Sl];exact p1,hS,λv H' R' x t=>q H1 R1 v H' R' E1 s1 x t⟩
theorem aJ {k:Nat}{p:Pos}{y:α}(C:`aR)(hr:bG k X.A)(ha:HA X (e::es) Z ps Γ1)(hS:S X.K ps (cP X.K r (· =y)))(hg:Gl X x:=by rfl)(Yd:Yz x:=by decide)(he:dh X e es:=by rfl)(X1:fo X pos es:=by rfl):EV X (.Call `ao (e::es) [] pos) Z r y Γ1:=λσ H0 R0 H R E Q q=>
 lO C hr ha hS E (λH1 R1 v H' R' E1 s1 xx t=>by
  let⟨z,e1,rfl⟩:=t;exact q v H' R' (E1.grow xx) (s1.trans xx.r) e1) hg Yd he X1
theorem rq {k:Nat}{p:Pos}(C:`aR)(hr:bG k X.A)(ha:HA X (e::es) Z ps Γ1)(hS:S X.K ps (C5 X.K r (· =ys)))(hg:Gl X x:=by rfl)(Yd:Yz x:=by decide)(he:dh X e es:=by rfl)(X1:fo X pos es:=by rfl):aZ X (.Call `ao (e::es) [] pos) Z r ys Γ1:=λσ H0 R0 H R E Q q=>
 lO C hr ha hS E (λH1 R1 v H' R' E1 s1 xx t=>by
  let⟨a,vs,zs,rfl,h0,h1,h2,p,z,rfl⟩:=t;exact q a vs H' R' (E1.grow xx) (s1.trans xx.r) h1 h2 (E1.ext.h.free h0) (E1.off h0) p z) hg Yd he X1
noncomputable def fW (ps:List Pk)(n:Nat):Ga:=ps.map (λp=>Ent.im p.r p.x)++SW (n-ps.length) .no
variable {vs:`R}
theorem j6 {N:Rm}(s:av R H)(p:mq K R vs ps)(hl:ps.length<=N.length):ar K (L2.start N vs) H R H R (fW ps N.length):=by
 let X7:∀(i:Nat)(e:Ent)(o:Option V),(fW ps N.length)[i]?∣e->e.fp o=[]:=λi e o q=>by
  unfold fW at q;obtain z | z:=Se.mp (R7 q)
  ·let⟨p,_,rfl⟩:=Sk.mp z;rfl
  ·let⟨_,rfl⟩:=T4.mp z;rfl
 refine⟨Ext.refl s,λi e q=>?_,λi e a q w=>Xt w (by rw[X7 i e _ q];exact SR),λi j e e' a q _ w=>Xt w (by rw[X7 i e _ q];exact SR),?_⟩
 ·let hp:=p.length;unfold fW at q;unfold L2.start;by_cases hi:i<ps.length
  ·rw[So (~~~hi),R6] at q;rw[So (by simpa[hp] using hi),R6];let key:∀{vs:`R}{ps:List Pk},mq K R vs ps->∀(i:Nat)(p:Pk),ps[i]?∣p->∃v,vs[i]?∣v/\p.r.R K R v p.x:=by
    intro vs ps h
    induction h with
    | nil=>intro i p e;simp at e
    | cons a b ih=>
      intro i p e;cases i with
      | zero=>simp at e;subst e;exact⟨_,rfl,a⟩
      | succ i=>simpa using ih i p (~~~e)
   cases e1:ps[i]? with
   | none=>rw[e1] at q;cases q
   | some p1=>
     rw[e1] at q;cases q
     let⟨v,h1,h2⟩:=key p i p1 e1;rw[h1];exact⟨v,rfl,h2⟩
  ·rw[Su (~~~hi),Tp] at q;split at q
   ·cases q;trivial
   ·cases q
 ·unfold fW L2.start;rw[RY,RY,RS,RS,Ta,Ta,p.length]
variable {P:U4}{w:World}{mg:Rj}{base:Heap}{qual:Str}{f:Addr}{fd:U8}
def Def (K:W7)(mg:Rj)(x:Str)(st:Stmt)(ps:Rm):Prop:=∃f fd,dI K x x st f fd/\mg x∣.ref f/\Binds K fd ps []
theorem gW {N ps:Rm}{k:Nat}(F:dI K x qual st f fd)(Sc:bE N ps (ao st))(hm:mg x∣.ref f)(hb:Binds K fd ps [])(len:∀qs T,S K qs T->qs.length=ps.length)(X2:∀(XH:`aM)(A:U6)(outer:List Env)(s:U0)(H:Hp)(E:XK)(qs:List Pk)(T:RT),bG k `ap->S K qs T->
  WS (eK eo P w K mg base N qual (ao st) f XH A outer s H E).gF (bD st) (fW qs N.length) (λ_=>False) T):aE P w K mg base x (k+1) (aQ S K):=by
 refine⟨f,fd,ps,?_,hm,F.kp,hb⟩;refine F.ok Sc (λvs H Q E h=>?_) `af
 ·let⟨R,qs,T,_,p,hS,_⟩:=h;rw[p.length];exact len qs T hS
 ·let⟨R,qs,T,sR,p,hS,q⟩:=h;let hl:qs.length<=N.length:=by
   rw[len qs T hS];have:=congrArg List.length Sc.pre;rw[Sm] at this;cbv
  exact⟨_,iM,X2 XH A outer s H E qs T hr hS (L2.start N vs) H R H R (j6 sR p hl) {nx:=λ_ H'=>Q .XT H',rt:=Q} (λ_ _ _ _ _ _ f=>f.elim) λv H' R' xx t=>q v H' R' xx t⟩
theorem bO {N ps:Rm}{k:Nat}(D:Def K mg x st ps)(X2:∀(f:Addr)(XH:`aM)(A:U6)(outer:List Env)(s:U0)(H:Hp)(E:XK)(qs:List Pk)(T:RT),N.Nodup->bG k (A.deeper (UT x (ao st) ⇑s f XH))->S K qs T->
  WS (eK eo P w K mg base N x (ao st) f XH A outer s H E).gF (bD st) (fW qs N.length) (λ_=>False) T)(len:∀qs T,S K qs T->qs.length=ps.length:=by(intros;rename_i h;repeat (first | (rw[h.1];rfl) | let⟨_,h⟩:=h)))(Sc:bE N ps (ao st):=by exact YV):aE P w K mg base x (k+1) (aQ S K):=by
 let⟨f,fd,F,hm,hb⟩:=D;exact gW F Sc hm hb len λXH A outer s H E qs T=>X2 f XH A outer s H E qs T Sc.nd
section
variable {a:Expr}
theorem v7 {bs:List Bool}{us:Rp}(r:Vals (bs.map V.bl) us){v:`aM}(h:us.toArray[j]?∣v):v= .bool (bs.getD j true):=by
 induction bs generalizing us j with
 | nil=>cases r;simp at h
 | cons b r' ih=>
   cases r with
   | cons h1 t=>
     cases j with
     | zero=>simp at h;rw[← h];exact h1
     | succ j=>exact ih t (~~~h)
theorem all_range (bs:List Bool):((Sd bs.length).all λj=>bs.getD j true)=bs.all id:=by
 rw[Ry,TJ,TJ];constructor
 ·intro h b hb;let⟨j,hj,rfl⟩:=TQ.mp hb;have:=h j (S3.mpr hj);simpa[RR,RQ hj] using this
 ·intro h j hj;let hj:=S3.mp hj;simpa[RR,RQ hj] using h _ (SD hj)
theorem any_range (bs:List Bool):((Sd bs.length).any λj=>bs.getD j true)=bs.any id:=by
 rw[Ry,Ud,Ud];constructor
 ·rintro⟨j,hj,h⟩;let hj:=S3.mp hj;exact⟨_,SD hj,by simpa[RR,RQ hj] using h⟩
 ·rintro⟨b,hb,h⟩;let⟨j,hj,rfl⟩:=TQ.mp hb;exact⟨j,S3.mpr hj,by simpa[RR,RQ hj] using h⟩
theorem FK (hc:X.calm=true):gb X (.builtin "all") (λxs H Q=>∃(p:Addr)(bs:List Bool),xs=[.ref p]/\bt X.K H p (bs.map V.bl)/\Q (.bl (bs.all id)) H):=by
 intro XD s σ H xs us Q I r h;let⟨p,bs,rfl,hq,q⟩:=h;let⟨u,rfl,rx⟩:=vals1 r;cases rx
 let⟨XF,r',pl,hz⟩:=I.list hq;let XS:p≠⇑s:=λe=>by let⟨o,ho,_⟩:=pl.isList;exact Xt (WE ho) (by rw[e];exact Us _)
 refine call_all_walk (Vw pl.isList ?_);refine⟨⇑s,_,[⇑s],XF.toArray.size,_,_,λj=>bs.getD j true,rfl,Walks.list (A:=X.A.in1) (show X.A.in1.handled=none from I.ok.hd hc) ⇑s p XS XF.toArray,?_,λj v s Q E hv hQ=>?_,λh' tk hk=>?_⟩
 ·refine⟨⟨_,WG _ rfl,rfl,rfl⟩,?_⟩;let⟨o,ho,c,n,d⟩:=pl.isList;exact⟨o,WC _ ho,c,n,d⟩
 ·rw[v7 r' hv];exact U9 hQ
 ·let e:XF.toArray.size=bs.length:=by rw[Si,← r'.length,RS]
  rw[e,all_range];exact⟨.bl _,H,I.kept λb o e=>hk b o (λz=>Xt (WE e) (by rw[RU.mp z];exact Us _)) (WC _ e),rfl,q⟩
theorem Ff (hc:X.calm=true):gb X (.builtin "any") (λxs H Q=>∃(p:Addr)(bs:List Bool),xs=[.ref p]/\bt X.K H p (bs.map V.bl)/\Q (.bl (bs.any id)) H):=by
 intro XD s σ H xs us Q I r h;let⟨p,bs,rfl,hq,q⟩:=h;let⟨u,rfl,rx⟩:=vals1 r;cases rx
 let⟨XF,r',pl,hz⟩:=I.list hq;let XS:p≠⇑s:=λe=>by let⟨o,ho,_⟩:=pl.isList;exact Xt (WE ho) (by rw[e];exact Us _)
 refine call_any_walk (Vw pl.isList ?_);refine⟨⇑s,_,[⇑s],XF.toArray.size,_,_,λj=>bs.getD j true,rfl,Walks.list (A:=X.A.in1) (show X.A.in1.handled=none from I.ok.hd hc) ⇑s p XS XF.toArray,?_,λj v s Q E hv hQ=>?_,λh' tk hk=>?_⟩
 ·refine⟨⟨_,WG _ rfl,rfl,rfl⟩,?_⟩;let⟨o,ho,c,n,d⟩:=pl.isList;exact⟨o,WC _ ho,c,n,d⟩
 ·rw[v7 r' hv];exact U9 hQ
 ·let e:XF.toArray.size=bs.length:=by rw[Si,← r'.length,RS]
  rw[e,any_range];exact⟨.bl _,H,I.kept λb o e=>hk b o (λz=>Xt (WE e) (by rw[RU.mp z];exact Us _)) (WC _ e),rfl,q⟩
theorem rA {K:W7}{R:Hp}:∀{vs:`R}{xs:List Bool},PySem.Paired (c7.R K R) vs xs->vs=xs.map V.bl
 | _,_,.nil=>rfl
 | _,_,.cons h t=>by rw[Sx,← rA t];exact congrArg (· ::_) h
theorem Gu {id:String}{r:List V->Hp->VK->Prop}{p:Pos}{y:α}{z:β}(hc:gb X (.builtin id) r)(hm:X.mg x=none)(hv:Vq x∣.builtin id)(ha:EV X a Z ra y Γ1)(h:∀(R H:Hp) v Q,av R H->ra.R X.K R v y->(∀w,rb.R X.K R w z->Q w H)->r [v] H Q)(hs:fU X a:=by rfl)(hg:Gl X x:=by rfl)(hn:x≠"__name__":=by decide)(Yd:Yz x:=by decide):
 EV X (.Call `ao [a] [] pos) Z rb z Γ1:=by
 intro σ H0 R0 H R E Q q;exact eS (fg hc hg hm hv (aI aO bq hs) hn Yd hs) (ha σ H0 R0 H R E _ λv H1 R1 E1 s1 e1=>h R1 H1 v _ E1.sub e1 λw hw=>q w H1 R1 E1 s1 hw)
theorem tH {p:Pos}{bs:List Bool}(hm:X.mg "all"=none)(ha:EV X a Z (ae c7) bs Γ1)(hs:fU X a:=by rfl)(hc:X.calm=true:=by rfl)(hg:Gl X "all":=by rfl):EV X (.Call (.Name "all" p) [a] [] pos) Z c7 (bs.all id) Γ1:=
 Gu (FK hc) hm boot_all ha (λR H v Q s ⟨p,vs,e,hp,pp,_⟩ q=>⟨p,bs,by rw[e],by rw[← rA pp];exact bt.of (s _ _ hp),q _ rfl⟩) hs hg
theorem LB {p:Pos}{bs:List Bool}(hm:X.mg "any"=none)(ha:EV X a Z (ae c7) bs Γ1)(hs:fU X a:=by rfl)(hc:X.calm=true:=by rfl)(hg:Gl X "any":=by rfl):EV X (.Call (.Name "any" p) [a] [] pos) Z c7 (bs.any id) Γ1:=
 Gu (Ff hc) hm boot_any ha (λR H v Q s ⟨p,vs,e,hp,pp,_⟩ q=>⟨p,bs,by rw[e],by rw[← rA pp];exact bt.of (s _ _ hp),q _ rfl⟩) hs hg
theorem zS {p:Pos}{b:Bool}(hm:X.mg "int"=none)(ha:EV X a Z c7 b Γ1)(hs:fU X a:=by rfl)(hg:Gl X "int":=by rfl):EV X (.Call (.Name "int" p) [a] [] pos) Z ag (if b then 1 else 0) Γ1:=by
 intro σ H0 R0 H R E Q q;exact eS (i7 BI hg hm UU (aI aO bq hs) `c `c hs) (ha σ H0 R0 H R E _ λv H1 R1 E1 s1 e1=>.inr ⟨b,by rw[show v=V.bl b from e1],q _ H1 R1 E1 s1 rfl⟩)
theorem F4 {p:Pos}(hm:X.mg "list"=none)(ha:EV X a Z (ae r) xs Γ1)(hs:fU X a:=by rfl)(hg:Gl X "list":=by rfl):aZ X (.Call (.Name "list" p) [a] [] pos) Z r xs Γ1:=by
 intro σ H0 R0 H R E Q q;refine eS (i7 xO hg hm UP (aI aO bq hs) `c `c hs) `A;let⟨p,vs,rfl,hp,pp,z⟩:=e1;exact⟨p,vs,rfl,.inl (bt.of (E1.sub _ _ hp)),λl hl=>q l vs _ R1 (E1.grow (Ext.d6 E1.sub hl _)) s1 aD (E1.sub.free hl) (E1.ext.h.free hl) (E1.off hl) pp z⟩
theorem II {p:Pos}{x y:Int}(hm:X.mg "min"=none)(ha:HA X [a,b] Z [⟨ag,x⟩,⟨ag,y⟩] Γ1)(hs:U5 [a,b] X.env=(false,eval a X.env)::U5 [b] X.env:=by rfl)(hc:X.calm=true:=by rfl)(hg:Gl X "min":=by rfl)(X1:fo X pos [b]:=by rfl):EV X (.Call (.Name "min" p) [a,b] [] pos) Z ag (if y<x then y else x) Γ1:=by
 intro σ H0 R0 H R E Q q;refine eS (fg (CV hc) hg hm PyProof.Rows.boot_min nj `c `c hs X1) (ha σ H0 R0 H R E _ λvs H1 R1 E1 s1 p1=>?_);cases p1 with
 | cons a1 t=>cases t with
   | cons a2 t2=>cases t2;cases a1;cases a2;exact⟨x,y,rfl,q _ H1 R1 E1 s1 rfl⟩
end
def Src (K:W7)(J:It)(R1:Hp){α:Type}(r:Rep α)(xs:`u):Prop:=
 ∀(H' R':Hp),av R1 R'->av R' H'->∀i:Nat,(∀x,xs[i]?∣x->J.go i H'/\∀v H2,J.yld i H' v H2->∃R2,Ext H' R' H2 R2/\r.R K R2 v x)/\(xs.length<=i->J.stop i H')
variable {tg iter elt:Expr}{ifs:Rr}{scope:Scope}{fr:Rm}{ix:List Nat}{R1:Hp}{bf:α->Ga->Ga}
section
variable {f:α->β}
def IV (X:Cx)(tg iter:Expr)(Z:Ga){α:Type}(r:Rep α)(xs:`u)(Γ1:Ga):Prop:=
 ∃wi,PI X tg iter wi/\∀(σ:St)(H0 R0 H R:Hp),ar X.K σ H0 R0 H R Z->∀Rq:It->Hp->Prop,(∀J H1 R1,ar X.K σ H0 R0 H1 R1 Γ1->av R R1->xs.length<=UZ->Src X.K J R1 r xs->Rq J H1)->wi σ H Rq
theorem bI (h:EV X iter Z (ae r) xs Γ1):IV X tg iter Z r xs Γ1:=by
 refine⟨_,zV aO,λσ H0 R0 H R E Rq q=>h σ H0 R0 H R E _ λv H1 R1 E1 s1 e1=>?_⟩;let⟨a,vs,rfl,ha,pp,z⟩:=e1;refine⟨a,rfl,⟨vs,bt.of (E1.sub _ _ ha)⟩,q _ H1 R1 E1 s1 z λH' R' sR sH i=>⟨λx hx=>?_,λhi=>?_⟩⟩
 ·let hq:bt X.K H' a vs:=bt.of (sH _ _ (sR _ _ ha));let⟨v,hv,hr⟩:=fH pp hx;refine⟨⟨vs,v,hq,hv⟩,λv' H2 hy=>?_⟩;let⟨rfl,hy⟩:=hy;have:=hy vs hq;rw[hv] at this;cases this
  exact⟨R',Ext.refl sH,r.mono sR hr⟩
 ·exact⟨vs,bt.of (sH _ _ (sR _ _ ha)),by rw[pp.length];exact hi⟩
noncomputable def ups (lo:Int)(n:Nat):Rl:=(Sd n).map λ(k:Nat)=>lo+(k:Int)
theorem bp (lo:Int)(n:Nat):(ups lo n).length=n:=by unfold ups;rw[RS,SN]
theorem eQ {lo:Int}{n:Nat}{x:Int}(h:(ups lo n)[i]?∣x):i<n/\x=lo+(i:Int):=by
 let hi:i<n:=by have:=(RP.mp h).1;rwa [bp] at this
 refine⟨hi,?_⟩;unfold ups at h;rw[R6,SU hi] at h;exact(Option.some.inj h).symm
theorem yD (lo:Int)(n:Nat):Src K (Dl lo n) R1 ag (ups lo n):=λH' R' sR sH i=>⟨λx hx=>by
 let⟨h1,rfl⟩:=eQ hx;refine⟨h1,λv H2 hy=>?_⟩;let⟨rfl,rfl⟩:=hy;exact⟨R',Ext.refl sH,rfl⟩,λhi=>by rw[bp] at hi;exact hi⟩
theorem dy {a:Expr}(hm:X.mg "range"=none)(ha:EV X a Z ag n Γ1)(hn: -(2 ^ 62)<=n/\n<=1000000)(hs1:fU X a:=by rfl)(hg:Gl X "range":=by rfl):IV X tg (.Call (.Name "range" p1) [a] [] p2) Z ag (ups 0 n.toNat) Γ1:=by
 refine⟨_,BS hg hm (aI aO bq hs1) hs1,λσ H0 R0 H R E Rq q=>ha σ H0 R0 H R E _ λv H1 R1 E1 s1 e1=>?_⟩;exact⟨n,by rw[show v=V.int n from e1],hn.1,`a,q _ H1 R1 E1 s1 (by rw[bp];exact Um (show n.toNat<=1000000 by cbv) `c) (yD 0 n.toNat)⟩
theorem Cj {a:Expr}{m:Int}(hm:X.mg "range"=none)(ha:EV X a Z ag m Γ1)(hb:EV X b Γ1 ag n Γ2)(hn: -1000000<=m/\m<=1000000/\ -1000000<=n/\n<=1000000)(hs1:v5 X a b:=by rfl)(Yh:fU X b:=by rfl)(hg:Gl X "range":=by rfl):IV X tg (.Call (.Name "range" p1) [a,b] [] p2) Z ag (ups m (n-m).toNat) Γ2:=by
 refine⟨_,Dm hg hm (aI aO (aI aO bq Yh) (by first | rw[dh,hs1,Yh] | rw[hs1,Yh])) hs1 Yh,λσ H0 R0 H R E Rq q=>ha σ H0 R0 H R E _ λv H1 R1 E1 s1 e1=>hb σ H0 R0 H1 R1 E1 _ λu H2 R2 E2 s2 e2=>?_⟩;exact⟨m,n,by rw[show v=V.int m from e1,show u=V.int n from e2],⟨`a,`a,`a,`a⟩,q _ H2 R2 E2 `E (by rw[bp];exact Um (show(n-m).toNat<=2000000 by cbv) `c) (yD m (n-m).toNat)⟩
theorem bN (I:Nat->Ga->Prop)(hit:IV X tg iter Z r xs Γ1)(hb:BG X tg r bf)(h0:I 0 Γ1)(Yk:∀(i:Nat)(x:α)(Z:Ga),xs[i]?∣x->I i Z->WS X body (bf x Z) (I (i+1)) T)(YB:∀Z:Ga,I xs.length Z->N Z)(hc:X.calm=true:=by rfl)(hp:VR `f X.A X.env X.xe:=by exact VR.never)(hs:∀x,Va iter X.env x=pure x:=by intro _;rfl):W1 X (.For tg iter body [] pos) Z N T:=λσ H0 R0 H R E D dn dr=>by
 let⟨wi,hi,hit⟩:=hit;refine sS (CZ hp hc hi PR iM hs) (hit σ H0 R0 H R E _ λJ H1 R1 E1 s1 hz src=>?_);refine⟨λi m σ' H'=>m=xs.length-i/\i<=xs.length/\∃R' Γ',ar X.K σ' H0 R0 H' R' Γ'/\av R1 R'/\I i Γ',⟨_,rfl,Ul _,R1,Γ1,E1,av.refl _,h0⟩,?_⟩;rintro i m σ' H' ⟨rfl,hle,R',Γ',E',s',hI⟩;let⟨sgo,Y5⟩:=src H' R' s' E'.sub i;by_cases Yq:i<xs.length
 ·let⟨go,yl⟩:=sgo _ (RQ Yq);refine .inr ⟨go,λσ' H'=>i+1<=xs.length/\∃R' Γ',ar X.K σ' H0 R0 H' R' Γ'/\av R1 R'/\I (i+1) Γ',λσ2 H2 h=>⟨xs.length-(i+1),`a,rfl,h.1,h.2⟩,λv H2 hy=>?_⟩;let⟨R2,x2,hr⟩:=yl v H2 hy;refine hb σ' H0 R0 H2 R2 Γ' v _ (E'.grow x2) hr _ λσ2 E2=>?_;exact Yk i _ Γ' (RQ Yq) hI σ2 H0 R0 H2 R2 E2 _ (λσ3 H3 R3 Γ3 E3 s3 h3=>⟨Yq,R3,Γ3,E3,s'.trans (x2.r.trans s3),h3⟩) dr
 ·let e:i=xs.length:=`a
  subst e;exact .inl ⟨Y5 (Uk _),dn σ' H' R' Γ' E' (s1.trans s') (YB Γ' hI)⟩
noncomputable def A2:Option Ent->Ent
 | some (.im r x)=>.im r x
 | _=>.no
noncomputable def dw (own:Rm)(ix:List Nat)(Z:Ga):Ga:=SW own.length .no++ix.map λi=>A2 Z[i]?
theorem ya (E:`C)(own:Rm)(ix:List Nat):ar K (iu own ix σ) H R H R (dw own ix Z):=by
 let X7:∀(i:Nat)(e:Ent)(o:Option V),(dw own ix Z)[i]?∣e->e.fp o=[]:=λi e o q=>by
  unfold dw at q;obtain z | z:=Se.mp (R7 q)
  ·let⟨_,rfl⟩:=T4.mp z;rfl
  ·let⟨k,_,rfl⟩:=Sk.mp z;unfold A2;split<;>rfl
 refine⟨Ext.refl E.sub,λi e q=>?_,λi e a q w=>Xt w (by rw[X7 i e _ q];exact SR),λi j e e' a q _ w=>Xt w (by rw[X7 i e _ q];exact SR),by unfold dw iu;simp⟩;unfold dw at q;unfold iu;by_cases hi:i<own.length
 ·rw[So (~~~hi),Tp] at q;rw[Xv hi] at q;cases q;trivial
 ·rw[Su (~~~hi),Ta,R6] at q;rw[Su (~~~hi),Ta,R6];cases ek:ix[i-own.length]? with
  | none=>rw[ek] at q;cases q
  | some k=>
    rw[ek] at q;let q':A2 Z[k]?=e:=Option.some.inj q;subst q';show(A2 Z[k]?).ok K H R (σ[k]?).join;cases eg:Z[k]? with
    | none=>trivial
    | some e=>
      cases e with
      | im r x=>exact E.ent k _ eg
      | no=>trivial
      | mu r x=>trivial
      | di x=>trivial
      | ob x=>trivial
theorem ox {cl:`aQ}{own:Rm}{p:α->Bool}{J:It}{H1:Hp}(E1:ar X.K σ H0 R0 H1 R1 Γ1)(src:Src X.K J R1 ra xs)(hz:xs.length<=UZ)(hb:∀(C:Addr)(s:U0)(H:Hp)(ex:Ro),BG `m tg ra bf)(hw:∀x,Wk `v (dw own ix Γ1))(ht:∀(C:Addr)(s:U0)(H:Hp)(ex:Ro) x,x∈xs->TF `m ifs `v (p x) `v)(he:∀(C:Addr)(s:U0)(H:Hp)(ex:Ro) x,x∈xs->p x=true->EV `m elt `v rb (f x) `v)(q:∀a vs H' R',Ext H1 R1 H' R'->H' a=none->PySem.Paired (rb.R X.K R') vs ((xs.filter p).map f)->Q (.ref a) (upd H' a (.lst vs))):
 ∃W:Nat->Nat->List V->St->Hp->Prop,(∃m,W 0 m [] (iu own ix σ) H1)/\∀i m ys σ' H',W i m ys σ' H'->
  ys.length<=UZ/\((J.stop i H'/\∀p,H' p=none->Q (.ref p) (upd H' p (.lst ys)))∨
  (J.go i H'/\∀x H2,J.yld i H' x H2->(λv σ H Q=>∀C s Hh ex,nQ `q tg v σ H Q:TG) x σ' H2 λσ2 H3=>(λσ H Q=>∀C s Hh ex,oC `q ifs σ H Q:TT) σ2 H3 λb H4=>
    if b=true then(λσ H Q=>∀C s Hh ex,fX `q elt σ H Q:TE) σ2 H4 λv H5=>∃m',m'<m/\W (i+1) m' (ys++[v]) σ2 H5 else∃m',m'<m/\W (i+1) m' ys σ2 H4)):=by
 refine⟨λi m ys σ' H'=>m=xs.length-i/\i<=xs.length/\∃R',ar X.K σ' H1 R1 H' R' (dw own ix Γ1)/\PySem.Paired (rb.R X.K R') ys (((xs.take i).filter p).map f),⟨_,rfl,Ul _,R1,ya E1 own ix,.nil⟩,?_⟩;rintro i m ys σ' H' ⟨rfl,hle,R',E',pp⟩;let hys:ys.length<=UZ:=by
  rw[pp.length,RS];refine Um (Tn _ _) (Um ?_ hz);rw[Sm];cbv
 let⟨sgo,Y5⟩:=src H' R' E'.ext.r E'.sub i;refine⟨hys,?_⟩;by_cases Yq:i<xs.length
 ·let⟨go,yl⟩:=sgo _ (RQ Yq);let Zm:xs[i]∈xs:=SD Yq;let tk:(xs.take (i+1))=xs.take i++[xs[i]]:=by rw[SG,RQ Yq];rfl
  refine .inr ⟨go,λv H2 hy C s Hh ex=>?_⟩;let⟨R2,x2,hr⟩:=yl v H2 hy;refine hb C s Hh ex σ' H1 R1 H2 R2 _ v _ (E'.grow x2) hr _ λσ2 E2=>?_;intro C s Hh ex;refine ht C s Hh ex _ Zm σ2 H1 R1 H2 R2 E2 _ λH4 R4 E4 s4=>?_;cases hpx:p xs[i] with
  | false=>
    rw[Xu Rv];refine⟨xs.length-(i+1),`a,rfl,Yq,R4,E4.weak (hw _),?_⟩;rw[tk,SH,TK,hpx,Xu Rv,filter_nil,Sl];exact Paired.map (λ_ _=>rb.mono (x2.r.trans s4)) pp
  | true=>
    rw[Xv rfl];intro C s Hh ex;refine he C s Hh ex _ Zm hpx σ2 H1 R1 H4 R4 E4 _ λw H5 R5 E5 s5 e5=>?_;refine⟨xs.length-(i+1),`a,rfl,Yq,R5,E5.weak (hw _),?_⟩;rw[tk,SH,TK,hpx,Xv rfl,filter_nil,Sf];exact dQ (Paired.map (λ_ _=>rb.mono (x2.r.trans (s4.trans s5))) pp) (.cons e5 .nil)
 ·let e:i=xs.length:=`a
  subst e;rw[SK] at pp;exact .inl ⟨Y5 (Uk _),λa ha=>q a ys H' R' E'.ext ha pp⟩
theorem bV {cl:`aQ}{own:Rm}{p:α->Bool}(S:fF X scope cl own fr ix)(hit:IV X tg iter Z ra xs Γ1)(hb:∀(C:Addr)(s:U0)(H:Hp)(ex:Ro),BG `m tg ra bf)(hw:∀x,Wk `v (dw own ix Γ1))(ht:∀(C:Addr)(s:U0)(H:Hp)(ex:Ro) x,x∈xs->TF `m ifs `v (p x) `v)(he:∀(C:Addr)(s:U0)(H:Hp)(ex:Ro) x,x∈xs->p x=true->EV `m elt `v rb (f x) `v)(hc:X.calm=true:=by rfl)(hs:∀x,Va iter X.env x=pure x:=by intro _;rfl):aZ X `aH Z rb ((xs.filter p).map f) Γ1:=by
 intro σ H0 R0 H R E Q q;let⟨wi,hi,hit⟩:=hit;refine eS (Ij (g:=λv σ H Q=>∀C s Hh ex,nQ `q tg v σ H Q) (tc:=λσ H Q=>∀C s Hh ex,oC `q ifs σ H Q) (te:=λσ H Q=>∀C s Hh ex,fX `q elt σ H Q) hc S hi
  `x hs) ?_
 refine hit σ H0 R0 H R E _ λJ H1 R1 E1 s1 hz src=>ox E1 src hz hb hw ht he λa vs H' R' xx ha pp=>?_;let E2:=E1.grow xx;exact q a vs _ R' (E2.grow (Ext.d6 E2.sub ha _)) (s1.trans xx.r) aD (E2.sub.free ha) (E2.ext.h.free ha) (E2.off ha) pp (by
  rw[RS];exact Um (Tn _ _) hz)
theorem nh (i:Nat){py YL:Pos}{cl:`aQ}{own:Rm}{p:α->Bool}(S:fF X scope cl own fr ix)(hit:IV X tg iter Z ra xs Γ1)(hb:∀(C:Addr)(s:U0)(H:Hp)(ex:Ro),BG `m tg ra bf)(hw:∀x,Wk `v (dw own ix Γ1))(ht:∀(C:Addr)(s:U0)(H:Hp)(ex:Ro) x,x∈xs->TF `m ifs `v (p x) `v)(he:∀(C:Addr)(s:U0)(H:Hp)(ex:Ro) x,x∈xs->p x=true->EV `m elt `v rb (f x) `v)(h:N (Γ1.set i (.mu rb ((xs.filter p).map f))))(Yc:U7 `aH (some (.Name y py)) YL.line X.env=pure true:=by rfl)(hN:X.N.Nodup:=by first | assumption | decide)(hi':X.N[i]?∣y:=by rfl)(hx:`ax)(hc:X.calm=true:=by rfl)(hs:∀x,Va iter X.env x=pure x:=by intro _;rfl)(hf:autoParam (fM X y) YI):
 W1 X (.Assign [.Name y py] `aH YL) Z N T:=λσ H0 R0 H R E D dn dr=>by
 let⟨wi,hi,hit⟩:=hit;refine sS (nX (i:=i) (g:=λv σ H Q=>∀C s Hh ex,nQ `q tg v σ H Q) (tc:=λσ H Q=>∀C s Hh ex,oC `q ifs σ H Q) (te:=λσ H Q=>∀C s Hh ex,fX `q elt σ H Q) Yc hN hi' hx hc S hi
  `x hs hf) ?_
 refine hit σ H0 R0 H R E _ λJ H1 R1 E1 s1 hz src=>ox (Q:=λv H'=>D.nx (σ.set i (some v)) H') E1 src hz hb hw ht he λa vs H' R' xx ha pp=>?_;let E2:=E1.grow xx;exact dn _ _ R' _ ((E2.grow (Ext.d6 E2.sub ha _)).xy (u:=.lst vs) (en:=.mu rb ((xs.filter p).map f)) i ⟨a,vs,rfl,aD,E2.sub.free ha,pp⟩ (E2.ext.h.free ha) λj e _ q w=>E2.off ha j e q w) (s1.trans xx.r) h
end
variable {ws:`R}
section
variable {XD:Rk}{s:U0}{tp:Pos}
theorem pX {h':Heap}{t':Nat}{fp:Ro}(I:`j)(k:∀b o,b∉fp->s.heap.get? b∣o->h'.get? b∣o)(hf:∀b∈fp,mG X XD H b):Inv X XD σ H {s with heap:=h',toks:=t'}:=by
 let nit:∀b u,H b∣u->b∉fp:=λb u e z=>by rw[(hf b z).1] at e;cases e
 refine I.step (g':=s.gens) (d':=s.drawn) (ch:=fp) (λb hb=>⟨(hf b hb).2.2.2.1,(hf b hb).2.1,(hf b hb).2.2.2.2.1,(hf b hb).2.2.2.2.2⟩) (λb o _ _ hc e _=>k b o hc e) (λb o _ _ hc e _=>⟨o.slots,k b o hc e⟩) (λ_ _ _ _ n=>n)
  (λb o hc e=>⟨o,k b o hc e⟩) (λ_ _ e=>e) (λ_ _ _ e=>e) (λb ps e=>⟨#[],by rw[e];simp⟩) (λm hm=>?_) (λb u e=>?_) I.bare
 ·let⟨o,es,ep,ho,r⟩:=hm;exact⟨o,es,ep,k _ o (λz=>(hf _ z).2.1 rfl) ho,r⟩
 ·refine(I.XJ b u e).Yi (λc v hc q=>k c v ?_ q) (λ_ q=>q) λ_ _ q=>q;obtain z | z:=hc
  ·rw[z];exact nit b u e
  ·exact nit c _ z
theorem adopt {o:HO}(I:`j)(hf:mG X XD H a)(hy:X.s₀.heap.objs.size<=a)(new:c9 X.prog X.w (upd H a o) s.heap a o):Inv X XD σ (upd H a o) s:=by
 let ne:∀{b:Addr}{u:HO},H b∣u->b≠a:=λe=>dq e hf.1;let ne0:∀{b:Addr}{u:Obj},X.s₀.heap.get? b∣u->b≠a:=λe z=>Xt (Uq (WE e) hy) (by rw[z];exact Us _);refine⟨I.ok,I.os,I.bare,⟨I.base.keep,I.base.slot,λb u e n hx=>by rw[aG (ne0 e)];exact I.base.free b u e n hx,I.base.there,λb xs e=>?_,λb u v e=>?_,λb ps e=>?_⟩,I.loc,I.cell,?_,λx c e=>?_,λp hp=>?_,λb u e=>?_,I.len⟩
 ·let q:=I.base.YX b xs e;rw[aG (ne q)];exact q
 ·let q:=I.base.YQ b u v e;rw[aG (ne q)];exact q
 ·let⟨m,q⟩:=I.base.YY b ps e;exact⟨m,by rw[aG (ne q)];exact q⟩
 ·rw[aG (UJ hf.2.1)];exact I.free
 ·rw[aG (hf.2.2.2.2.1 x c e)];exact I.Yr x c e
 ·let⟨e,n,r⟩:=I.pin p hp;exact⟨e,by rw[aG (hf.2.2.2.2.2 p hp)];exact n,r⟩
 ·by_cases hb:b=a
  ·subst hb;rw[aD] at e;cases e;exact new
  ·rw[aG hb] at e;exact(I.XJ b u e).Yi (λc v _ q=>q) (λc q=>by rw[aG (ne q)];exact q) λc xs q=>by rw[aG (ne q)];exact q
def Pq (K:W7)(a:Addr):It:=
 ⟨λi H=>∃xs x,bt K H a xs/\xs[i]?∣x,λi H v H'=>∃p x,H p=none/\v= .ref p/\H'=upd H p (.tup [.int i,x])/\∀xs,bt K H a xs->xs[i]?∣x,λi H=>∃xs,bt K H a xs/\xs.length<=i⟩
theorem Bt {k:Nat}(a e it:Addr)(hei:e≠it):Turn P w K (.Tuple es k tp) (Pq K a) [e,it] e (λi h=>(∃old,IsEnum h e it i old)/\h.IsListIter it a i) where
 mem:=`d
 obj:=λi h st b hb=>by
  let⟨⟨old,he⟩,o,ho,hc,hd⟩:=st;obtain rfl | hb:=R9.mp hb
  ·exact⟨_,he,λv z=>by cases z⟩
  ·let e2:b=it:= ~~~hb
   subst e2;exact⟨o,ho,λv z=>by rw[hd] at z;cases z⟩
 keep:=λi h h' st kk=>⟨st.1.elim λold he=>⟨old,kk e `d _ he⟩,st.2.at λo x=>kk it `d o x⟩
 item:=by
  intro X hP hw hK hc i XD s σ H E I hf st hg;subst hP hw hK;let⟨⟨old,he⟩,hit⟩:=st;let⟨xs,x,hq,hx⟩:=hg;let⟨XF,r,pl,hz⟩:=I.list hq;let⟨u,hu,rx⟩:=r.get hx;let hn:H ⇑s=none:=I.XJ.fresh (Uk _);refine wpAny_pyNext_enum_item he hit pl.isList (x:=u) (~~~hu) hei λh' ho hit' hT hsz hk=>?_;refine⟨_,rfl,?_⟩;refine wpAny_letOwnedTupleGo_enum (s:={s with heap:=h',toks:=s.toks+1}) ho λh2 he2 Yh=>?_;let hk2:∀b o,b∉[e,it]->s.heap.get? b∣o->h2.get? b∣o:=λb o hb q=>by
   let Z3:b≠e:=λz=>hb (by simp[z]);exact Yh.extBut b o Z3 (hk b o Z3 (λz=>hb (by simp[z])) q)
  let I1:Inv X XD σ H {s with heap:=h2,toks:=s.toks+1}:=pX I hk2 hf;let hel:e≠⇑s:=Ur (WE he);let hT2:h2.get? ⇑s=some {cls:=.type "tuple",data:=.seq #[.int i s.toks,u]}:=(Yh.2 _ (UJ hel)).trans hT;let I2:Inv X XD σ (upd H ⇑s (.tup [.int i,x])) {s with heap:=h2,toks:=s.toks+1}:=
   adopt I1 (I.ka (Uk _) hn) (I.sz) ⟨by show 2<=UZ;decide,[.int i s.toks,u],.cons ⟨_,rfl⟩ (.cons rx .nil),⟨_,hT2,rfl,_,rfl⟩⟩
  refine⟨.ref ⇑s,_,I2,rfl,⟨⇑s,x,hn,rfl,rfl,λys hy=>?_⟩,⟨⟨u,by simpa using he2⟩,hit'.at λo y=>(Yh.2 it (UJ hei)).trans y⟩,λb hb=>?_⟩
  ·rw[I.nH hy hq];exact hx
  ·let Yq:b<⇑s:=by
    obtain rfl | hb:=R9.mp hb
    ·exact WE he
    ·let e2:b=it:= ~~~hb
     subst e2;let⟨o,ho,_⟩:=hit;exact WE ho
   rw[aG (Ur Yq)];exact(hf b hb).1
 done:=by
  intro X hP hw hK hc i XD s σ H E I hf st hg;subst hP hw hK;let⟨⟨old,he⟩,hit⟩:=st;let⟨xs,hq,hx⟩:=hg;let⟨XF,r,pl,hz⟩:=I.list hq;refine wpAny_pyNext_enum_end (I.ok.hd hc) he hit pl.isList (by have:=r.length;simp;cbv) λh' hk=>⟨rfl,?_⟩;exact pX (t':=s.toks) I (λb o hb q=>hk b o (λz=>hb (by simp[z])) q) hf
 self:=λ_ _ _ _ _ st h=>st.1.elim λold he=>wpAny_pyIter_enum he h
def MQ (K:W7)(ta:TA):TI:=λσ H R=>ta σ H λvs H1=>∃a xs,vs=[.ref a]/\bt K H1 a xs/\R (Pq K a) H1
theorem Iw {a:Expr}{ta:TA}{p:Pos}{k:Nat}(hg:Gl X "enumerate")(hm:X.mg "enumerate"=none)(ha:PA X [a] ta)(hs:fU X a:=by rfl):PI X (.Tuple es k tp) (.Call (.Name "enumerate" p) [a] [] pos) (MQ X.K ta):=by
 intro XD s σ H R I h;refine Call_ (je I hg hm boot_enumerate (UQ `U hs rfl));let⟨l,xs,e,hq,q⟩:=q1;subst e;cases r1 with
 | cons r rr=>
   cases rr
   cases r
   let⟨XF,r',pl,hz⟩:=I1.list hq;refine call_enumerate_list pl.isList λh' he hit hsz hk=>?_;refine wpAny_pyIter_enum he ?_;let I2:Inv X XD σ H1 {s1 with heap:=h'}:=I1.kept (t':=s1.toks) hk;let f0:H1 ⇑s1=none:=I1.XJ.fresh (Uk _);let f1:H1 (⇑s1+1)=none:=I1.XJ.fresh (Uw _);refine⟨⇑s1+1,[⇑s1+1,⇑s1],_,_,H1,rfl,I2,Bt l (⇑s1+1) ⇑s1 (Uy (Uv _)),⟨⟨.none,he⟩,hit⟩,λb hb=>?_,q⟩;obtain rfl | hb:=R9.mp hb
   ·exact I1.ka (Uw _) f1
   ·let e2:b=⇑s1:= ~~~hb
    subst e2;exact I1.ka (Uk _) f0
noncomputable def nums (xs:`u):List (Int×α):=(xs.zipIdx).map λp=>((p.2:Int),p.1)
theorem cL (xs:`u):(nums xs).length=xs.length:=by unfold nums;rw[RS,List.length_zipIdx]
theorem fD {y:Int×α}(h:(nums xs)[i]?∣y):y.1=(i:Int)/\xs[i]?∣y.2:=by
 unfold nums at h;rw[R6,List.getElem?_zipIdx] at h;cases e:xs[i]? with
 | none=>rw[e] at h;cases h
 | some x=>rw[e] at h;cases h;exact⟨`d,rfl⟩
theorem i6 {a:Expr}{p:Pos}{k:Nat}(hm:X.mg "enumerate"=none)(ha:EV X a Z (ae r) xs Γ1)(hs:fU X a:=by rfl)(hg:Gl X "enumerate":=by rfl):
 IV X (.Tuple es k tp) (.Call (.Name "enumerate" p) [a] [] pos) Z (cz ag r) (nums xs) Γ1:=by
 refine⟨_,Iw hg hm (aI aO bq hs) hs,λσ H0 R0 H R E Rq q=>ha σ H0 R0 H R E _ λv H1 R1 E1 s1 e1=>?_⟩;let⟨a,vs,rfl,hp,pp,z⟩:=e1;refine⟨a,vs,rfl,bt.of (E1.sub _ _ hp),q _ H1 R1 E1 s1 (by rw[cL];exact z) λH' R' sR sH i=>⟨λy hy=>?_,λhi=>?_⟩⟩
 ·let hq:bt X.K H' a vs:=bt.of (sH _ _ (sR _ _ hp));let⟨e1,e2⟩:=fD hy;let⟨v,hv,hr⟩:=fH pp e2;refine⟨⟨vs,v,hq,hv⟩,λv' H2 hyl=>?_⟩;let⟨p,x,hpn,rfl,rfl,hy⟩:=hyl;have:=hy vs hq;rw[hv] at this;cases this
  let s2:av R' (upd R' p (.tup [.int i,v])):=av.fresh (sH.free hpn) _;exact⟨upd R' p (.tup [.int i,v]),Ext.fresh sH hpn _,p,_,_,rfl,aD,by rw[e1];rfl,r.mono s2 (r.mono sR hr)⟩
 ·exact⟨vs,bt.of (sH _ _ (sR _ _ hp)),by rw[pp.length,← cL xs];exact hi⟩
theorem yz:gb X (.builtin "isinstance") (λxs H Q=>∃x c t b,xs=[x,.ty c]/\fP X.K H x t/\Xq X.K t (.type c)∣b/\Q (.bl b) H):=by
 intro XD s σ H xs us Q I r h;let⟨x,c,t,b,rfl,ty,e,q⟩:=h;let⟨u,u2,rfl,r1,r2⟩:=vals2 r;cases (show u2=W6 c from r2)
 exact BY I r1 ty e λtk=>⟨.bl b,H,I.tok tk,rfl,q⟩
theorem bu {p:Pos}{x:α}{c:String}{t:`aM}{b:Bool}(hm:X.mg "isinstance"=none)(hmy:X.mg y=none)(hvy:Vq y∣.type c)(he:EV X e Z r x Γ1)(ty:∀(R H:Hp) v,av R H->r.R X.K R v x->fP X.K H v t)(ht:∀K:W7,Xq K t (.type c)∣b:=by intro;rfl)(hs:U5 [e,.Name y p2] X.env=(false,eval e X.env)::U5 [.Name y p2] X.env:=by rfl)(hg:Gl X "isinstance":=by rfl)(hgy:Gl X y:=by rfl)(hny:y≠"__name__":=by decide)(hdy:Yz y:=by decide):EV X (.Call (.Name "isinstance" p) [e,.Name y p2] [] pos) Z c7 b Γ1:=by
 intro σ H0 R0 H R E Q q;refine eS (fg yz hg hm PyProof.Rows.boot_isinstance (aI aO (aI (Hl (v:=.ty c) hgy hmy hvy rfl hny hdy) bq rfl) hs) `c `c hs rfl) `K;exact⟨v,c,t,b,rfl,ty R1 H1 v E1.sub e1,ht _,q _ H1 R1 E1 s1 rfl⟩
theorem ty_int {x:Int}(R H:Hp)(v:V)(_:av R H)(h:ag.R K R v x):fP K H v (.type "int"):=by cases h;exact .int _
theorem ty_list (R H:Hp)(v:V)(s:av R H)(h:(ae r).R K R v xs):fP K H v (.type "list"):=by let⟨a,vs,rfl,e,_⟩:=h;exact .lst (s _ _ e)
structure tF (r:Rep α)[DecidableEq α](n:Nat):Prop where
 inj:∀{K:W7}{R:Hp}{v:V}{x y:α},r.R K R v x->r.R K R v y->x=y
 eq:∀{X:Cx}{XD:Rk}{σ:St}{H:Hp}{s:U0}{R:Hp}{A:U6}(I:`j)(sub:av R H){v u:V}{vv uu:`aM}{x y:α},RelV v vv->RelV u uu->r.R X.K R v x->r.R X.K R u y->A.units+n<cLine->WV A s vv uu (decide (x=y))
theorem eq_int:tF ag 0:=by
 refine⟨by rintro K R v x y h1 h2;cases h1;cases h2;rfl,?_⟩
 intro X XD σ H s R A I sub v u vv uu x y rv ru h1 h2 hu;cases h1
 cases h2
 let⟨t,rfl⟩:=rv;let⟨t',rfl⟩:=ru;intro prog w E Q hq;refine wpAny_eqBool_int ?_;rw[Rz];exact hq
theorem in1_units (A:U6):A.in1.units=A.units+1:=rfl
theorem Ln {A:U6}(I:`j)(sub:av R H){b:Addr}{k:Nat->Bool}(ha:R a∣.tup vs)(hb:R b∣.tup ws)(hl:vs.length=ws.length)(hu:A.units<cLine)(he:∀(us us':Rp),Vals vs us->Vals ws us'->∀(j:Nat)(h1:j<us.toArray.size)(h2:j<us'.toArray.size),WV A.in1 s us.toArray[j] us'.toArray[j] (k j)):
 SeqAt.RcAt A s (.ref a) (.ref b) ((Sd vs.length).all k)/\SeqAt.RcNeAt A s (.ref a) (.ref b) (!(Sd vs.length).all k):=by
 let⟨us,hv,pl,_⟩:=I.tuple (d7.of (sub _ _ ha));let⟨us',hw,ZI,_⟩:=I.tuple (d7.of (sub _ _ hb));let lx:us.toArray.size=vs.length:=by rw[Si,← hv.length]
 let ly:us'.toArray.size=vs.length:=by rw[Si,← hw.length,hl]
 let r1:=SeqAt.RcAt.tuples (A:=A) pl ZI hu (he us us' hv hw);let r2:=SeqAt.RcNeAt.tuples (A:=A) pl ZI hu (he us us' hv hw);rw[lx,ly,Nat.min_self] at r1 r2;simp only[beq_self_eq_true,RF] at r1 r2;exact⟨r1,r2⟩
theorem uJ:gb X (.type "range") (λxs H Q=>∃n:Int,xs=[.int n]/\∀p,H p=none->Q (.ref p) (upd H p (.ZW 0 n))):=by
 intro XD s σ H xs us Q I r h;let⟨n,rfl,q⟩:=h;let⟨u,rfl,t,rfl⟩:=vals1 r;refine call_range_1 ?_;exact⟨.ref ⇑s,_,I.laid (o:=.ZW 0 n) (λb o e=>WC _ e) (Uk _) ⟨_,_,_,WG _ rfl⟩,rfl,q _ (I.XJ.fresh (Uk _))⟩
theorem tR:gb X (.type "range") (λxs H Q=>∃m n:Int,xs=[.int m,.int n]/\∀p,H p=none->Q (.ref p) (upd H p (.ZW m n))):=by
 intro XD s σ H xs us Q I r h;let⟨m,n,rfl,q⟩:=h;let⟨u,u2,rfl,⟨t,rfl⟩,⟨t2,rfl⟩⟩:=vals2 r;refine call_range_2 ?_;exact⟨.ref ⇑s,_,I.laid (o:=.ZW m n) (λb o e=>WC _ e) (Uk _) ⟨_,_,_,WG _ rfl⟩,rfl,q _ (I.XJ.fresh (Uk _))⟩
theorem oy (hc:X.calm=true):gb X (.type "list") (λxs H Q=>∃(p:Addr)(m n:Int),xs=[.ref p]/\H p∣.ZW m n/\ -1000000<=m/\m<=1000000/\ -1000000<=n/\n<=1000000/\∀d,H d=none->Q (.ref d) (upd H d (.lst ((ups m (n-m).toNat).map V.int)))):=by
 intro XD s σ H xs us Q I r h;let⟨p,m,n,rfl,hp,m1,m2,n1,n2,q⟩:=h;let⟨u,rfl,rx⟩:=vals1 r;cases rx
 let⟨t,t2,t3,ho⟩:=I.XJ p _ hp;let hsz:Wh m n 1=(((n-m).toNat:Nat):Int):=by rw[rangeSize_one];split<;>cbv
 refine call_list_range (I.ok.hd hc) ho (small_one `a `a `a `a) hsz `a λh' tk acc c' hk hS hacc=>?_;let vals:Vals ((ups m (n-m).toNat).map V.int) acc.toList:=by
  let key:∀(k:Nat)(XF:Rp)(lo:Int),XF.length=k->(∀(j:Nat) v,XF[j]?∣v->∃t,v= .int (lo+(j:Int)*1) t)->Vals ((ups lo k).map V.int) XF:=by
   intro k
   induction k with
   | zero=>intro XF lo hl _;cases XF with
     | nil=>exact .nil
     | cons _ _=>cases hl
   | succ k ih=>
     intro XF lo hl hv;cases XF with
     | nil=>cases hl
     | cons v r=>
       let e:ups lo (k+1)=lo::ups (lo+1) k:=by
        unfold ups;rw[List.range_succ_eq_map,Sx,S0];congr 1
        ·simp
        ·apply Tj;intro a _;simp;cbv
       rw[e,Sx];let⟨t,e0⟩:=hv 0 v rfl;refine .cons ⟨t,by rw[e0];simp⟩ (ih r (lo+1) (~~~hl) λj v hj=>?_);let⟨t,ej⟩:=hv (j+1) v (~~~hj);exact⟨t,by rw[ej];congr 1;push_cast;cbv⟩
  refine key _ _ m (by rw[Ru];exact hacc.1) λj v hj=>hacc.2 j v (~~~hj)
 exact⟨.ref _,_,I.laid (a:=⇑s) (o:=.lst ((ups m (n-m).toNat).map V.int)) hk (Uk _) ⟨by rw[RS,bp];exact Um (show(n-m).toNat<=2000000 by cbv) `c,acc.toList,c',vals,by rw[hS]⟩,rfl,q _ (I.XJ.fresh (Uk _))⟩
end
noncomputable def uy (scope:Scope)(env:Env):List (Str×Addr):=(scope.names.filterMap λp=>if p.2== .free then(env.cells.lookup p.1).map (λc=>(p.1,c)) else none).reverse
theorem rP {env:Env}:∀(names:List (Str×Vx))(acc:`aQ),(∀y∈names,y.2= .free->∃c,env.cells.lookup y.1∣c)->
 (forIn names acc λ(x:Str×Vx)(r:`aQ)=>if(x.2==Vx.free)=true then do let a ← cellOf env x.1;pure (RH ((x.1,a)::r)) else pure (RH r):Sem (List (Str×Addr)))
  =pure ((names.filterMap λp=>if p.2== .free then(env.cells.lookup p.1).map (λc=>(p.1,c)) else none).reverse++acc)
 | [],acc,_=>rfl
 | (n,k)::r,acc,h=>by
   let ih:=rP (env:=env) r;rw[Ug,TR];cases hk:(k==Vx.free) with
   | false=>
     simp only[hk,RC,if_false];rw[pure_bind];exact ih acc λy hy=>h y (RX _ hy)
   | true=>
     let⟨c,hc⟩:=h (n,k) RZ (eq_of_beq hk);let Y1:cellOf env n=pure c:=by unfold cellOf;rw[hc]
     simp only[hk,if_true,hc,UM,Y1];rw[pure_bind,pure_bind];show forIn r ((n,c)::acc) _=_;rw[ih ((n,c)::acc) λy hy=>h y (RX _ hy)];simp
theorem AF {own:Rm}(hk:scope.kind= .function)(hn:∀y∈scope.names,y.2≠ .cell)(hl:∀y∈scope.names,y.2= .local->scope.names.lookup y.1∣.local)(hc:∀x,X.env.scope.names.lookup x∣.cell->∃c,X.env.cells.lookup x∣c)(hf:∀y∈scope.names,y.2= .free->X.env.scope.names.lookup y.1∣.cell)(hfr:∀x∈fr,scope.names.lookup x∣.free)(hlen:fr.length=ix.length)(Ym:∀(k i:Nat)(x:Str),ix[k]?∣i->fr[k]?∣x->X.N[i]?∣x):fF X scope (uy scope X.env) own fr ix:=by
 let free:∀y∈scope.names,y.2= .free->∃c,X.env.cells.lookup y.1∣c:=λy hy e=>hc _ (hf y hy e);refine⟨?_,λx c e=>?_,hk,hn,hl,λx e=>?_,hfr,hlen,λk i x e1 e2=>⟨Ym k i x e1 e2,hf (x,.free) (Vc (hfr x (R7 e2))) rfl⟩⟩
 ·have:=rP (env:=X.env) scope.names [] free;rw[Sl] at this;let e:closureFor scope X.env=((forIn scope.names [] λ(x:Str×Vx)(r:`aQ)=>if(x.2==Vx.free)=true then do let a ← cellOf X.env x.1;pure (RH ((x.1,a)::r)) else pure (RH r):Sem (List (Str×Addr))) >>=λcs=>pure cs):=rfl;rw[e,this,pure_bind];rfl
 ·let m:=Vc e;unfold uy at m;let⟨p,_,hp⟩:=T3.mp (List.mem_reverse.mp m);split at hp
  ·cases q:X.env.cells.lookup p.1 with
   | none=>rw[q] at hp;cases hp
   | some c'=>rw[q] at hp;cases hp;exact q
  ·cases hp
 ·let m:=Vc e;let⟨c,hcc⟩:=free _ m rfl;let m2:(x,c)∈uy scope X.env:=by
   unfold uy;refine List.mem_reverse.mpr (T3.mpr ⟨(x,.free),m,?_⟩);simp[hcc]
  cases q:(uy scope X.env).lookup x with
  | some c'=>exact⟨c',rfl⟩
  | none=>
    rw[List.lookup_eq_none_iff] at q;exact Xt (q _ m2) `d
noncomputable def DF (scope so:Scope)(N0 fr:Rm)(ix:List Nat):Bool:=
 decide (scope.kind= .function)&&scope.names.all (λy=>decide (y.2≠ .cell)&&(decide (y.2≠ .local) ||decide (scope.names.lookup y.1∣.local))&&(decide (y.2≠ .free) ||decide (so.names.lookup y.1∣.cell)))
  &&fr.all (λx=>decide (scope.names.lookup x∣.free))&&decide (fr.length=ix.length)&&(Sd ix.length).all λk=>match ix[k]?,fr[k]? with | some i,some x=>decide (N0[i]?∣x) | _,_=>true
theorem bH {so:Scope}{N0 own:Rm}(hso:X.env.scope=so)(hN0:X.N=N0)(hc:∀x,X.env.scope.names.lookup x∣.cell->∃c,X.env.cells.lookup x∣c)(h:DF scope so N0 fr ix=true):fF X scope (uy scope X.env) own fr ix:=by
 unfold DF at h;simp only[Rx,RE,decide_eq_true_eq,TJ] at h;let⟨⟨⟨⟨h1,h2⟩,h3⟩,h4⟩,h5⟩:=h;refine AF h1 (λy hy=>(h2 y hy).1.1) (λy hy e=>(h2 y hy).1.2.resolve_left λz=>z e) hc (λy hy e=>by rw[hso];exact(h2 y hy).2.resolve_left λz=>z e) h3 h4 λk i x e1 e2=>?_;let hk:k<ix.length:=(RP.mp e1).1;have:=h5 k (S3.mpr hk);rw[e1,e2] at this;rw[hN0];simpa using this
theorem Ab (i:Nat){k:Nat}{p:Pos}{Pd:α->Prop}(C:`aR)(hr:bG k X.A)(ha:HA X (e::es) Z ps Γ1)(hS:S X.K ps (cP X.K r Pd))(h:∀z,Pd z->N (Γ1.set i (.im r z)))(hg:Gl X x:=by rfl)(Yd:Yz x:=by decide)(he:dh X e es:=by rfl)(X1:fo X p2 es:=by rfl)(hN:X.N.Nodup:=by first | assumption | decide)(hi:X.N[i]?∣y:=by rfl)(hx:`ax)(hs:U7 (.Call `ao (e::es) [] p2) (some (.Name y p1)) pos.line X.env=pure false:=by rfl)(hf:autoParam (fM X y) YI):
 W1 X (.Assign [.Name y p1] (.Call `ao (e::es) [] p2) pos) Z N T:=λσ H0 R0 H R E D dn dr=>
 sS (j8 hN hi hx aO hs hf) (lO C hr ha hS E (λH1 R1 v H' R' E1 s1 xx t=>by
  let⟨z,e1,hz⟩:=t;exact dn _ H' R' _ ((E1.grow xx).set i e1) (s1.trans xx.r) (h z hz)) hg Yd he X1)
theorem K0 {w:Row}(h:EV X iter Z dU w Γ1):IV X tg iter Z ag [w.1,w.2.1,w.2.2.1,w.2.2.2] Γ1:=by
 refine⟨_,BU aO,λσ H0 R0 H R E Rq q=>h σ H0 R0 H R E _ λv H1 R1 E1 s1 e1=>?_⟩;let⟨a,rfl,ha⟩:=e1;let ZE:∀H' R':Hp,av R1 R'->av R' H'->d7 X.K H' a [.int w.1,.int w.2.1,.int w.2.2.1,.int w.2.2.2]:=λH' R' sR sH=>d7.of (sH _ _ (sR _ _ ha));refine⟨a,rfl,⟨_,ZE H1 R1 `S E1.sub⟩,q _ H1 R1 E1 s1 (by show 4<=UZ;decide) λH' R' sR sH i=>⟨λx hx=>?_,λhi=>⟨_,ZE H' R' sR sH,hi⟩⟩⟩;let e2:([.int w.1,.int w.2.1,.int w.2.2.1,.int w.2.2.2]:List V)[i]?∣.int x:=by
  have:=congrArg (Option.map V.int) hx;rw[← R6] at this;exact this
 refine⟨⟨_,_,ZE H' R' sR sH,e2⟩,λv H2 hy=>?_⟩;let⟨rfl,hy⟩:=hy;have:=hy _ (ZE _ R' sR sH);rw[e2] at this;cases this
 exact⟨R',Ext.refl sH,rfl⟩
variable {rr:Rep β}
theorem Ib:fk X (Vu .Mult) (rI Wa λi j=>.int (i*j)):=zh λ_ _ _ _ _ _ _ hc q=>mul_int q hc
theorem mM {a:Expr}{x y:Int}(ha:EV X a Z ag x Γ1)(hb:EV X b Γ1 ag y Γ2)(h:Wa x y):EV X (.BinOp a .Mult b pos) Z ag (x*y) Γ2:=kC Ib ha hb λR v u H Q e1 e2 q=>⟨x,y,e1,e2,h,q _ rfl⟩
noncomputable def aP (a:Addr)(r:Rep α)(xs:`u):oq where
 fp:=[a]
 R:=λK H R v=>v= .ref a/\∃vs,H a∣.lst vs/\PySem.Paired (r.R K R) vs xs
 loc:=λhH hR ⟨e,vs,h,p⟩=>⟨e,vs,(hH a (RU.mpr rfl)).trans h,Paired.map (λ_ _=>r.mono hR) p⟩
 has:=λ⟨e,vs,h,p⟩ b hb=>by rw[RU.mp hb,h];exact UL _
theorem nu (h:H a∣.lst vs)(hR:R a=none)(p:PySem.Paired (r.R K R) vs xs):(Ent.ob (aP a r xs)).ok K H R (some (.ref a)):=
 ⟨⟨_,rfl,rfl,vs,h,p⟩,λb hb=>by rw[RU.mp hb];exact hR⟩
theorem dg (h:(Ent.ob (aP a r xs)).ok K H R o):o∣.ref a/\(∃vs,H a∣.lst vs/\PySem.Paired (r.R K R) vs xs)/\R a=none:=by
 let⟨⟨v,rfl,rfl,q⟩,n⟩:=h;exact⟨rfl,q,n a (RU.mpr rfl)⟩
theorem WS.box (i:Nat){Yx:List Stmt}(hΓ:`aC)(h:∀a,WS X Yx (Z.set i (.ob (aP a r xs))) N T):WS X Yx Z N T:=λσ H0 R0 H R E D dn dr=>by
 let⟨a,vs,ea,ha,hR,pp⟩:=E.ent i _ hΓ;exact h a σ H0 R0 H R (E.tell hΓ (by rw[ea];exact nu ha hR pp) λb w=>by
  rw[show b=a from RU.mp w];exact ck.mpr ea) D dn dr
theorem EV.box (i:Nat){xs':`u}{y:β}(h:EV X e (Z.set i (.mu r xs)) rr y Γ1)(hΓ:Z[i]?∣(.ob (aP a r xs)))(hΓ1:Γ1[i]?∣.mu r xs'):EV X e Z rr y (Γ1.set i (.ob (aP a r xs'))):=by
 intro σ H0 R0 H R E Q q;let⟨ea,⟨vs,ha,pp⟩,hR⟩:=dg (E.ent i _ hΓ);refine h σ H0 R0 H R (E.tell hΓ (by rw[ea];exact⟨a,vs,rfl,ha,hR,pp⟩) λb w=>by rw[ck.mp w] at ea;cases ea;exact RU.mpr rfl) Q λv H' R' E' s' hr=>q v H' R' ?_ s' hr
 let⟨a',Yg,Yf,Yv,Yj,YD⟩:=E'.ent i _ hΓ1;rw[ea] at Yf;cases Yf
 exact E'.tell hΓ1 (by rw[ea];exact nu Yv Yj YD) λb w=>by rw[show b=a from RU.mp w];exact ck.mpr ea
theorem TV.box (i:Nat){xs':`u}{y:Bool}(h:TV X e (Z.set i (.mu r xs)) y Γ1)(hΓ:Z[i]?∣(.ob (aP a r xs)))(hΓ1:Γ1[i]?∣.mu r xs'):TV X e Z y (Γ1.set i (.ob (aP a r xs'))):=by
 intro σ H0 R0 H R E Q q;let⟨ea,⟨vs,ha,pp⟩,hR⟩:=dg (E.ent i _ hΓ);refine h σ H0 R0 H R (E.tell hΓ (by rw[ea];exact⟨a,vs,rfl,ha,hR,pp⟩) λb w=>by rw[ck.mp w] at ea;cases ea;exact RU.mpr rfl) Q λH' R' E' s'=>q H' R' ?_ s'
 let⟨a',Yg,Yf,Yv,Yj,YD⟩:=E'.ent i _ hΓ1;rw[ea] at Yf;cases Yf
 exact E'.tell hΓ1 (by rw[ea];exact nu Yv Yj YD) λb w=>by rw[show b=a from RU.mp w];exact ck.mpr ea
theorem dH (j:Nat){i:Int}{y:α}(hb:EV X b Z ag i Z)(hΓ:Z[j]?∣(.ob (aP a r xs)))(h:bP xs i∣y)(hN:X.N[j]?∣x:=by rfl)(hv:autoParam (BR X.env.scope x) vA1)(hs:dN b:=by exact λ_ _=>rfl)(hd:Yz x:=by decide)(Zz:Cd0 x:=by decide):EV X (.Subscript `h b pos) Z r y Z:=by
 intro σ H0 R0 H R E Q q;let⟨ea,⟨vs,ha,pp⟩,hR⟩:=dg (E.ent j _ hΓ);refine eS (ir gU (aV ⟨hN,hv,hd,Zz⟩) aO hs) ⟨.ref a,at_of ea,hb σ H0 R0 H R E _ λu H2 R2 E2 s2 e2=>?_⟩;let⟨Yf,⟨Yg,Yv,YD⟩,Yj⟩:=dg (E2.ent j _ hΓ);let⟨w,e3,e4⟩:=i9 YD h;exact⟨a,Yg,i,w,rfl,e2,bt.of Yv,e3,q w H2 R2 E2 s2 e4⟩
theorem eN (i:Nat){y:α}{k:Int}(he:EV X e Z r y Γ1)(hb:EV X b Γ1 ag k Γ2)(hΓ1:Γ1[i]?∣(.ob (aP a r xs)))(hΓ2:Γ2[i]?∣(.ob (aP a r xs)))(hj:fO xs.length k∣j)(h:N (Γ2.set i (.ob (aP a r (xs.set j y)))))(hN:`o)(ha:∀v,Vt `ah X.env v=(do
  let ov ← Vk [v] (eval `h X.env)
  let iv ← Vk [v,ov] (eval b X.env)
  VG p2
  Vk [v,ov,iv] (V4 ov iv v)
  release [v,ov,iv] []):=by intro _;rfl)(hs:VE [.Subscript `h b p2] e pos.line X.env=pure false:=by rfl)(hw:VF [.Subscript `h b p2] e X.env=pure none:=by rfl)(h1:(Vf [.Subscript `h b p2] X.env).map (·.2)=[Vt `ah X.env]:=by rfl):
 W1 X (.Assign [.Subscript `h b p2] e pos) Z N T:=λσ H0 R0 H R E D dn dr=>by
 refine sS (sL aO (vL (aV hN) aO set_list ha) hs hw h1) `K;let⟨ea,⟨vs,hp,pp⟩,hR⟩:=dg (E1.ent i _ hΓ1);refine⟨.ref a,at_of ea,hb σ H0 R0 H1 R1 E1 _ λu H2 R2 E2 s2 e2=>?_⟩;let⟨Yf,⟨Yg,Yv,YD⟩,Yj⟩:=dg (E2.ent i _ hΓ2);refine⟨a,Yg,k,j,rfl,e2,Yv,by rw[YD.length];exact hj,?_⟩;exact dn σ _ R2 _ (E2.lF (en:=.ob (aP a r (xs.set j y))) hΓ2 (RU.mpr rfl) (by rw[Yf];exact nu aD Yj (kA (r.mono s2 e1) j YD)) λb w=>.inl w) `E h
noncomputable def del (H:Hp)(a:Addr):Hp:=λb=>if b=a then none else H b
theorem yn :del H a a=none:=Xv rfl
theorem ow {b:Addr}(h:b≠a):del H a b=H b:=Xu h
theorem Ir :av (del H a) H:=λb o q=>by
 by_cases h:b=a
 ·subst h;rw[yn] at q;cases q
 ·rwa [ow h] at q
theorem ar.F5 {H' R':Hp}(E:`C)(off:Off a σ Z)(h0:H0 a=none)(x:Ext (del H a) R H' R'):ar K σ H0 R0 H' R' Z:=by
 let ne:∀{b:Addr},H0 b≠none->b≠a:=λh e=>h (e▸h0);refine⟨⟨λb o q=>?_,E.ext.r.trans x.r,x.s,λb hb=>?_⟩,λi e q=>?_,E.nw,E.ds,E.len⟩
 ·exact x.h b o (by rw[ow (ne (by rw[q];exact UL _))];exact E.ext.h b o q)
 ·refine(x.old b ?_).trans (E.ext.old b hb);rw[ow (ne hb)];exact av.some E.ext.h hb
 ·let h1:=E.ent i e q;let na:∀b∈e.fp (σ[i]?).join,b≠a:=λb hb z=>off i e q (z▸hb);refine h1.loc (λb hb=>?_) x.r λb hb=>?_
  ·cases e2:H b with
   | none=>exact Xt e2 (Ent.fG h1 hb).1
   | some u=>exact x.h b u (by rw[ow (na b hb)];exact e2)
  ·exact(x.old b (by rw[ow (na b hb)];exact(Ent.fG h1 hb).1)).trans (Ent.fG h1 hb).2
theorem ar.kB (E:`C){e0:Ent}(hi:Z[i]?∣e0)(ho:en.ok K H R (σ[i]?).join)(Ya:∀b∈en.fp (σ[i]?).join,H0 b=none/\∀(j:Nat)(e:Ent),j≠i->Z[j]?∣e->b∉e.fp (σ[j]?).join):ar K σ H0 R0 H R (Z.set i en):=by
 refine⟨E.ext,λj e q=>?_,λj e b q w=>?_,λj k e e' b q q' w w'=>?_,by rw[SF];exact E.len⟩
 ·obtain⟨rfl,rfl,_⟩ | ⟨hj,q1⟩:=set_at q
  ·exact ho
  ·exact E.ent j e q1
 ·obtain⟨rfl,rfl,_⟩ | ⟨hj,q1⟩:=set_at q
  ·exact(Ya b w).1
  ·exact E.nw j e b q1 w
 ·obtain⟨rfl,rfl,_⟩ | ⟨hj,q1⟩:=set_at q
  ·obtain⟨rfl,rfl,_⟩ | ⟨hk,YR⟩:=set_at q'
   ·rfl
   ·exact Xt w' ((Ya b w).2 k e' hk YR)
  ·obtain⟨rfl,rfl,_⟩ | ⟨hk,YR⟩:=set_at q'
   ·exact Xt w ((Ya b w').2 j e hj q1)
   ·exact E.ds _ _ _ _ b q1 YR w w'
abbrev ma (α:Type):=W7->List α->List Pk->(List α->RT)->Prop
def gI (r:Rep α)(S:ma α)(K:W7):Sp:=λvs H Q _=>∃R a ws xs Yg ps T,vs= .ref a::Yg/\av R H/\R a=none/\H a∣.lst ws/\PySem.Paired (r.R K R) ws xs/\mq K R Yg ps/\S K xs ps T/\
 ∀v H' R' YH xs',Ext (del H a) R H' R'->H' a∣.lst YH->R' a=none->PySem.Paired (r.R K R') YH xs'->T xs' (del H a) v H' R'->Q v H'
theorem Cb {S:ma α}{k:Nat}{p:Pos}{TM:List α->RT}(i:Nat)(C:`aL)(hr:bG k X.A)(ha:HA X es Z ps Γ1)(hΓ:`aC)(hΓ1:Γ1[i]?∣.mu r xs)(hS:S X.K xs ps TM)(E:`aF)(q:∀H1 v H' R' xs',ar X.K σ H0 R0 H' R' (Γ1.set i (.mu r xs'))->av R R'->TM xs' H1 v H' R'->Q v H')(hg:Gl X x)(Yd:(x==("__debug__":Str))=false)(he:U5 (.Name y p1::es) X.env=(false,eval (.Name y p1) X.env)::U5 es X.env)(X1:fo X pos es)(hN:At X i y):fX X (.Call `ao (.Name y p1::es) [] pos) σ H Q:=by
 let⟨f,fd,pn,F,hm,hk,hb⟩:=C.ex;let⟨a,vs,ea,_,_,_⟩:=E.ent i _ hΓ;refine eS (iU F hr hg hm hk hb .nil kH (aI (aV hN) nj he) Yd he X1) ⟨.ref a,at_of ea,ha σ H0 R0 H R E _ λus H1 R1 E1 s1 p1=>?_⟩;let⟨a',ws,Yf,hp,hR,pp⟩:=E1.ent i _ hΓ1;rw[ea] at Yf;cases Yf
 let h0:H0 a=none:=E1.new i _ a hΓ1 rfl ea;refine⟨R1,a,ws,xs,us,ps,TM,by rw[Sl],E1.sub,hR,hp,pp,p1,hS,λv H' R' YH xs' xx h1 h2 pq t=>q _ v H' R' xs' ?_ (s1.trans xx.r) t⟩;let apart:∀(j:Nat)(e:Ent),j≠i->Γ1[j]?∣e->a∉e.fp (σ[j]?).join:=λj e hj qj w=>hj (E1.ds j i e _ a qj hΓ1 w (ck.mpr ea));let E2:ar X.K σ H0 R0 H1 R1 (Γ1.set i .no):=E1.tell hΓ1 trivial λb w=>by cases w
 let E3:=E2.F5 (a:=a) (λj e qj w=>by
  obtain⟨rfl,rfl,_⟩ | ⟨hj,q1⟩:=set_at qj
  ·cases w
  ·exact apart j e hj q1 w) h0 xx
 let hl:i<Γ1.length:=(RP.mp hΓ1).1;let E4:=E3.kB (i:=i) (e0:=.no) (en:=.mu r xs') (R8 hl) (by rw[ea];exact⟨a,YH,rfl,h1,h2,pq⟩) λb w=>by
  let eb:b=a:=by rw[ck.mp w] at ea;cases ea;rfl
  subst eb;exact⟨h0,λj e hj qj=>apart j e hj (by rwa [Ss (UJ hj)] at qj)⟩
 rw[Tb] at E4;exact E4
theorem vW (i:Nat){S:ma α}{k:Nat}{p:Pos}{st:`u}{z:β}(C:`aL)(hr:bG k X.A)(ha:HA X es Z ps Γ1)(hΓ:`aC)(hΓ1:Γ1[i]?∣.mu r xs)(hS:S X.K xs ps (λxs'=>cP X.K rr λw=>xs'=st/\w=z))(hg:Gl X x:=by rfl)(Yd:Yz x:=by decide)(he:U5 (.Name y p1::es) X.env=(false,eval (.Name y p1) X.env)::U5 es X.env:=by rfl)(X1:fo X pos es:=by rfl)(hN:autoParam (At X i y) bZ):
 EV X (.Call `ao (.Name y p1::es) [] pos) Z rr z (Γ1.set i (.mu r st)):=λσ H0 R0 H R E Q q=>
 Cb i C hr ha hΓ hΓ1 hS E (λH1 v H' R' xs' E' s' t=>by
  let⟨w,e1,rfl,rfl⟩:=t;exact q v H' R' E' s' e1) hg Yd he X1 hN
theorem f9 (i:Nat){S:ma α}{k:Nat}{p:Pos}{st:`u}{z:β}(C:`aL)(hr:bG k X.A)(ha:HA X es (Z.set i (.mu r xs)) ps (Z.set i (.mu r xs)))(hΓ:Z[i]?∣(.ob (aP a r xs)))(hS:S X.K xs ps (λxs'=>cP X.K rr λw=>xs'=st/\w=z))(hg:Gl X x:=by rfl)(Yd:Yz x:=by decide)(he:U5 (.Name y p1::es) X.env=(false,eval (.Name y p1) X.env)::U5 es X.env:=by rfl)(X1:fo X pos es:=by rfl)(hN:autoParam (At X i y) bZ):
 EV X (.Call `ao (.Name y p1::es) [] pos) Z rr z (Z.set i (.ob (aP a r st))):=by
 let hl:i<Z.length:=(RP.mp hΓ).1;let h:=EV.box i (xs':=st) (vW (p:=p) i C hr ha (R8 hl) (R8 hl) hS hg Yd he X1 hN) hΓ (by rw[Tb];exact R8 hl);rwa [Tb,Tb] at h
def wQ (K:W7)(a:Addr)(r:Rep α)(T:List α->RT):RT:=λH0 v H' R'=>∃YH xs',H' a∣.lst YH/\R' a=none/\PySem.Paired (r.R K R') YH xs'/\T xs' H0 v H' R'
theorem Lq (i:Nat){y:β}{P:List α->β->Prop}(he:EV X e Z rr y Γ1)(hΓ1:Γ1[i]?∣(.ob (aP a r xs)))(h:P xs y):W1 X (.Return (some e) pos) Z N (wQ X.K a r λxs'=>cP X.K rr (P xs')):=λσ H0 R0 H R E D dn dr=>
 sS (jq aO) (he σ H0 R0 H R E _ λv H1 R1 E1 s1 e1=>by
  let⟨ea,⟨vs,ha,pp⟩,hR⟩:=dg (E1.ent i _ hΓ1);exact dr v H1 R1 E1.ext ⟨vs,xs,ha,hR,pp,y,e1,h⟩)
theorem sF {N:Rm}(s:av R H)(hR:R a=none)(ha:H a∣.lst ws)(pp:PySem.Paired (r.R K R) ws xs)(p:mq K R vs ps)(hl:ps.length+1<=N.length):
 ar K (L2.start N (.ref a::vs)) (del H a) R H R (.ob (aP a r xs)::fW ps (N.length-1)):=by
 obtain⟨n0,N',rfl⟩:∃n0 N',N=n0::N':=by cases N with
  | nil=>exact Xt hl `d
  | cons n N'=>exact⟨n,N',rfl⟩
 let Y9:ps.length<=N'.length:= ~~~hl
 let E0:=j6 (N:=N') s p Y9;let es:L2.start (n0::N') (.ref a::vs)=some (.ref a)::L2.start N' vs:=by unfold L2.start;simp
 rw[es];let X7:∀(i:Nat)(e:Ent)(o:Option V),(fW ps N'.length)[i]?∣e->e.fp o=[]:=λi e o q=>by
  unfold fW at q;obtain z | z:=Se.mp (R7 q)
  ·let⟨p,_,rfl⟩:=Sk.mp z;rfl
  ·let⟨_,rfl⟩:=T4.mp z;rfl
 refine⟨⟨Ir,av.refl _,s,λ_ _=>rfl⟩,λi e q=>?_,λi e b q w=>?_,λi j e e' b q q' w w'=>?_,?_⟩
 ·cases i with
  | zero=>simp at q;subst q;exact nu ha hR pp
  | succ i=>simp at q;simpa using E0.ent i e q
 ·cases i with
  | zero=>simp at q;subst q;rw[show b=a from RU.mp w];exact yn
  | succ i=>simp at q;rw[X7 i e _ q] at w;cases w
 ·cases i with
  | succ i=>simp at q;rw[X7 i e _ q] at w;cases w
  | zero=>
    cases j with
    | zero=>rfl
    | succ j=>simp at q';rw[X7 j e' _ q'] at w';cases w'
 ·have:=E0.len;simp[this]
theorem vP {S:ma α}{N ps:Rm}{k:Nat}(F:dI K x qual st f fd)(Sc:bE N ps (ao st))(hm:mg x∣.ref f)(hb:Binds K fd ps [])(len:∀xs qs T,S K xs qs T->qs.length+1=ps.length)(X2:∀(XH:`aM)(A:U6)(outer:List Env)(s:U0)(H:Hp)(E:XK)(a:Addr)(xs:`u)(qs:List Pk)(T:List α->RT),bG k `ap->S K xs qs T->
  WS (eK eo P w K mg base N qual (ao st) f XH A outer s H E).gF (bD st) (.ob (aP a r xs)::fW qs (N.length-1)) (λ_=>False) (wQ K a r T)):aE P w K mg base x (k+1) (gI r S K):=by
 refine⟨f,fd,ps,?_,hm,F.kp,hb⟩;refine F.ok Sc (λvs H Q E h=>?_) `af
 ·let⟨R,a,ws,xs,Yg,qs,T,rfl,_,_,_,_,p,hS,_⟩:=h;rw[Sb,p.length];exact len xs qs T hS
 ·let⟨R,a,ws,xs,Yg,qs,T,rfl,sR,hR,ha,pp,p,hS,q⟩:=h;let hl:qs.length+1<=N.length:=by
   rw[len xs qs T hS];have:=congrArg List.length Sc.pre;rw[Sm] at this;cbv
  refine⟨_,iM,X2 XH A outer s H E a xs qs T hr hS (L2.start N (.ref a::Yg)) (del H a) R H R (sF sR hR ha pp p hl) {nx:=λ_ H'=>Q .XT H',rt:=Q} (λ_ _ _ _ _ _ f=>f.elim) λv H' R' xx t=>?_⟩;let⟨YH,xs',h1,h2,h3,h4⟩:=t;exact q v H' R' YH xs' xx h1 h2 h3 h4
theorem Ih {S:ma α}{N ps:Rm}{k:Nat}(D:Def K mg x st ps)(X2:∀(f:Addr)(XH:`aM)(A:U6)(outer:List Env)(s:U0)(H:Hp)(E:XK)(a:Addr)(xs:`u)(qs:List Pk)(T:List α->RT),N.Nodup->bG k (A.deeper (UT x (ao st) ⇑s f XH))->S K xs qs T->
  WS (eK eo P w K mg base N x (ao st) f XH A outer s H E).gF (bD st) (.ob (aP a r xs)::fW qs (N.length-1)) (λ_=>False) (wQ K a r T))(len:∀xs qs T,S K xs qs T->qs.length+1=ps.length:=by(intros;rename_i h;repeat (first | (rw[h.1];rfl) | let⟨_,h⟩:=h)))(Sc:bE N ps (ao st):=by exact YV):aE P w K mg base x (k+1) (gI r S K):=by
 let⟨f,fd,F,hm,hb⟩:=D;exact vP F Sc hm hb len λXH A outer s H E a xs qs T=>X2 f XH A outer s H E a xs qs T Sc.nd
def cv (k:Nat)(y:α)(xs:`u):List α:=xs.take k++y::xs.drop k
theorem xr {k:Nat}{y:α}:(cv k y xs).length=xs.length+1:=by
 unfold cv;rw[RY,Sb,Sm,Ts];cbv
theorem B9 (f:α->β){k:Nat}{y:α}:(cv k y xs).map f=cv k (f y) (xs.map f):=by
 unfold cv;rw[Sf,Sx,List.map_take,Uh]
def HS:V->List V->Hp->VK->Prop:=λx vs H Q=>∃l xs i y,x= .ref l/\vs=[.int i,y]/\H l∣.lst xs/\0<=i/\i<=(xs.length:Int)/\xs.length<UZ/\Q .XT (upd H l (.lst (cv i.toNat y xs)))
theorem DC:He X "list.insert" HS:=by
 intro XD s σ H x vs v us Q I rx rv h;let⟨l,xs,i,y,rfl,rfl,hH,h0,h1,hz,q⟩:=h;cases rx
 let⟨u1,u2,rfl,⟨t,rfl⟩,r2⟩:=vals2 rv;let⟨z,XF,n,r,hl,e⟩:=I.nY hH;let hfit:Builtin.List.listFitsIndex i=true:=fitsIndex_both `a (by
  have:UZ<2 ^ 63:=`c
  cbv)
 refine Vy PySem.F.slot_list_insert ⟨_,e,rfl⟩ PySem.F.entry_list_insert (PySem.F.args_list_insert_3 _ _ _) (PySem.AutoSeq1.list_insert_list_int_val_1 l _ n i t u2 (by simp[hfit]) (by rw[Si];cbv)) ⟨e,?_⟩;refine⟨.XT,_,I.Bi (its':=cv i.toNat u2 XF) hH e ?_ ?_ ?_,rfl,q⟩
 ·let hk:(if i<0 then(i+((XF.toArray.size:Nat):Int)).toNat else min i.toNat XF.toArray.size)=i.toNat:=by
   rw[Xu `a,Si];cbv
  dsimp only;rw[hk];unfold cv;apply Array.ext';simp;exact Tg (by rw[Ts];exact Uk _)
 ·unfold cv;exact(r.take _).append (.cons r2 (r.drop _))
 ·rw[xr];cbv
def dE:Rep Addr:=⟨λ_ _ v a=>v= .ref a,λ_ h=>h⟩
noncomputable def lX:Ent->Ent
 | .im r x=>.im r x
 | _=>.no
theorem ar.Yu {K:W7}{σ:St}{H0 R0 H R:Hp}(E:`C):ar K σ H H H H (Z.map lX):=by
 let X7:∀(i:Nat)(e:Ent)(o:Option V),(Z.map lX)[i]?∣e->e.fp o=[]:=λi e o q=>by
  rw[R6] at q;cases h:Z[i]? with
  | none=>rw[h] at q;cases q
  | some e'=>rw[h] at q;cases q;cases e'<;>rfl
 refine⟨Ext.refl `S,λi e q=>?_,λi e a q w=>Xt w (by rw[X7 i e _ q];exact SR),λi j e e' a q _ w=>Xt w (by rw[X7 i e _ q];exact SR),by rw[RS];exact E.len⟩;rw[R6] at q;cases h:Z[i]? with
 | none=>rw[h] at q;cases q
 | some e'=>
   rw[h] at q;cases q
   have:=E.ent i e' h;cases e' with
   | im r x=>let⟨v,e,hr⟩:=this;exact⟨v,e,r.mono E.sub hr⟩
   | no=>trivial
   | mu r x=>trivial
   | di x=>trivial
   | ob x=>trivial
theorem HY (i:Nat){Γf:Ga}(hF:∀(σ:St)(H0 R0 H R:Hp),ar X.K σ H0 R0 H R Z->ar X.K σ H H H H Γf){py YL:Pos}{cl:`aQ}{own:Rm}{p:α->Bool}{f:α->β}(flat:∀(K:W7)(H H':Hp) v y,rb.R K H v y->rb.R K H' v y)(S:fF X scope cl own fr ix)(hit:IV X tg iter Γf ra xs Γf)(hb:∀(C:Addr)(s:U0)(H:Hp)(ex:Ro),BG `m tg ra bf)(hw:∀x,Wk (bf x (dw own ix Γf)) (dw own ix Γf))(ht:∀(C:Addr)(s:U0)(H:Hp)(ex:Ro) x,x∈xs->TF `m ifs (bf x (dw own ix Γf)) (p x) (bf x (dw own ix Γf)))(he:∀(C:Addr)(s:U0)(H:Hp)(ex:Ro) x,x∈xs->p x=true->EV `m elt (bf x (dw own ix Γf)) rb (f x) (bf x (dw own ix Γf)))(h:N (Z.set i (.mu rb ((xs.filter p).map f))))(Yc:U7 `aH (some (.Name y py)) YL.line X.env=pure true:=by rfl)(hN:X.N.Nodup:=by first | assumption | decide)(hi':X.N[i]?∣y:=by rfl)(hx:`ax)(hc:X.calm=true:=by rfl)(hs:∀x,Va iter X.env x=pure x:=by intro _;rfl)(hf:autoParam (fM X y) YI):
 W1 X (.Assign [.Name y py] `aH YL) Z N T:=λσ H0 R0 H R E D dn dr=>by
 let⟨wi,hi,hit⟩:=hit;refine sS (nX (i:=i) (g:=λv σ H Q=>∀C s Hh ex,nQ `q tg v σ H Q) (tc:=λσ H Q=>∀C s Hh ex,oC `q ifs σ H Q) (te:=λσ H Q=>∀C s Hh ex,fX `q elt σ H Q) Yc hN hi' hx hc S hi
  `x hs hf) ?_
 refine hit σ H H H H (hF σ H0 R0 H R E) _ λJ H1 R1 E1 s1 hz src=>ox (Q:=λv H'=>D.nx (σ.set i (some v)) H') E1 src hz hb hw ht he λa vs H' R' xx ha pp=>?_;let sH:av H H':=E1.ext.h.trans xx.h;let E2:=E.grow (H':=H') (R':=R) ⟨sH,av.refl _,E.sub.trans sH,λ_ _=>rfl⟩;exact dn _ _ R _ ((E2.grow (Ext.d6 E2.sub ha _)).xy (u:=.lst vs) (en:=.mu rb ((xs.filter p).map f)) i ⟨a,vs,rfl,aD,E2.sub.free ha,Paired.map (λ_ _=>flat X.K R' R _ _) pp⟩ (E2.ext.h.free ha) λj e _ q w=>E2.off ha j e q w) `S h
theorem LO {N ps:Rm}{k:Nat}(F:dI K x qual st f fd)(Sc:bE N ps (ao st))(len:∀qs T,S K qs T->qs.length=ps.length)(X2:∀(XH:`aM)(A:U6)(outer:List Env)(s:U0)(H:Hp)(E:XK)(qs:List Pk)(T:RT),bG k `ap->S K qs T->
  WS (eK eo P w K mg base N qual (ao st) f XH A outer s H E).gF (bD st) (fW qs N.length) (λ_=>False) T):fb P w K mg base eo (k+1) f fd ps (aQ S K):=by
 refine F.ok Sc (λvs H Q E h=>?_) `af
 ·let⟨R,qs,T,_,p,hS,_⟩:=h;rw[p.length];exact len qs T hS
 ·let⟨R,qs,T,sR,p,hS,q⟩:=h;let hl:qs.length<=N.length:=by
   rw[len qs T hS];have:=congrArg List.length Sc.pre;rw[Sm] at this;cbv
  exact⟨_,iM,X2 XH A outer s H E qs T hr hS (L2.start N vs) H R H R (j6 sR p hl) {nx:=λ_ H'=>Q .XT H',rt:=Q} (λ_ _ _ _ _ _ f=>f.elim) λv H' R' xx t=>q v H' R' xx t⟩
theorem KR {h:Heap}{ps:Rm}{oc:`aM}{od an:Option Addr}{Zi:Array Rn}{kV doc pm XH ct:`aM}(KX:K.In h)(G:h.Ns U2 mg)(a:W8 K U2 x∣(some (.ref f)))(l:K.lookup f∣⟨oc,od,.func (Xd x x (fA st) (bD st) (ao st) .none kV doc pm an XH ct),Zi⟩)(c:Xh K XH x=true)(k:Xc K (.ref f)=true)(b:∀(kV doc pm:`aM)(an:Option Addr)(XH ct:`aM)(us:Rp),us.length=ps.length->bindArgs (Xd x x (fA st) (bD st) (ao st) .none kV doc pm an XH ct) ⟨us,[]⟩=pure (ps.zip us)):Def K mg x st ps:=
 ⟨f,_,lH l c k,Xb KX G a,(lH l c k).binds b⟩
open PySem.Builtin.Int (intBits)
theorem yu {ns:Rl}(h:PySem.W.WData.layableAll [.list (ns.map .int)]=true):∀n∈ns,intBits n<=2 ^ 20:=λn hn=>by
 let h1:=PySem.W.layableW_arg h _ (RU.mpr rfl);let h2:=PySem.W.layableW_item h1 (.int n) (Sk.mpr ⟨n,hn,rfl⟩);exact PySem.PyData.bits_of_layable h2
end Fc
namespace Att
open PySem PySem.W PySem.Calls PyProof.Rows
open PySem.Builtin.Int (intBits)
theorem vU {l:OpenLaw}{n:Nat}{q:U4}{loose:Rm}{XP:(Rj)->Heap->Prop}{YP:World->Heap->Prop}{d:DefRec}(hn:l.most∣n)(hdf:d.params.defaults=[])(call:∀(w:World)(s₀ s₁:U0)(mg mb:Rj)(fa:Addr)(o:Obj)(pm cd doc:`aM)(a:Addr)(vs:Rp)(ns:Rl),
  Ground q loose [] XP w s₀ mg mb s₁.heap->YP w s₁.heap->
  s₁.heap.get? fa∣o->o.data= .func (docDef d.name d.params d.body d.scope pm cd doc)->s₁.heap.CodeRec cd d.name->mg d.name∣.ref fa->
  s₁.heap.get? a=some {cls:=.type "list",data:=.seq vs.toArray}->IntsAre vs ns->ns.length<=n->(∀m∈ns,intBits m<=2 ^ 20)->s₁.gens= #[]->
  VO (model l.prog w) VX (.call (.ref fa) ⟨[.ref a],[]⟩) `aO s₁):
 WalkO q loose XP YP l.row.toRowW d [] (λf vs=>PySem.call f vs):=by
 intro w s₀ s₁ mg mb G Y fa o pm cd doc dV kV ho hd Zz hD hmg hg args vals as hpre hlay hrd hwl hlo;obtain rfl:dV= .none:=Dflts.none hD hdf;obtain rfl:kV= .none:=Dflts.noKw hD;let⟨a,vs,ns,rfl,rfl,hobj,hints,hlen⟩:=Bs hn hpre hwl;refine enter_call (VZ (call w s₀ s₁ mg mb fa o pm cd doc a vs ns G Y ho (fd_plain hd) Zz hmg hobj hints hlen (Fc.yu hlay) hg) λr s' hq=>?_);let⟨rfl,h2,h3,h4⟩:=hq;exact⟨.inl ⟨.bool true,.bool true,[],rfl,λ_=>rfl,.bool true,Cw l _,λ_=>⟨List.Pairwise.nil,λ_ hm=>(nomatch hm)⟩⟩,h2,h3,h4⟩
end Att
namespace L2
open PySem PySem.Spec PyProof.Rows
open PySem.Builtin.Int (intBits)
theorem ER {l:Xo}{n k:Nat}{q:U4}{loose:Rm}{XP:(Rj)->Heap->Prop}{YP:World->Heap->Prop}{d:DefRec}{K:Params->W7}{CX:World->oi}{sp:World->Sp}{x:Str}(hn:l.most∣n)(hn2:n<=UZ)(hdf:d.params.defaults=[])(hr:bG k VX)(hY:∀(w:World)(h:Heap),YP w h->(K w.params).In h)(F:∀(w:World)(mg:Rj)(fa:Addr)(h:Heap),(K w.params).In h->h.Ns U2 mg->mg d.name∣.ref fa->
  ∃fd:U8,(∀(s:U0)(u:`aM),V6 s fd ⟨[u],[]⟩ [(x,u)])/\
   ∀base:Heap,(K w.params).In base->base.Ns U2 mg->fb l.prog w (K w.params) mg base (CX w) k fa fd [x] (sp w))(Zx:∀(w:World)(H:Hp)(a:Addr)(ns:Rl),ns.length<=n->(∀m∈ns,intBits m<=2 ^ 20)->EX H->bt (K w.params) H a (ns.map V.int)->sp w [.ref a] H (λv _=>v= .bl true) λ_ _ _=>False)(hCX:∀(w:World)(H:Hp)(s:U0)(e:`aM)(s':U0),CX w [] H s (λ_ _ _=>False) e s'->False):
 PySem.W.WalkO q loose XP YP l.row.toRowW d [] (λf vs=>PySem.call f vs):=by
 refine Att.vU hn hdf λw s₀ s₁ mg mb fa o pm cd doc a vs ns G Y ho hd Zz hmg hobj hints hlen Zc hg=>?_;let KX:=hY w _ Y;let⟨fd,hb,hF⟩:=F w mg fa _ KX G.T.g hmg;exact E6 KX G.T.g G.T.b G.T.builtins G.T.nolimit hg hobj hints (Um hlen hn2) hr hF hb (λH hO hS=>Zx w H a ns hlen Zc hO hS) λH e s'=>hCX w H s₁ e s'
end L2
namespace Fc
open PySem PySem.Spec PySem.W PySem.Calls L2
open PyProof.Rows hiding St
variable {X:Cx}
section
variable {Z Γ1:Ga}
end
section
variable {P:U4}{w:World}{K:W7}{mg:Rj}{base:Heap}
end
section
variable {XD:Rk}{σ:St}{H:Hp}{s:U0}{e:Addr}{o:Obj}
end
end Fc
namespace Fc
open PySem PySem.Spec PySem.W PySem.Calls L2
open PyProof.Rows hiding St
open PySem PySem.Spec PySem.W PySem.Calls PySem.Builtin.ObjectAttr PySem.Builtin.Getset_descriptor L2
section
variable {K:Frag}{D x:Addr}{prog:U4}{w:World}{A:U6}{E:`s}{s:U0}
end
section
variable {X:Cx}{Z Γ1:Ga}{ea D:Addr}{oe:Obj}
end
end Fc
namespace Fc
open PySem PySem.Spec PySem.W PySem.Calls L2
open PyProof.Rows hiding St
variable {X:Cx}{Z Γ1:Ga}
section
variable {H0 R0:Hp}
end
variable {P:U4}{w:World}{K:W7}{mg:Rj}{base:Heap}{qual:Str}{f:Addr}{A:U6}{s:U0}{H R:Hp}
section
variable {N:Rm}{scope:Scope}{cd:`aM}{outer:List Env}{E:XK}
end
variable {XD:Rk}{σ:St}
section
variable {ea D:Addr}{oe:Obj}
end
def aq:Rep Str:=⟨λ_ _ v x=>v= .str x,λ_ h=>h⟩
variable {x:Str}{pos:Pos}
theorem aB {j:Nat}:EV X (.Constant (.str x) j pos) Z aq x Z:=λ_ _ _ _ _ E _ q=>eS J3 (q _ _ _ E `S rfl)
inductive PV
 | XT
 | bl (b:Bool)
 | int (i:Int)
 | str (x:Str)
 | tup (xs:List PV)
 | lst (xs:List PV)
mutual
inductive iV (H:Hp):V->PV->Prop
 | XT:iV H .XT .XT
 | bl (b:Bool):iV H (.bl b) (.bl b)
 | int (i:Int):iV H (.int i) (.int i)
 | str (x:Str):iV H (.str x) (.str x)
 | tup {a:Addr} {vs:`R} {xs:List PV}:H a∣.tup vs->eY H vs xs->iV H (.ref a) (.tup xs)
 | lst {a:Addr} {vs:`R} {xs:List PV}:H a∣.lst vs->eY H vs xs->xs.length<=UZ->iV H (.ref a) (.lst xs)
inductive eY (H:Hp):List V->List PV->Prop
 | nil:eY H [] []
 | cons {v:V} {x:PV} {vs:`R} {xs:List PV}:iV H v x->eY H vs xs->eY H (v::vs) (x::xs)
end
mutual
theorem iV.mono {H H':Hp}(s:av H H'):∀{v:V}{x:PV},iV H v x->iV H' v x
 | _,_,.XT=>.XT
 | _,_,.bl b=>.bl b
 | _,_,.int i=>.int i
 | _,_,.str x=>.str x
 | _,_,.tup h t=>.tup (s _ _ h) (eY.mono s t)
 | _,_,.lst h t z=>.lst (s _ _ h) (eY.mono s t) z
theorem eY.mono {H H':Hp}(s:av H H'):∀{vs:`R}{xs:List PV},eY H vs xs->eY H' vs xs
 | _,_,.nil=>.nil
 | _,_,.cons h t=>.cons (iV.mono s h) (eY.mono s t)
end
theorem eY.pair {H:Hp}:∀{vs:`R}{xs:List PV},eY H vs xs->PySem.Paired (iV H) vs xs
 | _,_,.nil=>.nil
 | _,_,.cons h t=>.cons h (eY.pair t)
theorem eY.of {H:Hp}:∀{vs:`R}{xs:List PV},PySem.Paired (iV H) vs xs->eY H vs xs
 | _,_,.nil=>.nil
 | _,_,.cons h t=>.cons h (eY.of t)
def au:Rep PV:=⟨λ_ H v x=>iV H v x,λs h=>h.mono s⟩
variable {Γ2 Γ3:Ga}{α β γ δ:Type}{N:Ga->Prop}{T:RT}{e a:Expr}{n:Int}{xs:List PV}{es:Rr}{vs:`R}{p2:Pos}{r:Rep α}{r':Rep β}{y:β}
theorem EV.re {x:α}(h:EV X e Z r x Γ1)(f:∀(K:W7)(R:Hp)(v:V),r.R K R v x->r'.R K R v y):EV X e Z r' y Γ1:=λσ H0 R0 H R E Q q=>h σ H0 R0 H R E Q λv H' R' E' s' e'=>q v H' R' E' s' (f _ _ v e')
theorem EV.pI (h:EV X e Z ag n Γ1):EV X e Z au (.int n) Γ1:=h.re λK R v e=>by cases e;exact .int n
theorem EV.pS (h:EV X e Z aq x Γ1):EV X e Z au (.str x) Γ1:=h.re λK R v e=>by cases e;exact .str x
theorem EV.pL (h:EV X e Z (ae au) xs Γ1):EV X e Z au (.lst xs) Γ1:=h.re λK R v ⟨a,vs,e,q,p,z⟩=>by subst e;exact .lst q (.of p) z
theorem Ag {K:W7}{R:Hp}:∀{vs:`R}{xs:Rl},PySem.Paired (ag.R K R) vs xs->eY R vs (xs.map PV.int)
 | _,_,.nil=>.nil
 | _,_,.cons h t=>.cons (by cases h;exact .int _) (Ag t)
theorem EV.zN {xs:Rl}(h:EV X e Z (ae ag) xs Γ1):EV X e Z au (.lst (xs.map PV.int)) Γ1:=h.re λK R v ⟨a,vs,e,q,p,z⟩=>by subst e;exact .lst q (Ag p) (by rw[RS];exact z)
theorem EV.iP (h:EV X e Z au (.int n) Γ1):EV X e Z ag n Γ1:=h.re λK R v e=>by cases e;rfl
theorem EV.sP (h:EV X e Z au (.str x) Γ1):EV X e Z aq x Γ1:=h.re λK R v e=>by cases e;rfl
theorem EV.lP (h:EV X e Z au (.lst xs) Γ1):EV X e Z (ae au) xs Γ1:=h.re λK R v e=>by cases e with | lst q p z=>exact⟨_,_,rfl,q,p.pair,z⟩
theorem fR {k:Nat}(h:EA X es Z au xs Γ1)(hz:xs.length<=UZ:=by show _<=UZ;decide):EV X (.Tuple es k pos) Z au (.tup xs) Γ1:=by
 intro σ H0 R0 H R E Q q;refine eS (si nj) (h σ H0 R0 H R E _ λvs H1 R1 E1 s1 p1=>⟨by rw[p1.length];exact hz,λp hp=>?_⟩);let x:=Ext.fresh E1.sub hp (.tup vs);exact q _ _ _ (E1.grow x) (s1.trans x.r) (.tup aD (.of (Paired.map (λ_ _=>au.mono x.r) p1)))
theorem dJ {b:Expr}{i:Int}{y:PV}(ha:EV X a Z au (.tup xs) Γ1)(hb:EV X b Γ1 ag i Γ2)(h:bP xs i∣y)(hs:dN b:=by exact λ_ _=>rfl):EV X (.Subscript a b pos) Z au y Γ2:=by
 intro σ H0 R0 H R E Q q;refine eS (ir Bw aO aO hs) `l;cases au.mono (K:=X.K) s2 e1 with
 | tup ha pp=>
   let⟨w,e3,e4⟩:=i9 pp.pair h;exact⟨_,_,i,w,rfl,e2,d7.of (E2.sub _ _ ha),e3,q w H2 R2 E2 `E e4⟩
theorem yH {p:Pos}(hm:X.mg "len"=none)(ha:EV X a Z au (.tup xs) Γ1)(hs:fU X a:=by rfl)(hg:Gl X "len":=by rfl):EV X (.Call (.Name "len" p) [a] [] pos) Z ag (xs.length:Int) Γ1:=by
 intro σ H0 R0 H R E Q q;refine eS (fg gJ hg hm Vo (aI aO bq hs) `c `c hs) `A;cases e1 with
 | tup hp pp=>
   refine⟨_,_,rfl,.inr (d7.of (E1.sub _ _ hp)),?_⟩;rw[pp.pair.length];exact q _ H1 R1 E1 s1 rfl
theorem oA (R H:Hp)(v:V)(s:av R H)(h:au.R K R v (.tup xs)):fP K H v (.type "tuple"):=by cases h with | tup e _=>exact .tup (s _ _ e)
theorem kS (R H:Hp)(v:V)(s:av R H)(h:au.R K R v (.lst xs)):fP K H v (.type "list"):=by cases h with | lst e _ _=>exact .lst (s _ _ e)
theorem Bv (p:PySem.Paired (iV H) vs xs)(l h:Option Int):PySem.Paired (iV H) (mB vs l h) (cut xs l h):=by
 unfold mB cut;rw[p.length];exact jR _ (mC _ p)
theorem JE {lo hi:Option Expr}{l h:Option Int}(ha:EV X a Z au (.tup xs) Z)(hl:OV X lo Z l)(hh:OV X hi Z h)(hw:¬(HT.XX xs.length 0 l=0/\HT.XX xs.length xs.length h=xs.length)):EV X (.Subscript a (.Slice lo hi none p2) pos) Z au (.tup (cut xs l h)) Z:=by
 intro σ H0 R0 H R E Q q;let⟨tl,pl,kl⟩:=hl;let⟨th,ph,kh⟩:=hh;refine eS (lT CJ aO pl ph) `G;cases au.mono (K:=X.K) (s2.trans s3) e1 with
 | @tup a' Yg _ hp pp=>
   refine⟨_,_,rfl,d7.of (E3.sub _ _ hp),by rw[pp.pair.length];exact hw,λd hd=>?_⟩;let x:=Ext.fresh E3.sub hd (.tup (mB Yg l h));exact q _ _ _ (E3.grow x) (s1.trans (s2.trans (s3.trans x.r))) (.tup aD (.of (Paired.map (λ_ _=>au.mono (K:=X.K) x.r) (Bv pp.pair l h))))
mutual
noncomputable def PV.deep:PV->Nat
 | .tup xs=>PV.iz xs+1
 | .lst xs=>PV.iz xs+1
 | _=>0
noncomputable def PV.iz:List PV->Nat
 | []=>0
 | x::xs=>max (PV.deep x) (PV.iz xs)
end
theorem qG:∀{xs:List PV}{x:PV},x∈xs->x.deep<=PV.iz xs
 | y::ys,x,h=>by
   rw[PV.iz];obtain rfl | h:=R9.mp h
   ·cbv
   ·have:=qG h;cbv
theorem EV.rep {x:α}(h:EV X e Z r x Γ1)(c:∀(R:Hp) v,r.R X.K R v x->r'.R X.K R v y):EV X e Z r' y Γ1:=λσ H0 R0 H R E Q q=>h σ H0 R0 H R E Q λv H' R' E' s' e'=>q v H' R' E' s' (c R' v e')
variable {p1:Pos}
theorem paired_ints {K:W7}{R:Hp}:∀ys:Rl,PySem.Paired (ag.R K R) (ys.map V.int) ys
 | []=>.nil
 | _::r=>.cons rfl (paired_ints r)
theorem vg {Y6:Pos}(hml:X.mg "list"=none)(hmr:X.mg "range"=none)(ha:EV X a Z ag n Γ1)(hn: -1000000<=n/\n<=1000000)(hs:fU X a:=by rfl)(Yh:U5 [.Call (.Name "range" p2) [a] [] Y6] X.env=[(false,eval (.Call (.Name "range" p2) [a] [] Y6) X.env)]:=by rfl)(hc:X.calm=true:=by rfl)(hg:Gl X "list":=by rfl)(hgr:Gl X "range":=by rfl):aZ X (.Call (.Name "list" p1) [.Call (.Name "range" p2) [a] [] Y6] [] pos) Z ag (ups 0 n.toNat) Γ1:=by
 intro σ H0 R0 H R E Q q;refine eS (i7 (oy hc) hg hml UP (aI (i7 uJ hgr hmr UX (aI aO bq hs) `c `c hs) bq Yh) `c `c Yh) (ha σ H0 R0 H R E _ λv H1 R1 E1 s1 e1=>⟨n,by rw[show v=V.int n from e1],λp hp=>?_⟩);refine⟨p,0,n,rfl,aD,`c,`c,hn.1,hn.2,λd hd=>?_⟩;let E2:=E1.grow (Ext.d6 E1.sub hp (.ZW 0 n));rw[Int.sub_zero];exact q d _ _ R1 (E2.grow (Ext.d6 E2.sub hd _)) s1 aD (E2.sub.free hd) (E2.ext.h.free hd) (E2.off hd) (paired_ints _) (by rw[bp];exact Um (show n.toNat<=1000000 by cbv) `c)
variable {b:Addr}{S:dc}{ps:List Pk}
section
variable {F:Rt}{Γf:Ga}
theorem Hv {r':Rep β}[DecidableEq α][DecidableEq β]{n m:Nat}(e:tF r n)(e':tF r' m)(I:`j)(sub:av R H){a:Addr}{v1 v2 w1 w2:V}{x y:α×β}(ha:R a∣(.tup [v1,v2]))(hb:R b∣(.tup [w1,w2]))(p1:r.R X.K R v1 x.1)(p2:r'.R X.K R v2 x.2)(q1:r.R X.K R w1 y.1)(q2:r'.R X.K R w2 y.2)(hu:A.units+(n+1)<cLine)(ZO:A.units+(m+1)<cLine):
 SeqAt.RcAt A s (.ref a) (.ref b) (decide (x=y))/\SeqAt.RcNeAt A s (.ref a) (.ref b) (!decide (x=y)):=by
 let key:=Ln (A:=A) (k:=λj=>if j=0 then decide (x.1=y.1) else decide (x.2=y.2)) I sub ha hb rfl `a λus us' hv hw j h1 h2=>by
  cases hv with
  | cons a1 t=>cases t with
    | cons a2 t=>cases t;cases hw with
      | cons b1 t=>cases t with
        | cons b2 t=>
          cases t
          match j,h1 with
          | 0,_=>exact e.eq (A:=A.in1) I sub a1 b1 p1 q1 (by rw[in1_units];cbv)
          | 1,_=>exact e'.eq (A:=A.in1) I sub a2 b2 p2 q2 (by rw[in1_units];cbv)
          | j+2,h=>exact Xt h `d
 let d:(Sd [v1,v2].length).all (λj=>if j=0 then decide (x.1=y.1) else decide (x.2=y.2))=decide (x=y):=by
  let⟨x1,x2⟩:=x;let⟨y1,y2⟩:=y;simp[Tf,Ry]
 rw[d] at key;exact key
theorem Oj {r':Rep β}[DecidableEq α][DecidableEq β]{n m:Nat}(e:tF r n)(e':tF r' m)(hu:X.A.units+(n+1)<cLine)(ZO:X.A.units+(m+1)<cLine){x y:α×β}:iY X .Eq (cz r r') (cz r r') x y (decide (x=y)):=
 ⟨λv u H Q=>∃R,av R H/\(cz r r').R X.K R v x/\(cz r r').R X.K R u y/\Q (.bl (decide (x=y))) H,λXD s σ H v1 u1 v u Q I rx ry ⟨R,sub,h1,h2,q⟩=>by
  let⟨a,v1,v2,rfl,ha,p1,p2⟩:=h1;let⟨b,w1,w2,rfl,hb,q1,q2⟩:=h2;cases rx
  cases ry
  exact(Hv (A:=X.A) e e' I sub ha hb p1 p2 q1 q2 hu ZO).1 _ _ _ _ ⟨.bl _,H,I,rfl,q⟩,λR H v u Q s h1 h2 q=>⟨R,s,h1,h2,q⟩⟩
theorem ED {p4:Pos}{k:Nat}{w:Row}(ha:EV X a Z dU w Z):EV X (.Subscript a (.Slice none (some (.Constant (.int 2) k p4)) none p2) pos) Z (cz ag ag) (w.1,w.2.1) Z:=by
 intro σ H0 R0 H R E Q q;refine eS (lT CJ aO zk (zU xT)) `A;let⟨p,rfl,hp⟩:=e1;refine⟨_,rfl,p,_,rfl,d7.of (E1.sub _ _ hp),?_,λd hd=>?_⟩
 ·exact λz=>Xt z.2 (by show¬(HT.XX 4 4 (some 2)=4);decide)
 ·let s2:av R1 (upd R1 d (.tup [V.int w.1,V.int w.2.1])):=av.fresh (E1.sub.free hd) _;exact q _ _ (upd R1 d (.tup [V.int w.1,V.int w.2.1])) (E1.grow (Ext.fresh E1.sub hd _)) `E ⟨d,_,_,rfl,aD,rfl,rfl⟩
noncomputable def cG (F:Rt):List (Int×V):=F.map λp=>(p.1,.int p.2)
noncomputable def bb (F:Rt)(k:Int):Option Int:=(F.find? λp=>decide (p.1=k)).map (·.2)
noncomputable def jM (F:Rt)(k v:Int):Rt:=if(bb F k).isSome then F.map (λp=>if p.1=k then(p.1,v) else p) else F++[(k,v)]
theorem lM:∀(F:Rt)(k:Int),du (cS (cG F)) (Sum.inl k:Key)=(bb F k).map V.int
 | [],_=>rfl
 | p::r,k=>by
   let ih:=lM r k;by_cases e:p.1=k
   ·let e':(Sum.inl p.1:Key)=Sum.inl k:=by rw[e]
    let h1:du (cS (cG (p::r))) (Sum.inl k:Key)∣.int p.2:=d8 (p:=((Sum.inl p.1:Key),V.int p.2)) e';rw[h1];unfold bb;rw[Tq,Xy e];rfl
   ·let e':¬(Sum.inl p.1:Key)=Sum.inl k:=λz=>e (Sum.inl.inj z);let h1:du (cS (cG (p::r))) (Sum.inl k:Key)=du (cS (cG r)) (Sum.inl k:Key):=dM (p:=((Sum.inl p.1:Key),V.int p.2)) e';rw[h1,ih];unfold bb;rw[Tq,Xz e]
theorem wk (F:Rt)(k v:Int):putK (cS (cG F)) (Sum.inl k:Key) (.int v)=cS (cG (jM F k v)):=by
 unfold putK jM;rw[iD,lM];let e:((bb F k).map V.int).isSome=(bb F k).isSome:=by cases bb F k<;>rfl
 rw[e];split
 ·unfold cS cG;simp only[S0];apply Tj;intro p _;simp only[Function.comp];by_cases h:p.1=k
  ·rw[Xv (by rw[h]),Xv h]
  ·rw[Xu (λz=>h (Sum.inl.inj z)),Xu h]
 ·unfold cS cG;rw[Sf,Sf];rfl
theorem Jd (F:Rt)(k:Int):ja (cG F) k=(bb F k).isSome:=by
 rw[← mU,lM];cases bb F k<;>rfl
def jz:Rep Rt:=⟨λ_ H v F=>∃a,v= .ref a/\H a∣(.dK (cS (cG F))),λs ⟨a,e,q⟩=>⟨a,e,s _ _ q⟩⟩
theorem jn {b:Expr}{k y:Int}(hu:X.A.units+1<cLine)(ha:EV X a Z jz F Γ1)(hb:EV X b Γ1 ag k Γ2)(h:bb F k∣y)(hs:Er b:=by exact λ_ _=>rfl):EV X (.Subscript a b pos) Z ag y Γ2:=by
 intro σ H0 R0 H R E Q q;refine eS (Hw hu aO aO hs) `l;let⟨p,rfl,hp⟩:=jz.mono s2 e1;cases e2
 let g:=iG.k (k:=Sum.inl k) (E2.sub _ _ hp);rw[lM,h] at g;exact⟨p,_,rfl,g,q _ H2 R2 E2 `E rfl⟩
theorem FP (F:Rt)(k v:Int):(jM F k v).length<=F.length+1:=by
 unfold jM;split
 ·rw[RS];cbv
 ·rw[RY];simp
theorem rR (i:Nat){ke ve:Expr}{k v:Int}(hu:X.A.units+1<cLine)(hk:EV X ke Z ag k Z)(ZZ:EV X ve Z ag v Z)(hΓ:Z[i]?∣(.di (cG F)))(hz:F.length<UZ)(h:N (Z.set i (.di (cG (jM F k v)))))(hN:`o)(hs:U7 ve (some (.Subscript `h ke p2)) pos.line X.env=pure false:=by rfl):W1 X (.Assign [.Subscript `h ke p2] ve pos) Z N T:=λσ H0 R0 H R E D dn dr=>by
 refine sS (uE hu (aV hN) aO aO hs) (ZZ σ H0 R0 H R E _ λu0 H0' R0' E0 s0 e0=>?_);let⟨a,ea,ha,hR⟩:=E0.ent i _ hΓ;refine⟨.ref a,at_of ea,hk σ H0 R0 H0' R0' E0 _ λu H1 R1 E1 s1 e1=>?_⟩;let⟨a',Yf,Yv,Yj⟩:=E1.ent i _ hΓ;rw[ea] at Yf;cases Yf
 cases e1
 cases e0
 refine⟨a,_,rfl,rB.k (k:=Sum.inl k) Yv (by unfold cS cG;rw[RS,RS];exact hz),?_⟩;rw[wk];exact dn σ _ R1 _ (E1.upd (en:=.di (cG (jM F k v))) hΓ rfl ea Yj ⟨a,rfl,aD,Yj⟩) (s0.trans s1) h
theorem y6 (i:Nat){P:Rt->Prop}(hΓ:Z[i]?∣(.di (cG F)))(h:P F)(hN:`o):W1 X (.Return (some `h) pos) Z N (cP X.K jz P):=λσ H0 R0 H R E D dn dr=>by
 let⟨a,ea,ha,hR⟩:=E.ent i _ hΓ;let h0:H0 a=none:=E.new i _ a hΓ rfl ea;refine sS (jq (aV hN)) ⟨.ref a,at_of ea,dr _ H (upd R a (.dK (cS (cG F)))) ⟨E.ext.h,E.ext.r.trans (av.fresh hR _),λb o qb=>?_,λb hb=>?_⟩ ⟨F,⟨a,rfl,aD⟩,h⟩⟩
 ·by_cases hb:b=a
  ·subst hb;rw[aD] at qb;cases qb;exact ha
  ·rw[aG hb] at qb;exact E.ext.s b o qb
 ·rw[aG (show b≠a from λe=>hb (by rw[e];exact h0))];exact E.ext.old b hb
theorem ar.Lp {H0 R0 H' R':Hp}(E:`C)(E':ar K σ H H H' R' Γf):ar K σ H0 R0 H' R Z:=
 E.grow ⟨E'.ext.h,av.refl _,E.sub.trans E'.ext.h,λ_ _=>rfl⟩
theorem TV.Yu (hF:∀(σ:St)(H0 R0 H R:Hp),ar X.K σ H0 R0 H R Z->ar X.K σ H H H H Γf){b:Bool}(h:TV X e Γf b Γf):TV X e Z b Z:=λσ H0 R0 H R E Q q=>
 h σ H H H H (hF σ H0 R0 H R E) Q λH' R' E' s'=>q H' R (E.Lp E') `S
theorem EV.Yu (hF:∀(σ:St)(H0 R0 H R:Hp),ar X.K σ H0 R0 H R Z->ar X.K σ H H H H Γf){y:α}(flat:∀(K:W7)(H H':Hp) v y,r.R K H v y->r.R K H' v y)(h:EV X e Γf r y Γf):EV X e Z r y Z:=λσ H0 R0 H R E Q q=>
 h σ H H H H (hF σ H0 R0 H R E) Q λv H' R' E' s' e'=>q v H' R (E.Lp E') `S (flat X.K R' R v y e')
def nS:Rep Unit:=⟨λ_ _ v _=>v= .XT,λ_ h=>h⟩
theorem Il {k:Nat}{p:Pos}{Pd:Unit->Prop}(C:`aR)(hr:bG k X.A)(ha:HA X (e::es) Z ps Γ1)(hS:S X.K ps (cP X.K nS Pd))(h:N Γ1)(hg:Gl X x:=by rfl)(Yd:Yz x:=by decide)(he:dh X e es:=by rfl)(X1:fo X p2 es:=by rfl)(Yc:U7 (.Call `ao (e::es) [] p2) none pos.line X.env=pure false:=by rfl):W1 X (.Expr (.Call `ao (e::es) [] p2) pos) Z N T:=λσ H0 R0 H R E D dn dr=>
 sS (dO aO Yc) (lO C hr ha hS E (λH1 R1 v H' R' E1 s1 xx t=>dn σ H' R' _ (E1.grow xx) (s1.trans xx.r) h) hg Yd he X1)
end
theorem MB {st:Stmt}{fd:U8}{N ps:Rm}{k:Nat}(F:dI K x qual st f fd)(Sc:bE N ps (ao st))(hm:mg x∣.ref f)(hb:Binds K fd ps [])(len:∀qs T,S K qs T->qs.length=ps.length)(X2:∀(XH:`aM)(A:U6)(outer:List Env)(s:U0)(H:Hp)(E:XK)(qs:List Pk)(T:RT),bG k `ap->S K qs T->(∀H0 H' R',T H0 .XT H' R')/\
  WS (eK eo P w K mg base N qual (ao st) f XH A outer s H E).gF (bD st) (fW qs N.length) (λ_=>True) T):aE P w K mg base x (k+1) (aQ S K):=by
 refine⟨f,fd,ps,?_,hm,F.kp,hb⟩;refine F.ok Sc (λvs H Q E h=>?_) `af
 ·let⟨R,qs,T,_,p,hS,_⟩:=h;rw[p.length];exact len qs T hS
 ·let⟨R,qs,T,sR,p,hS,q⟩:=h;let hl:qs.length<=N.length:=by
   rw[len qs T hS];have:=congrArg List.length Sc.pre;rw[Sm] at this;cbv
  let⟨h1,h2⟩:=X2 XH A outer s H E qs T hr hS;exact⟨_,iM,h2 (L2.start N vs) H R H R (j6 sR p hl) {nx:=λ_ H'=>Q .XT H',rt:=Q} (λσ' H' R' Γ' E' _ _=>q .XT H' R' E'.ext (h1 _ _ _)) λv H' R' xx t=>q v H' R' xx t⟩
variable {i:Nat}
section
variable {xs:`u}
theorem vb (i:Nat){ap cp:Pos}{y:α}(he:EV X e Z r y Γ1)(hΓ:`aC)(hΓ1:Γ1[i]?∣.mu r xs)(hz:xs.length<UZ)(hN:`o)(XN:eX X `h "append":=by rfl)(X4:l6 X cp [e]:=by rfl)(XM:`Y=true:=by rfl)(hs:dh X e []:=by rfl):EV X `y Z nS () (Γ1.set i (.mu r (xs++[y]))):=λσ H0 R0 H R E Q q=>by
 let⟨a,vs,ea,ha,hR,pp⟩:=E.ent i _ hΓ;refine eS `ad ?_;refine⟨.ref a,at_of ea,.inl ⟨rfl,vs,bt.of ha⟩,he σ H0 R0 H R E _ λv H1 R1 E1 s1 e1=>?_⟩;let⟨a',Yg,Yf,Yv,Yj,YD⟩:=E1.ent i _ hΓ1;rw[ea] at Yf;cases Yf
 refine⟨a,Yg,v,rfl,rfl,Yv,by rw[YD.length];exact hz,?_⟩;exact q _ _ R1 (E1.upd (en:=.mu r (xs++[y])) hΓ1 rfl ea Yj ⟨a,_,rfl,aD,Yj,dQ YD (.cons e1 .nil)⟩) s1 rfl
theorem Lj (hΓ:`aC)(hz:xs.length<=UZ)(σ:St)(H0 R0 H R:Hp)(E:`aF):ar X.K σ H H H H ((Z.map lX).set i (.im (ae r) xs)):=by
 let⟨a,vs,ea,ha,hR,pp⟩:=E.ent i _ hΓ;exact E.Yu.kB (i:=i) (e0:=.no) (by rw[R6,hΓ];rfl) ⟨.ref a,ea,a,vs,rfl,ha,Paired.map (λ_ _=>r.mono E.sub) pp,hz⟩ λb w=>by cases w
theorem HE (i:Nat){P:List α->Prop}(hΓ:`aC)(hz:xs.length<=UZ)(h:P xs)(hN:`o):W1 X (.Return (some `h) pos) Z N (C5 X.K r P):=λσ H0 R0 H R E D dn dr=>by
 let⟨a,vs,ea,ha,hR,pp⟩:=E.ent i _ hΓ;exact sS (jq (aV hN)) ⟨.ref a,at_of ea,dr _ H R E.ext ⟨a,vs,xs,rfl,E.new i _ a hΓ rfl ea,ha,hR,pp,hz,h⟩⟩
end
noncomputable def xJ (r:Rep α)(r':Rep β):Rep (α ⊕ β):=⟨λK H v o=>match o with | .inl x=>r.R K H v x | .inr y=>r'.R K H v y,λ{K H H' v o} s h=>by cases o with | inl x=>exact r.mono s h | inr y=>exact r'.mono s h⟩
theorem EV.inl {x:α}(h:EV X e Z r x Γ1):EV X e Z (xJ r r') (.inl x) Γ1:=EV.rep h λ_ _ q=>q
theorem EV.inr {y:β}(h:EV X e Z r' y Γ1):EV X e Z (xJ r r') (.inr y) Γ1:=EV.rep h λ_ _ q=>q
theorem EV.ofl {x:α}(h:EV X e Z (xJ r r') (.inl x) Γ1):EV X e Z r x Γ1:=EV.rep h λ_ _ q=>q
theorem EV.qu (h:EV X e Z (xJ r r') (.inr y) Γ1):EV X e Z r' y Γ1:=EV.rep h λ_ _ q=>q
variable {l:Ro}
noncomputable def gf (H:Hp)(l:Ro):Hp:=λb=>if b∈l then none else H b
theorem kM (h:b∈l):gf H l b=none:=Xv h
theorem eP (h:b∉l):gf H l b=H b:=Xu h
theorem rM :av (gf H l) H:=λb o q=>by
 by_cases h:b∈l
 ·rw[kM h] at q;cases q
 ·rwa [eP h] at q
theorem ar.A6 {H0 R0 H' R':Hp}{B B':oq}(E:`C)(hΓ:Z[i]?∣.ob B)(x:Ext (gf H B.fp) R H' R')(ho:(Ent.ob B').ok K H' R' (σ[i]?).join)(hfp:∀b∈B'.fp,b∈B.fp):ar K σ H0 R0 H' R' (Z.set i (.ob B')):=by
 let h0:∀b∈B.fp,H0 b=none:=λb hb=>E.nw i _ b hΓ hb;let out:∀{b:Addr},H0 b≠none->b∉B.fp:=λh e=>h (h0 _ e);let apart:∀(j:Nat)(e:Ent),j≠i->Z[j]?∣e->∀b∈e.fp (σ[j]?).join,b∉B.fp:=λj e hj qj b hb w=>hj (E.ds j i e _ b qj hΓ hb w);refine⟨⟨λb o q=>?_,E.ext.r.trans x.r,x.s,λb hb=>?_⟩,λj e q=>?_,λj e b q w=>?_,λj k e e' b q q' w w'=>?_,by rw[SF];exact E.len⟩
 ·exact x.h b o (by rw[eP (out (by rw[q];exact UL _))];exact E.ext.h b o q)
 ·refine(x.old b ?_).trans (E.ext.old b hb);rw[eP (out hb)];exact av.some E.ext.h hb
 ·obtain⟨rfl,rfl,_⟩ | ⟨hj,q1⟩:=set_at q
  ·exact ho
  ·let h1:=E.ent j e q1;refine h1.loc (λb hb=>?_) x.r λb hb=>?_
   ·cases e2:H b with
    | none=>exact Xt e2 (Ent.fG h1 hb).1
    | some u=>exact x.h b u (by rw[eP (apart j e hj q1 b hb)];exact e2)
   ·exact(x.old b (by rw[eP (apart j e hj q1 b hb)];exact(Ent.fG h1 hb).1)).trans (Ent.fG h1 hb).2
 ·obtain⟨rfl,rfl,_⟩ | ⟨hj,q1⟩:=set_at q
  ·exact h0 b (hfp b w)
  ·exact E.nw j e b q1 w
 ·obtain⟨rfl,rfl,_⟩ | ⟨hj,q1⟩:=set_at q
  ·obtain⟨rfl,rfl,_⟩ | ⟨hk,YR⟩:=set_at q'
   ·rfl
   ·exact Xt (hfp b w) (apart k e' hk YR b w')
  ·obtain⟨rfl,rfl,_⟩ | ⟨hk,YR⟩:=set_at q'
   ·exact Xt (hfp b w') (apart j e hj q1 b w)
   ·exact E.ds _ _ _ _ b q1 YR w w'
structure LK (P:Type):Type 1 where
 bx:Ro->P->oq
 fp:∀l s,(bx l s).fp=l
 at_:∀{K H R v l s},(bx l s).R K H R v->∃a t,l=a::t/\v= .ref a
abbrev wF (R:Hp)(l:Ro):Prop:=∀b∈l,R b=none
theorem BM {P:Type}{B:LK P}{a:Addr}{s:P}{o:Option V}(h:(Ent.ob (B.bx (a::l) s)).ok K H R o):o∣.ref a/\(B.bx (a::l) s).R K H R (.ref a)/\wF R (a::l):=by
 let⟨⟨v,e,hv⟩,hR⟩:=h;let⟨a',t,el,ev⟩:=B.at_ hv;cases el
 subst ev;exact⟨e,hv,λb hb=>hR b (by rw[B.fp];exact hb)⟩
theorem B2 {P:Type}{B:LK P}{a:Addr}{s:P}(h:(B.bx (a::l) s).R K H R (.ref a))(hR:wF R (a::l)):(Ent.ob (B.bx (a::l) s)).ok K H R (some (.ref a)):=
 ⟨⟨_,rfl,h⟩,λc hc=>hR c (by rw[B.fp] at hc;exact hc)⟩
theorem Bm {P:Type}{B:LK P}{a:Addr}{st:P}{N:Rm}(s:av R H)(hR:wF R (a::l))(hB:(B.bx (a::l) st).R K H R (.ref a))(p:mq K R vs ps)(hl:ps.length+1<=N.length):
 ar K (L2.start N (.ref a::vs)) (gf H (a::l)) R H R (.ob (B.bx (a::l) st)::fW ps (N.length-1)):=by
 obtain⟨n0,N',rfl⟩:∃n0 N',N=n0::N':=by cases N with
  | nil=>exact Xt hl `d
  | cons n N'=>exact⟨n,N',rfl⟩
 let Y9:ps.length<=N'.length:= ~~~hl
 let E0:=j6 (N:=N') s p Y9;let es:L2.start (n0::N') (.ref a::vs)=some (.ref a)::L2.start N' vs:=by unfold L2.start;simp
 rw[es];let X7:∀(i:Nat)(e:Ent)(o:Option V),(fW ps N'.length)[i]?∣e->e.fp o=[]:=λi e o q=>by
  unfold fW at q;obtain z | z:=Se.mp (R7 q)
  ·let⟨p,_,rfl⟩:=Sk.mp z;rfl
  ·let⟨_,rfl⟩:=T4.mp z;rfl
 refine⟨⟨rM,av.refl _,s,λ_ _=>rfl⟩,λi e q=>?_,λi e c q w=>?_,λi j e e' c q q' w w'=>?_,?_⟩
 ·cases i with
  | zero=>simp at q;subst q;exact B2 hB hR
  | succ i=>simp at q;simpa using E0.ent i e q
 ·cases i with
  | zero=>
    simp at q;subst q;let w:c∈(B.bx (a::l) st).fp:=w;rw[B.fp] at w;exact kM w
  | succ i=>simp at q;rw[X7 i e _ q] at w;cases w
 ·cases i with
  | succ i=>simp at q;rw[X7 i e _ q] at w;cases w
  | zero=>
    cases j with
    | zero=>rfl
    | succ j=>simp at q';rw[X7 j e' _ q'] at w';cases w'
 ·have:=E0.len;simp[this]
structure bM (K:W7)(C:Addr)(ns:Rm):Prop where
 cl:m7 K C
 no:∀f∈ns,lE K C f
end Fc
namespace Fc.DP
open PySem PySem.Spec
variable {prog:U4}{w:World}{A:U6}{E:`s}
section
variable {h:Heap}{g:Array V9}{d:Drawn}{t:Nat}{os:OsState}{a:Addr}{o:Obj}
end
variable {K:Type}
section
variable  [DecidableEq K]{knd:KeyKind prog w K}{R:Result->U0->Prop}{I:Addr}{fp wr:Ro}{G:Array V9->Array V9->Prop}{n:Nat}{P:Nat->Value->Prop}{St:Nat->U0->Prop}
end
section
variable  [DecidableEq K]{knd:KeyKind prog w K}{s:U0}
end
end Fc.DP
namespace Fc
open PySem PySem.Spec PySem.W PySem.Calls L2
open PyProof.Rows hiding St
variable {X:Cx}{N:Ga->Prop}{T:RT}
section
variable {Z Γ1 Γ2 Γ3:Ga}{α β γ δ:Type}
end
variable {pos:Pos}{xs:Rm}
section
variable {Z Γ1 Γ2 Γ3:Ga}{α β γ δ:Type}
variable {x y:Str}
theorem ny:decide (V.str x=V.str y)=decide (x=y):=by
 by_cases h:x=y
 ·subst h;simp
 ·rw[Xz h,Xz λz=>h (by injection z)]
theorem cq:iY X .Eq aq aq x y (decide (x=y)):=⟨_,Gw,λR H v u Q _ e1 e2 q=>by
 cases e1;cases e2
 exact⟨rfl,by rw[ny];exact q⟩⟩
theorem vC:iY X .NotEq aq aq x y (!decide (x=y)):=⟨_,AG,λR H v u Q _ e1 e2 q=>by
 cases e1;cases e2
 exact⟨rfl,by rw[ny];exact q⟩⟩
theorem qP {n:Str}{t:Tok}(hm:X.mg x∣.str n t)(hg:Gl X x:=by rfl)(hd:Yz x:=by decide):EV X (.Name x pos) Z aq n Z:=
 λ_ _ _ _ _ E _ q=>eS (jC (v:=.str n) hg hm ⟨t,rfl⟩ hd) (q (.str n) _ _ E `S rfl)
noncomputable def xq:Rep Rm:=⟨λK R v xs=>∃a,v= .ref a/\d7 K R a (xs.map V.str),λs ⟨a,e,h⟩=>⟨a,e,by
 obtain h | h:=h
 ·exact .inl (h.imp (λq=>s _ _ q) λ⟨o,q⟩=>⟨o,s _ _ q⟩)
 ·exact .inr h⟩⟩
theorem nV (x:Str):∀xs:Rm,Gs (.str x) (xs.map V.str)=decide (x∈xs)
 | []=>rfl
 | y::r=>by
   let h:=nV x r;unfold Gs at h ⊢;rw[Sx,T9,h];let e:su (V.str y) (V.str x)=decide (x=y):=by
    show(y==x)=_;by_cases h:x=y
    ·subst h;simp
    ·rw[Xz h];exact beq_eq_false_iff_ne.mpr (UJ h)
   rw[e];by_cases h1:x=y<;>simp[h1]
theorem lZ:∀xs:Rm,(xs.map V.str).all kL=true
 | []=>rfl
 | _::r=>by rw[Sx,all_cons,lZ r];rfl
theorem lY :iY X .In aq xq x xs (decide (x∈xs)):=⟨_,u7,λR H v u Q s e1 e2 q=>by
 cases e1
 let⟨a,rfl,h⟩:=e2;exact⟨a,_,rfl,.inr (h.imp (λh=>h.imp (λq=>s _ _ q) λ⟨o,q⟩=>⟨o,s _ _ q⟩) id),rfl,lZ xs,by rw[Xu Rv,nV];exact q⟩⟩
noncomputable def tU (K:W7)(mg:Rj)(x:Str)(xs:Rm):Prop:=∃a o XF n,mg x∣.ref a/\K.lookup a∣o/\o.cls= .type "tuple"/\o.data= .seq XF n/\XF.size<=UZ/\Vals (xs.map V.str) XF.toList
theorem iF (hm:tU X.K X.mg x xs)(hg:Gl X x:=by rfl)(hd:Yz x:=by decide):EV X (.Name x pos) Z xq xs Z:=by
 let⟨a,o,XF,n,h1,h2⟩:=hm;exact λ_ _ _ _ _ E _ q=>eS (jC (v:=.ref a) hg h1 rfl hd) (q (.ref a) _ _ E `S ⟨a,rfl,.inr ⟨o,XF,n,h2⟩⟩)
end
noncomputable def nI (P:U4)(w:World)(K:W7)(mg:Rj)(x:Str)(D:List (Str×Rm)):Prop:=
 ∃a o vs,mg x∣.ref a/\K.lookup a∣o/\o.IsDictOf (cE P w) vs/\(a==Vh)=false/\
  PySem.Paired (λ(d:Str×Rm)(p:Key×Value)=>p.1=Sum.inr d.1/\∃b o XF n,p.2= .ref b/\K.lookup b∣o/\o.cls= .type "tuple"/\o.data= .seq XF n/\XF.size<=UZ/\Vals (d.2.map V.str) XF.toList) D vs
noncomputable def cM:List (Str×Rm)->Str->Option Rm
 | [],_=>none
 | (k,v)::r,x=>if k=x then some v else cM r x
theorem vD {K:W7}{x:Str}:∀{D:List (Str×Rm)}{vs:List (Key×Value)},PySem.Paired (λ(d:Str×Rm)(p:Key×Value)=>p.1=Sum.inr d.1/\∃b o XF n,p.2= .ref b/\K.lookup b∣o/\o.cls= .type "tuple"/\o.data= .seq XF n/\XF.size<=UZ/\Vals (d.2.map V.str) XF.toList) D vs->
 (cM D x=none/\Vm vs (Sum.inr x:Key)=none)∨∃ys b,cM D x∣ys/\Vm vs (Sum.inr x:Key)∣.ref b/\∃o XF n,K.lookup b∣o/\o.cls= .type "tuple"/\o.data= .seq XF n/\XF.size<=UZ/\Vals (ys.map V.str) XF.toList
 | _,_,.nil=>.inl ⟨rfl,rfl⟩
 | _,_,.cons (a:=d) (b:=p) h t=>by
   let⟨k,v⟩:=d;let⟨q,u⟩:=p;let⟨e1,b,o,XF,n,e2,h3⟩:=h;let e1:q=Sum.inr k:=e1;let e2:u=WZ b:=e2;subst e1;subst e2;rw[cM];unfold Vm;rw[Tq];by_cases e:k=x
   ·subst e;rw[Xv rfl];exact .inr ⟨v,b,rfl,`d,o,XF,n,h3⟩
   ·rw[Xu e];have:decide ((Sum.inr k:Key)=Sum.inr x)=false:=Xz λz=>e (Sum.inr.inj z);simp only[this];exact vD t
section
variable {Z Γ1 Γ2 Γ3:Ga}{α β γ δ:Type}
theorem DJ {e:Expr}{x:Str}{p1:Pos}{D:List (Str×Rm)}{k:Str}(hD:nI X.prog X.w X.K X.mg x D)(he:EV X e Z aq k Γ1)(hg:Gl X x:=by rfl)(hd:Yz x:=by decide):TV X (.Compare e [.NotIn] [.Name x p1] pos) Z (!(cM D k).isSome) Γ1:=by
 intro σ H0 R0 H R E Q q;let⟨a,o,vs,hm,hk,hdo,hs,hp⟩:=hD;let pc:PC X .NotIn e `h (λσ H Q=>fX X e σ H λy H1=>y= .str k/\Q (.bl (!(cM D k).isSome)) H1):=by
  intro XD s σ H Q I h;refine a8 (h XD s I) λiv s1 ⟨y,H1,I1,ry,ey,q1⟩=>a8 (jC (v:=.ref a) hg hm rfl hd XD s1 σ H1 (λv H2=>v= .ref a/\H2=H1) I1 ⟨rfl,rfl⟩) λu s2 ⟨y2,H2,I2,ry2,e3,e4⟩=>?_;subst ey;subst e3;subst e4;obtain rfl:u=WZ a:=ry2;let dd:s2.heap.DictOf (cE X.prog X.w) a vs:=WL.mpr ⟨o,I2.gy a o hk,hdo⟩;refine wpAny_notIn_of (ku (k:=Sum.inr k) ry) hs dd.mapOf ?_;obtain⟨h1,h2⟩ | ⟨ys,b,h1,h2,_⟩:=vD (x:=k) hp
  ·rw[h2];rw[h1] at q1;exact⟨.bl _,_,I2.tok _,rfl,q1⟩
  ·rw[h2];rw[h1] at q1;exact⟨.bl _,_,I2.tok _,rfl,q1⟩
 refine tS (mP pc (by with_unfolding_all rfl)) (he σ H0 R0 H R E _ λv H1 R1 E1 s1 e1=>⟨e1,_,rfl,q H1 R1 E1 s1⟩)
end
end Fc
namespace Fc.ZT
open PySem PySem.Spec PyProof.Rows
variable {prog:U4}{w:World}{A:U6}{E:`s}{s:U0}{XF:Array Value}{Q:`s}
structure Dr (prog:U4)(w:World)(A:U6)(i l:Addr)(XF:Array Value)(St:Nat->Heap->Prop):Prop where
 up:∀{k:Nat}{h h':Heap},St k h->(∀b,b=i∨b=l->∀o,h.get? b∣o->h'.get? b∣o)->St k h'
 there:∀{k:Nat}{h:Heap},St k h->i<h.objs.size
 item:∀{k:Nat}{x:`aM}{s:U0}{Q:`s}{E:`s},St k s.heap->XF[k]?∣x->(∀h',St (k+1) h'->WI i s.heap h'->Q x {s with heap:=h'})->wpAny `t A (Wl (.ref i)) Q E s
 done:∀{k:Nat}{s:U0}{Q:`s}{E:`s},St k s.heap->XF[k]?=none->(∀h' e,WM i s.heap h'->(∃o,h'.get? e∣o/\o.cls= .type "StopIteration")->E (.ref e) {s with heap:=h'})->wpAny `t A (Wl (.ref i)) Q E s
theorem Eh {i l:Addr}(hh:A.handled=none)(XS:i≠l):Dr prog w A i l XF (λk h=>h.IsTupleIter i l k/\h.IsTuple l XF) where
 up:=λ⟨⟨o,ho,r⟩,⟨o',Y4,r'⟩⟩ hk=>⟨⟨o,hk _ (.inl rfl) o ho,r⟩,⟨o',hk _ (.inr rfl) o' Y4,r'⟩⟩
 there:=λ⟨⟨o,ho,_⟩,_⟩=>WE ho
 item:=λ{k x s Q E} ⟨hit,ht⟩ hx hQ=>by
  let⟨o,ho,hc,hd⟩:=id hit;let⟨ol,hol,_,nl,hdl⟩:=id ht;unfold Wl;refine U1 (Vi (name:=WX "__next__") hit.typeIs Ww
   (Vv Ww hit.typeIs F.entry_tuple_iterator_next ?_ (F.args_tuple_iterator_next_1 _)))
  show wpAny _ _ (field (.ref i) 0 >>=_) _ _ s;refine U1 (Vd ho hd (x:=.ref l) rfl ?_);refine wpAny_ite ?_;rw[Xu (show¬((WZ l==W0)=true) from Rv)];show wpAny _ _ (field (.ref i) 1 >>=_) _ _ s;refine U1 (Vd ho hd (x:=.int k 0) rfl ?_);show wpAny _ _ (seqItems? (.ref l) >>=_) _ _ s;refine U1 (Vp hol hdl ?_);simp only[RL,hx];let hs:=WI.update s.heap i (λo=>o.mapFields λa=>a.setIfInBounds 1 (V5 (k+1)));refine U1 (wpAny_setField ho hd `d (U3 ⟨x,rfl,U3 (hQ _ ⟨?_,ht.extBut (WI.update ..).extBut (UJ XS)⟩ (WI.update ..))⟩));exact⟨_,WK _ ho (Obj.isFreed_of_fields (Obj.data_mapFields hd _)),(Obj.cls_mapFields ..).trans hc,by rw[Obj.data_mapFields hd];simp[V5]⟩
 done:=λ{k s Q E} ⟨hit,ht⟩ hx hE=>by
  let⟨o,ho,hc,hd⟩:=id hit;let⟨ol,hol,_,nl,hdl⟩:=id ht;unfold Wl;refine U1 (Vi (name:=WX "__next__") hit.typeIs Ww
   (Vv Ww hit.typeIs F.entry_tuple_iterator_next ?_ (F.args_tuple_iterator_next_1 _)))
  show wpAny _ _ (field (.ref i) 0 >>=_) _ _ s;refine U1 (Vd ho hd (x:=.ref l) rfl ?_);refine wpAny_ite ?_;rw[Xu (show¬((WZ l==W0)=true) from Rv)];show wpAny _ _ (field (.ref i) 1 >>=_) _ _ s;refine U1 (Vd ho hd (x:=.int k 0) rfl ?_);show wpAny _ _ (seqItems? (.ref l) >>=_) _ _ s;refine U1 (Vp hol hdl ?_);simp only[RL,hx];refine U1 (VM (U1 (wpAny_setField ho hd `d ?_)));show wpAny _ _ (newExc (.type "StopIteration") [] >>=_) _ _ _;refine U1 ?_;simp only[newExc,newTuple];refine U1 (Vl ?_ (by size_fits));refine U1 (m:=firstArgMember _ _) (wpAny_of_eq (a:=W0) (by first | rfl | (simp only[firstArgMember];rfl)) ?_);refine Vl ?_ (by size_fits);simp only[raiseNew];refine U1 (wpAny_handled ?_)
  first | rw[show A.in1.handled=none from hh] | rw[hh]
  refine U1 (U3 (wpAny_throw ?_));exact hE _ _ (((WI.update ..).extBut.push _).push _) ⟨_,WG _ rfl,rfl⟩
section
variable {z TI TO i1 i2 l1 l2:Addr}{k1 k2:Nat}{xs ys:Array Value}{x y a b:`aM}{S1 S2:Nat->Heap->Prop}
theorem up1 {i l c:Addr}{St:Nat->Heap->Prop}(d:Dr prog w A i l XF St){k:Nat}{h h':Heap}(hs:St k h)(e:WM c h h')(h1:i≠c)(h2:l≠c):St k h':=d.up hs λb hb o q=>e b o (by rcases hb with rfl | rfl<;>assumption) q
theorem Iv (D:Wb z TI TO i1 i2 l1 l2)(d1:Dr prog w A i1 l1 xs S1)(d2:Dr prog w A i2 l2 ys S2)(hz:IsZip s.heap z TI TO .none)(Zd:Vj s.heap TI (.ref i1) (.ref i2))(Zg:Vj s.heap TO a b)(h1:S1 k1 s.heap)(h2:S2 k2 s.heap)(hx:xs[k1]?∣x)(hy:ys[k2]?∣y)(hQ:∀h',IsZip h' z TI TO (V5 ⇑s)->Vj h' TO x y->S1 (k1+1) h'->S2 (k2+1) h'->Vj h' ⇑s x y->`ar->Q (.ref ⇑s) {s with heap:=h'}):
 wpAny `t A (Builtin.«zip.__next__» ⟨[.ref z],[]⟩) (λfin s'=>∃v,fin= .done (.ret v)/\Q v s') E s:=by
 show wpAny _ _ (field (.ref z) 2 >>=_) _ _ _;refine U1 (Vd hz rfl (x:=.bool false) rfl ?_);show wpAny _ _ (field (.ref z) 3 >>=_) _ _ _;refine U1 (Vd hz rfl (x:=.ref TI) rfl (U1 (Vp Zd rfl ?_)));show wpAny _ _ (Wm (.ref z) >>=_) _ _ _;refine U1 ?_;unfold Wm;refine U1 (Vd hz rfl (x:=.none) rfl (U3 ?_));simp only[if_true];refine U1 (VM (U1 (Vd hz rfl (x:=.ref TO) rfl (U1 (Vr hz `d λha hza ZP=>?_)))));replace hza:IsZip ha z TI TO .ellipsis:=hza;refine U1 ?_;simp only[List.zipIdx_cons,List.zipIdx_nil,Ug,forIn_nil];refine U1 (U1 (VU ?_));show wpAny _ _ (Wl (.ref i1) >>=_) _ _ _;let g1:S1 k1 ha:=up1 d1 h1 ZP.extBut D.i1z D.l1z;let g2:S2 k2 ha:=up1 d2 h2 ZP.extBut D.i2z D.l2z;refine U1 (d1.item g1 hx λhb n1 YS=>U3 ?_);let tb:Vj hb TO a b:=YS.extBut _ _ D.TOi1 (ZP.extBut _ _ D.TOz Zg);refine U1 (Vp tb rfl (U1 (VN tb λhc tc ZD=>?_)));replace tc:Vj hc TO x b:=tc;refine U1 (wpAny_letGo (U3 ?_));refine U1 (U1 (VU ?_));show wpAny _ _ (Wl (.ref i2) >>=_) _ _ _;let g2c:S2 k2 hc:=up1 d2 (up1 d2 g2 YS.extBut D.i12.symm D.l2i1) ZD.extBut D.TOi2.symm D.l2TO;refine U1 (d2.item g2c hy λhd n2 hsd=>U3 ?_);let td:Vj hd TO x b:=hsd.extBut _ _ D.TOi2 tc;refine U1 (Vp td rfl (U1 (VN td λhe te Z0=>?_)));replace te:Vj he TO x y:=te;refine U1 (wpAny_letGo (U3 (U3 ?_)));refine U1 (Vp te rfl (U1 (wpAny_newTuple ?_)));let hsz:he.objs.size=⇑s:=by rw[Z0.1,hsd.1,ZD.1,YS.1,ZP.1]
 let ze:IsZip he z TI TO .ellipsis:=Z0.extBut _ _ D.TOz.symm (hsd.extBut _ _ D.i2z.symm (ZD.extBut _ _ D.TOz.symm (YS.extBut _ _ D.i1z.symm hza)));let ke:∀c o,c≠z->c≠TO->c≠i1->c≠i2->s.heap.get? c∣o->he.get? c∣o:=λc o c1 c2 c3 c4 e=>
  Z0.extBut _ _ c2 (hsd.extBut _ _ c4 (ZD.extBut _ _ c2 (YS.extBut _ _ c3 (ZP.extBut _ _ c1 e))))
 let m1:S1 (k1+1) he:=up1 d1 (up1 d1 (up1 d1 n1 ZD.extBut D.TOi1.symm D.l1TO) hsd.extBut D.i12 D.l1i2) Z0.extBut D.TOi1.symm D.l1TO;let m2:S2 (k2+1) he:=up1 d2 n2 Z0.extBut D.TOi2.symm D.l2TO;let hzlt:z<he.objs.size:=WE ze;show wpAny _ _ (Builtin.SmallTypes.ownedTupleHandOut (.ref z) (.ref he.objs.size) >>=_) _ _ _;refine U1 ?_;unfold Builtin.SmallTypes.ownedTupleHandOut;let zf:IsZip (he.push {cls:=.type "tuple",data:=.seq #[x,y]}) z TI TO .ellipsis:=WC _ ze;refine U1 (Vr zf `d λhg zg hsg=>?_);replace zg:IsZip hg z TI TO (V5 he.objs.size):=zg;refine Vr zg `d λhj zj hsj=>?_;replace zj:IsZip hj z TI TO (V5 he.objs.size):=zj;let up:∀c o,c≠z->he.get? c∣o->hj.get? c∣o:=λc o c1 e=>hsj.extBut _ _ c1 (hsg.extBut _ _ c1 (WC _ e));let tj:Vj hj he.objs.size x y:=hsj.extBut _ _ (Uy hzlt) (hsg.extBut _ _ (Uy hzlt) (WG _ rfl));rw[hsz] at zj tj;refine U3 ⟨_,rfl,?_⟩;show Q (.ref he.objs.size) _;rw[hsz];exact hQ hj zj (up _ _ D.TOz te) (d1.up m1 λc hc o e=>up c o (hc.elim (λq=>by rw[q];exact D.i1z) λq=>by rw[q];exact D.l1z) e) (d2.up m2 λc hc o e=>up c o (hc.elim (λq=>by rw[q];exact D.i2z) λq=>by rw[q];exact D.l2z) e) tj λc o c1 c2 c3 c4 e=>up c o c1 (ke c o c1 c2 c3 c4 e)
theorem oE {Q:PySem.Fin->U0->Prop}(D:Wb z TI TO i1 i2 l1 l2)(d1:Dr prog w A i1 l1 xs S1)(d2:Dr prog w A i2 l2 ys S2)(hz:IsZip s.heap z TI TO .none)(Zd:Vj s.heap TI (.ref i1) (.ref i2))(Zg:Vj s.heap TO a b)(h1:S1 k1 s.heap)(h2:S2 k2 s.heap)(YB:xs[k1]?=none∨ys[k2]?=none)(hE:∀h' e,`ar->(∃o,h'.get? e∣o/\o.cls= .type "StopIteration")->E (.ref e) {s with heap:=h'}):
 wpAny `t A (Builtin.«zip.__next__» ⟨[.ref z],[]⟩) Q E s:=by
 show wpAny _ _ (field (.ref z) 2 >>=_) _ _ _;refine U1 (Vd hz rfl (x:=.bool false) rfl ?_);show wpAny _ _ (field (.ref z) 3 >>=_) _ _ _;refine U1 (Vd hz rfl (x:=.ref TI) rfl (U1 (Vp Zd rfl ?_)));show wpAny _ _ (Wm (.ref z) >>=_) _ _ _;refine U1 ?_;unfold Wm;refine U1 (Vd hz rfl (x:=.none) rfl (U3 ?_));simp only[if_true];refine U1 (VM (U1 (Vd hz rfl (x:=.ref TO) rfl (U1 (Vr hz `d λha hza ZP=>?_)))));replace hza:IsZip ha z TI TO .ellipsis:=hza;refine U1 ?_;simp only[List.zipIdx_cons,List.zipIdx_nil,Ug,forIn_nil];refine U1 (U1 (VU ?_));show wpAny _ _ (Wl (.ref i1) >>=_) _ _ _;let g1:S1 k1 ha:=up1 d1 h1 ZP.extBut D.i1z D.l1z;let g2:S2 k2 ha:=up1 d2 h2 ZP.extBut D.i2z D.l2z;cases hx:xs[k1]? with
 | none=>
   refine U1 (d1.done g1 hx λhb e YS he=>?_);let⟨oe,hoe,hce⟩:=he;let zb:IsZip hb z TI TO .ellipsis:=YS _ _ D.i1z.symm hza;let hez:e≠z:=λq=>by subst q;rw[zb] at hoe;cases hoe;simp at hce
   exact Vr zb `d λhc _ ZD=>hE hc e (λc o c1 _ c3 _ q=>ZD.extBut _ _ c1 (YS _ _ c3 (ZP.extBut _ _ c1 q))) ⟨oe,ZD.extBut _ _ hez hoe,hce⟩
 | some x=>
   let hy:ys[k2]?=none:=by obtain q | q:=YB;rw[hx] at q;cases q;exact q
   refine U1 (d1.item g1 hx λhb n1 YS=>U3 ?_);let tb:Vj hb TO a b:=YS.extBut _ _ D.TOi1 (ZP.extBut _ _ D.TOz Zg);refine U1 (Vp tb rfl (U1 (VN tb λhc tc ZD=>?_)));refine U1 (wpAny_letGo (U3 ?_));refine U1 (U1 (VU ?_));show wpAny _ _ (Wl (.ref i2) >>=_) _ _ _;let g2c:S2 k2 hc:=up1 d2 (up1 d2 g2 YS.extBut D.i12.symm D.l2i1) ZD.extBut D.TOi2.symm D.l2TO;refine U1 (d2.done g2c hy λhd e hsd he=>?_);let⟨oe,hoe,hce⟩:=he;let zd:IsZip hd z TI TO .ellipsis:=hsd _ _ D.i2z.symm (ZD.extBut _ _ D.TOz.symm (YS.extBut _ _ D.i1z.symm hza));let hez:e≠z:=λq=>by subst q;rw[zd] at hoe;cases hoe;simp at hce
   exact Vr zd `d λhe _ Z0=>hE he e (λc o c1 c2 c3 c4 q=>Z0.extBut _ _ c1 (hsd _ _ c4 (ZD.extBut _ _ c2 (YS.extBut _ _ c3 (ZP.extBut _ _ c1 q))))) ⟨oe,Z0.extBut _ _ hez hoe,hce⟩
theorem Hj {Q:Rn->U0->Prop}(D:Wb z TI TO i1 i2 l1 l2)(d1:Dr prog w A.in1 i1 l1 xs S1)(d2:Dr prog w A.in1 i2 l2 ys S2)(hz:IsZip s.heap z TI TO .none)(Zd:Vj s.heap TI (.ref i1) (.ref i2))(Zg:Vj s.heap TO a b)(h1:S1 k1 s.heap)(h2:S2 k2 s.heap)(hx:xs[k1]?∣x)(hy:ys[k2]?∣y)(hQ:∀h',IsZip h' z TI TO (V5 ⇑s)->Vj h' TO x y->S1 (k1+1) h'->S2 (k2+1) h'->Vj h' ⇑s x y->`ar->Q (some (.ref ⇑s)) {s with heap:=h'}):
 wpAny `t A (VY (.ref z)) Q E s:=by
 let hT:s.TypeIs (.ref z) "zip":=⟨_,hz,rfl⟩;unfold VY;exact U1 (wpAny_attempt (Vi (name:=WX "__next__") hT Wx (Vv Wx hT F.entry_zip_next (Iv D d1 d2 hz Zd Zg h1 h2 hx hy λh' a1 a2 a3 a4 a5 a6=>U3 (hQ h' a1 a2 a3 a4 a5 a6)) (F.args_zip_next_1 _))))
theorem Mr {Q:Rn->U0->Prop}(D:Wb z TI TO i1 i2 l1 l2)(d1:Dr prog w A.in1 i1 l1 xs S1)(d2:Dr prog w A.in1 i2 l2 ys S2)(hz:IsZip s.heap z TI TO .none)(Zd:Vj s.heap TI (.ref i1) (.ref i2))(Zg:Vj s.heap TO a b)(h1:S1 k1 s.heap)(h2:S2 k2 s.heap)(YB:xs[k1]?=none∨ys[k2]?=none)(hQ:∀h',`ar->Q none {s with heap:=h'}):wpAny `t A (VY (.ref z)) Q E s:=by
 let hT:s.TypeIs (.ref z) "zip":=⟨_,hz,rfl⟩;unfold VY;refine U1 (wpAny_attempt (Vi (name:=WX "__next__") hT Wx (Vv Wx hT F.entry_zip_next (oE D d1 d2 hz Zd Zg h1 h2 YB λh' e hk he=>?_) (F.args_zip_next_1 _))));let⟨o,ho,hc⟩:=he;exact U1 (wpAny_isInstance (T:="StopIteration") (b:=true) ⟨o,ho,hc⟩ isSubtype_stop (U3 (hQ _ hk)))
end
theorem Hk {i l:Addr}(hh:A.handled=none)(XS:i≠l):Dr prog w A i l XF (λk h=>h.IsListIter i l k/\h.IsList l XF) where
 up:=λ⟨⟨o,ho,r⟩,⟨o',Y4,r'⟩⟩ hk=>⟨⟨o,hk _ (.inl rfl) o ho,r⟩,⟨o',hk _ (.inr rfl) o' Y4,r'⟩⟩
 there:=λ⟨⟨o,ho,_⟩,_⟩=>WE ho
 item:=λ{k x s Q E} ⟨hit,ht⟩ hx hQ=>wpAny_nextOf_list_item hit ht hx λh' h1 h2=>hQ h' ⟨h1,ht.extBut h2.extBut (UJ XS)⟩ h2
 done:=λ{k s Q E} ⟨hit,ht⟩ hx hE=>wpAny_nextOf_list_end hh hit ht hx λh' e h1 h2=>hE h' e h1 h2
abbrev nq (c:String)(l:Addr):Obj:={cls:=.type c,data:=.fields #[.ref l,.int 0 0]}
def wJ (c:String)(h:Heap)(a l:Addr)(i:Nat):Prop:=∃o,h.get? a∣o/\o.cls= .type c/\o.data= .fields #[.ref l,.int i 0]
structure Kd (prog:U4)(w:World)(it:String)(Is:Heap->Addr->Array Value->Prop):Prop where
 nm:it="list_iterator"∨it="tuple_iterator"
 cl:∀{h:Heap}{a:Addr}{XF:Array Value},Is h a XF->∃o,h.get? a∣o/\(o.cls= .type "list"∨o.cls= .type "tuple")
 up:∀{h:Heap}{a:Addr}{XF:Array Value}(o:Obj),Is h a XF->Is (h.push o) a XF
 dr:∀{A:U6}{i l:Addr}{XF:Array Value},A.handled=none->i≠l->Dr prog w A i l XF (λk h=>wJ it h i l k/\Is h l XF)
 iter:∀{A:U6}{E:`s}{s:U0}{l:Addr}{XF:Array Value}{Q:`s},Is s.heap l XF->Q (.ref ⇑s) {s with heap:=s.heap.push (nq it l)}->wpAny `t A (pyIter (.ref l)) Q E s
theorem Qy :Kd prog w "list_iterator" Heap.IsList:=⟨.inl rfl,λ⟨o,ho,hc,_⟩=>⟨o,ho,.inl hc⟩,λo h=>h.push o,λhh hn=>Hk hh hn,λh q=>Vw h q⟩
theorem Rf :Kd prog w "tuple_iterator" Heap.IsTuple:=⟨.inr rfl,λ⟨o,ho,hc,_⟩=>⟨o,ho,.inr hc⟩,λo ⟨o',ho,r⟩=>⟨o',WC _ ho,r⟩,λhh hn=>Eh hh hn,λh q=>wpAny_pyIter_tuple h q⟩
section
variable {i1 i2:String}{S1 S2:Heap->Addr->Array Value->Prop}
theorem Kd.apart {h:Heap}{l c:Addr}{o:Obj}(k:Kd prog w i1 S1)(p:S1 h l XF)(e:h.get? c∣o)(hc:o.cls= .type "zip"∨o.cls= .type "list_iterator"∨o.cls= .type "tuple_iterator"):l≠c:=λz=>by
 let⟨u,e',c'⟩:=k.cl p;rw[z,e] at e';cases e'
 rcases hc with q | q | q<;>rw[q] at c'<;>simp at c'
theorem DK {l1 l2:Addr}{xs ys:Array Value}(k1:∀prog w,Kd prog w i1 S1)(k2:∀prog w,Kd prog w i2 S2)(hl1:S1 s.heap l1 xs)(hl2:S2 s.heap l2 ys)(h:∀h',IsZip h' (⇑s+4) (⇑s+2) (⇑s+3) .none->Vj h' (⇑s+2) (.ref ⇑s) (.ref (⇑s+1))->Vj h' (⇑s+3) .none .none->wJ i1 h' ⇑s l1 0->wJ i2 h' (⇑s+1) l2 0->
  (∀c o,s.heap.get? c∣o->h'.get? c∣o)->Q (.ref (⇑s+4)) {s with heap:=h'}):wpAny `t A (call (.type "zip") [.ref l1,.ref l2]) Q E s:=by
 let nz:Meets (Builtin.«zip.__new__» ⟨[.type "zip",.ref l1,.ref l2],[]⟩) (λ_ R s=>S1 s.heap l1 xs/\S2 s.heap l2 ys/\R (.ok (.ret (.ref (⇑s+4)))) {s with heap:=((((s.heap.push (nq i1 l1)).push (nq i2 l2)).push {cls:=.type "tuple",data:=.seq #[.ref ⇑s,.ref (⇑s+1)]}).push {cls:=.type "tuple",data:=.seq #[.none,.none]}).push {cls:=.type "zip",data:=.fields #[.none,.bool false,.bool false,.ref (⇑s+2),.ref (⇑s+3)]}}):=
  .of_wp λprog w A R s h=>by
   let⟨hp,g,d,tk,os⟩:=s;let⟨hl1,hl2,h⟩:=h;let Ya:isSubtype (.type "zip") (.type "zip")=pure true:=by rw[isSubtype_type];kernel_rfl
   let hL1:S1 (U0.heap ⟨hp,g,d,tk,os⟩) l1 xs:=hl1;let hL2:S2 (U0.heap ⟨hp.push (nq i1 l1),g,d,tk,os⟩) l2 ys:=(k2 prog w).up _ hl2
   wp_walk using(k1 prog w).iter hL1,(k2 prog w).iter hL2
   refine⟨_,rfl,?_⟩;simp only[WH];exact h
 refine callType_new F.called_zip `c (F.typeCall_zip_2 _ _) (F.newCall_zip_2 _ _) (λobj=>F.args_object_init_3 obj _ _) F.entry_zip_new nz ⟨hl1,hl2,?_⟩;let at_:∀(h:Heap)(o:Obj)(n:Nat),h.objs.size=n->o.isFreed=false->(h.push o).get? n∣o:=λh o n e f=>by subst e;exact WG _ f
 let g5:=at_ ((((s.heap.push (nq i1 l1)).push (nq i2 l2)).push {cls:=.type "tuple",data:=.seq #[.ref ⇑s,.ref (⇑s+1)]}).push {cls:=.type "tuple",data:=.seq #[.none,.none]}) {cls:=.type "zip",data:=.fields #[.none,.bool false,.bool false,.ref (⇑s+2),.ref (⇑s+3)]} (⇑s+4) (by simp[WH]) rfl;let g4:=at_ (((s.heap.push (nq i1 l1)).push (nq i2 l2)).push {cls:=.type "tuple",data:=.seq #[.ref ⇑s,.ref (⇑s+1)]}) {cls:=.type "tuple",data:=.seq #[.none,.none]} (⇑s+3) (by simp[WH]) rfl;let g3:=at_ ((s.heap.push (nq i1 l1)).push (nq i2 l2)) {cls:=.type "tuple",data:=.seq #[.ref ⇑s,.ref (⇑s+1)]} (⇑s+2) (by simp[WH]) rfl;let g2:=at_ (s.heap.push (nq i1 l1)) (nq i2 l2) (⇑s+1) (by simp[WH]) rfl;let g1:=at_ s.heap (nq i1 l1) ⇑s rfl rfl;let p:=@WC;exact⟨⟨_,g5,rfl⟩,h _ g5 (p _ (p _ g3)) (p _ g4) ⟨_,p _ (p _ (p _ (p _ g1))),rfl,rfl⟩ ⟨_,p _ (p _ (p _ g2)),rfl,rfl⟩ λc o x=>p _ (p _ (p _ (p _ (p _ x))))⟩
end
end Fc.ZT
namespace Fc
open PySem PySem.Spec PySem.W PySem.Calls L2
open PyProof.Rows hiding St
variable {i:Nat}{K:W7}{es:Rr}{tp:Pos}{R:Hp}{v:V}{xs:List PV}{pos:Pos}
section
variable {X:Cx}{Z Γ1 Γ2 Γ3:Ga}{α β γ δ:Type}{N:Ga->Prop}{T:RT}
structure Et (z TI TO i1 i2:Addr):Prop where
 TIz:TI≠z
 TOz:TO≠z
 i1z:i1≠z
 i2z:i2≠z
 TITO:TI≠TO
 TIi1:TI≠i1
 TIi2:TI≠i2
 TOi1:TO≠i1
 TOi2:TO≠i2
 i12:i1≠i2
theorem Zw {a b:Nat}(h:a<b∨b<a): @Ne Addr a b:=h.elim Ur Uy
theorem QZ (n:Nat):Et (n+4) (n+2) (n+3) n (n+1):=⟨Zw `a,Zw `a,Zw `a,Zw `a,Zw `a,Zw `a,Zw `a,Zw `a,Zw `a,Zw `a⟩
structure Ky where
 it:String
 Is:Heap->Addr->Array Value->Prop
 Sq:W7->Hp->Addr->List V->Prop
 kd:∀prog w,ZT.Kd prog w it Is
 get:∀{X:Cx}{XD:Rk}{σ:St}{H:Hp}{s:U0}{a:Addr}{xs:`R},Inv X XD σ H s->Sq X.K H a xs->∃XF,Vals xs XF/\Is s.heap a XF.toArray
 inj:∀{X:Cx}{XD:Rk}{σ:St}{H:Hp}{s:U0}{a:Addr}{xs ys:`R},Inv X XD σ H s->Sq X.K H a xs->Sq X.K H a ys->xs=ys
def Gq:Ky:=⟨_,_,bt,λ_ _=>ZT.Qy,λI h=>by let⟨XF,r,p,_⟩:=I.list h;exact⟨XF,r,p.isList⟩,λI h h'=>I.nH h h'⟩
def BF:Ky:=⟨_,_,d7,λ_ _=>ZT.Rf,λI h=>by let⟨XF,r,p,_⟩:=I.tuple h;exact⟨XF,r,p⟩,λI h h'=>I.uN h h'⟩
variable {k1 k2:Ky}
def OX (k1 k2:Ky)(K:W7)(a b:Addr):It:=
 ⟨λi H=>∃xs ys x y,k1.Sq K H a xs/\k2.Sq K H b ys/\xs[i]?∣x/\ys[i]?∣y,
  λi H v H'=>∃p x y,H p=none/\v= .ref p/\H'=upd H p (.tup [x,y])/\(∀xs,k1.Sq K H a xs->xs[i]?∣x)/\∀ys,k2.Sq K H b ys->ys[i]?∣y,
  λi H=>∃xs ys,k1.Sq K H a xs/\k2.Sq K H b ys/\(xs.length<=i∨ys.length<=i)⟩
def PX (k1 k2:Ky)(z TI TO i1 i2 a b:Addr)(i:Nat)(h:Heap):Prop:=
 IsZip h z TI TO .none/\Vj h TI (.ref i1) (.ref i2)/\(∃u v,Vj h TO u v)/\ZT.wJ k1.it h i1 a i/\ZT.wJ k2.it h i2 b i/\a≠TO/\b≠TO
theorem Pr {P:U4}{w:World}{h:Heap}{z TI TO i1 i2 a b:Addr}{xs ys:Array Value}(F:Et z TI TO i1 i2)(st:PX k1 k2 z TI TO i1 i2 a b i h)(pa:k1.Is h a xs)(pb:k2.Is h b ys):Wb z TI TO i1 i2 a b:=by
 let⟨hz,_,_,⟨o1,e1,c1,_⟩,⟨o2,e2,c2,_⟩,n1,n2⟩:=st;let q1:o1.cls= .type "list_iterator"∨o1.cls= .type "tuple_iterator":=(k1.kd P w).nm.imp (λe=>by rw[c1,e]) (λe=>by rw[c1,e]);let q2:o2.cls= .type "list_iterator"∨o2.cls= .type "tuple_iterator":=(k2.kd P w).nm.imp (λe=>by rw[c2,e]) (λe=>by rw[c2,e]);exact⟨F.TIz,F.TOz,F.i1z,F.i2z,F.TITO,F.TIi1,F.TIi2,F.TOi1,F.TOi2,F.i12,
  (k1.kd P w).apart pa hz (.inl rfl),n1,(k1.kd P w).apart pa e1 (.inr q1),(k1.kd P w).apart pa e2 (.inr q2),
  (k2.kd P w).apart pb hz (.inl rfl),n2,(k2.kd P w).apart pb e1 (.inr q1),(k2.kd P w).apart pb e2 (.inr q2)⟩
theorem FW {P:U4}{w:World}{k:Nat}(a b z TI TO i1 i2:Addr)(F:Et z TI TO i1 i2):Turn P w K (.Tuple es k tp) (OX k1 k2 K a b) [z,TI,TO,i1,i2] z (PX k1 k2 z TI TO i1 i2 a b) where
 mem:=`d
 obj:=λi h st c hc=>by
  let⟨hz,Zd,⟨u,v,Zg⟩,⟨o1,e1,c1,d1⟩,⟨o2,e2,c2,d2⟩,_⟩:=st;simp only[R9,SR,or_false] at hc;obtain rfl | rfl | rfl | rfl | rfl:=hc
  ·exact⟨_,hz,λv q=>by cases q⟩
  ·exact⟨_,Zd,λv q=>by cases q⟩
  ·exact⟨_,Zg,λv q=>by cases q⟩
  ·exact⟨o1,e1,λv q=>by rw[d1] at q;cases q⟩
  ·exact⟨o2,e2,λv q=>by rw[d2] at q;cases q⟩
 keep:=λi h h' st kk=>by
  let⟨hz,Zd,⟨u,v,Zg⟩,h1,h2,n⟩:=st;exact⟨kk z `d _ hz,kk TI `d _ Zd,⟨u,v,kk TO `d _ Zg⟩,h1.imp λo q=>⟨kk i1 `d o q.1,q.2⟩,h2.imp λo q=>⟨kk i2 `d o q.1,q.2⟩,n⟩
 item:=by
  intro X hP hw hK hc i XD s σ H E I hf st hg;subst hP hw hK;let⟨xs,ys,x,y,hq,YM,hx,hy⟩:=hg;let⟨XF,r,pl⟩:=k1.get I hq;let⟨its',r',ZI⟩:=k2.get I YM;let⟨u,hu,rx⟩:=r.get hx;let⟨u',ZO,ry⟩:=r'.get hy;let D:=Pr (P:=X.prog) (w:=X.w) F st pl ZI;let hh:=I.ok.hd hc;let⟨hz0,Zd,⟨c,d,Zg⟩,h1,h2,n⟩:=st;let hn:H ⇑s=none:=I.XJ.fresh (Uk _);refine ZT.Hj D ((k1.kd _ _).dr (A:=X.A.in1) hh (UJ D.l1i1)) ((k2.kd _ _).dr (A:=X.A.in1) hh (UJ D.l2i2)) hz0 Zd Zg ⟨h1,pl⟩ ⟨h2,ZI⟩ (x:=u) (y:=u') (~~~hu) (~~~ZO) λh' a1 a2 a3 a4 a5 hk=>?_;refine⟨_,rfl,?_⟩;refine wpAny_letOwnedTupleGo_zip (s:={s with heap:=h'}) a1 λh3 hz3 hs3=>?_;let lt:∀{c o},s.heap.get? c∣o->c≠⇑s:=λe=>Ur (WE e);let hk2:∀b o,b∉[z,TI,TO,i1,i2]->s.heap.get? b∣o->h3.get? b∣o:=λb o hb q=>by
   simp only[R9,SR,or_false,not_or] at hb;exact hs3.extBut b o hb.1 (hk b o hb.1 hb.2.2.1 hb.2.2.2.1 hb.2.2.2.2 q)
  let I1:Inv X XD σ H {s with heap:=h3,toks:=s.toks}:=pX I hk2 hf;let hT2:h3.get? ⇑s=some {cls:=.type "tuple",data:=.seq #[u,u']}:=hs3.extBut _ _ (UJ (lt hz0)) a5;let I2:Inv X XD σ (upd H ⇑s (.tup [x,y])) {s with heap:=h3,toks:=s.toks}:=
   adopt I1 (I.ka (Uk _) hn) (I.sz) ⟨by show 2<=UZ;decide,[u,u'],.cons rx (.cons ry .nil),⟨_,hT2,rfl,_,rfl⟩⟩
  refine⟨.ref ⇑s,_,I2,rfl,⟨⇑s,x,y,hn,rfl,rfl,λzs hzs=>?_,λzs hzs=>?_⟩,⟨hz3,?_,⟨_,_,hs3.extBut _ _ F.TOz a2⟩,a3.1.imp λo q=>⟨hs3.extBut _ _ F.i1z q.1,q.2⟩,a4.1.imp λo q=>⟨hs3.extBut _ _ F.i2z q.1,q.2⟩,n⟩,λb hb=>?_⟩
  ·rw[k1.inj I hzs hq];exact hx
  ·rw[k2.inj I hzs YM];exact hy
  ·exact hs3.extBut _ _ F.TIz (hk _ _ F.TIz F.TITO F.TIi1 F.TIi2 Zd)
  ·let Yq:b≠⇑s:=by
    simp only[R9,SR,or_false] at hb;obtain rfl | rfl | rfl | rfl | rfl:=hb
    ·exact lt hz0
    ·exact lt Zd
    ·exact lt Zg
    ·let⟨_,e,_⟩:=h1;exact lt e
    ·let⟨_,e,_⟩:=h2;exact lt e
   rw[aG Yq];exact(hf b hb).1
 done:=by
  intro X hP hw hK hc i XD s σ H E I hf st hg;subst hP hw hK;let⟨xs,ys,hq,YM,hx⟩:=hg;let⟨XF,r,pl⟩:=k1.get I hq;let⟨its',r',ZI⟩:=k2.get I YM;let D:=Pr (P:=X.prog) (w:=X.w) F st pl ZI;let hh:=I.ok.hd hc;let⟨hz0,Zd,⟨c,d,Zg⟩,h1,h2,n⟩:=st;let l1:=r.length;let l2:=r'.length;refine ZT.Mr D ((k1.kd _ _).dr (A:=X.A.in1) hh (UJ D.l1i1)) ((k2.kd _ _).dr (A:=X.A.in1) hh (UJ D.l2i2)) hz0 Zd Zg ⟨h1,pl⟩ ⟨h2,ZI⟩ (hx.imp (λq=>by simp;cbv) λq=>by simp;cbv) λh' hk=>⟨rfl,?_⟩;refine pX (t':=s.toks) I (λb o hb q=>?_) hf;simp only[R9,SR,or_false,not_or] at hb;exact hk b o hb.1 hb.2.2.1 hb.2.2.2.1 hb.2.2.2.2 q
 self:=λ_ _ _ _ _ st h=>wpAny_pyIter_zip st.1 h
theorem lB {xs:`u}{ys:List β}{q:α×β}(h:(xs.zip ys)[i]?∣q):xs[i]?∣q.1/\ys[i]?∣q.2:=by
 rw[List.getElem?_zip_eq_some] at h;exact h
structure vS (k:Ky)(K:W7)(R:Hp)(v:V)(r:Rep α)(xs:`u):Prop where
 ex:∃a vs,v= .ref a/\(∀R' H,av R R'->av R' H->k.Sq K H a vs)/\vs.length=xs.length/\∀(i:Nat)(x:α),xs[i]?∣x->∃u,vs[i]?∣u/\r.R K R u x
theorem Ay {r:Rep α}{xs:`u}(h:(ae r).R K R v xs):vS Gq K R v r xs:=by
 let⟨a,vs,rfl,hp,pp,_⟩:=h;exact⟨a,vs,rfl,λR' H s s'=>bt.of (s' _ _ (s _ _ hp)),pp.length,λi x hx=>fH pp hx⟩
theorem Nq {xs:Rm}(h:xq.R K R v xs):vS BF K R v aq xs:=by
 let⟨a,rfl,hq⟩:=h;exact⟨a,_,rfl,λR' H s s'=>hq.imp (λh=>h.imp (λq=>s' _ _ (s _ _ q)) λ⟨o,q⟩=>⟨o,s' _ _ (s _ _ q)⟩) id,by rw[RS],λi x hx=>⟨_,by rw[R6,hx];rfl,rfl⟩⟩
theorem G4 (h:au.R K R v (.tup xs)):vS BF K R v au xs:=by
 let h:iV R v (.tup xs):=h;cases h with
 | @tup a vs _ hp pp=>exact⟨a,vs,rfl,λR' H s s'=>d7.of (s' _ _ (s _ _ hp)),pp.pair.length,λi x hx=>fH pp.pair hx⟩
def Ra (k1 k2:Ky)(K:W7)(ta:TA):TI:=λσ H R=>ta σ H λvs H1=>∃a b xs ys,vs=[.ref a,.ref b]/\k1.Sq K H1 a xs/\k2.Sq K H1 b ys/\R (OX k1 k2 K a b) H1
theorem Ll {a b:Expr}{ta:TA}{p:Pos}{k:Nat}(hg:Gl X "zip")(hm:X.mg "zip"=none)(ha:PA X [a,b] ta)(hs:v5 X a b)(Yh:fU X b):PI X (.Tuple es k tp) (.Call (.Name "zip" p) [a,b] [] pos) (Ra k1 k2 X.K ta):=by
 intro XD s σ H R I h;refine Call_ (je I hg hm boot_zip (UQ `U (by first | rw[dh,hs,Yh] | rw[hs,Yh]) (by rw[Yh];rfl)));let⟨l,l',xs,ys,e,hq,YM,q⟩:=q1;subst e;cases r1 with
 | cons r rr=>
   cases rr with
   | cons r' rr=>
     cases rr
     cases r
     cases r'
     let⟨XF,_,pl⟩:=k1.get I1 hq;let⟨its',_,ZI⟩:=k2.get I1 YM;let ll:l<⇑s1:=by let⟨o,e,_⟩:=(k1.kd X.prog X.w).cl pl;exact WE e
     let ll':l'<⇑s1:=by let⟨o,e,_⟩:=(k2.kd X.prog X.w).cl ZI;exact WE e
     refine ZT.DK k1.kd k2.kd pl ZI λh' a1 a2 a3 a4 a5 hk=>?_;refine wpAny_pyIter_zip a1 ?_;let I2:Inv X XD σ H1 {s1 with heap:=h'}:=I1.kept (t':=s1.toks) hk;let ff:∀b,⇑s1<=b->mG X XD H1 b:=λb hb=>I1.ka hb (I1.XJ.fresh hb);refine⟨⇑s1+4,[⇑s1+4,⇑s1+2,⇑s1+3,⇑s1,⇑s1+1],_,_,H1,rfl,I2,FW (k1:=k1) (k2:=k2) l l' _ _ _ _ _ (QZ _),⟨a1,a2,⟨_,_,a3⟩,a4,a5,Ur (Uq ll (Ux _ 3)),Ur (Uq ll' (Ux _ 3))⟩,λb hb=>?_,q⟩;simp only[R9,SR,or_false] at hb;obtain rfl | rfl | rfl | rfl | rfl:=hb
     ·exact ff _ (Ux _ 4)
     ·exact ff _ (Ux _ 2)
     ·exact ff _ (Ux _ 3)
     ·exact ff _ (Uk _)
     ·exact ff _ (Ux _ 1)
theorem uC {a b:Expr}{p:Pos}{k:Nat}{q1:Rep γ}{q2:Rep δ}{x1:γ}{x2:δ}{r:Rep α}{r':Rep β}{xs:`u}{ys:List β}(hm:X.mg "zip"=none)(ha:EV X a Z q1 x1 Γ1)(hb:EV X b Γ1 q2 x2 Γ2)(f1:∀{R:Hp}{v:V},q1.R X.K R v x1->vS k1 X.K R v r xs)(f2:∀{R:Hp}{v:V},q2.R X.K R v x2->vS k2 X.K R v r' ys)(hz:∀{R:Hp}{v v':V},q1.R X.K R v x1->q2.R X.K R v' x2->xs.length<=UZ∨ys.length<=UZ)(hs:v5 X a b:=by rfl)(Yh:fU X b:=by rfl)(hg:Gl X "zip":=by rfl):
 IV X (.Tuple es k tp) (.Call (.Name "zip" p) [a,b] [] pos) Z (cz r r') (xs.zip ys) Γ2:=by
 refine⟨_,Ll (k1:=k1) (k2:=k2) hg hm (aI aO (aI aO bq Yh) (by first | rw[dh,hs,Yh] | rw[hs,Yh])) hs Yh,λσ H0 R0 H R E Rq q=>ha σ H0 R0 H R E _ λv H1 R1 E1 s1 e1=>hb σ H0 R0 H1 R1 E1 _ λv' H2 R2 E2 s2 e2=>?_⟩;let e1:=q1.mono (K:=X.K) s2 e1;let z:(xs.zip ys).length<=UZ:=by
  rw[Tv];exact(hz e1 e2).elim (Um (Uz _ _)) (Um (UD _ _))
 let⟨a,vs,rfl,sa,la,pa⟩:=f1 e1;let⟨b,Yg,rfl,sb,lb,pb⟩:=f2 e2;refine⟨a,b,vs,Yg,rfl,sa _ _ `S E2.sub,sb _ _ `S E2.sub,q _ H2 R2 E2 `E z λH' R' sR sH i=>⟨λy hy=>?_,λhi=>?_⟩⟩
 ·let hq:=sa _ _ sR sH;let YM:=sb _ _ sR sH;let⟨e1,e2⟩:=lB hy;let⟨v,hv,hr⟩:=pa _ _ e1;let⟨v',ZZ,YK⟩:=pb _ _ e2;refine⟨⟨vs,Yg,v,v',hq,YM,hv,ZZ⟩,λv2 H3 hyl=>?_⟩;let⟨p,x,x',hpn,rfl,rfl,hy,hy'⟩:=hyl;let t1:=hy _ hq;let t2:=hy' _ YM;rw[hv] at t1;rw[ZZ] at t2;cases t1
  cases t2
  let s3:av R' (upd R' p (.tup [v,v'])):=av.fresh (sH.free hpn) _;exact⟨upd R' p (.tup [v,v']),Ext.fresh sH hpn _,p,_,_,rfl,aD,r.mono s3 (r.mono sR hr),r'.mono s3 (r'.mono sR YK)⟩
 ·refine⟨vs,Yg,sa _ _ sR sH,sb _ _ sR sH,?_⟩;rw[Tv] at hi;cbv
theorem Ca {a b:Expr}{p:Pos}{k:Nat}{r:Rep α}{r':Rep β}{xs:`u}{ys:List β}(hm:X.mg "zip"=none)(ha:EV X a Z (ae r) xs Γ1)(hb:EV X b Γ1 (ae r') ys Γ2)(hs:v5 X a b:=by rfl)(Yh:fU X b:=by rfl)(hg:Gl X "zip":=by rfl):
 IV X (.Tuple es k tp) (.Call (.Name "zip" p) [a,b] [] pos) Z (cz r r') (xs.zip ys) Γ2:=uC (k1:=Gq) (k2:=Gq) hm ha hb Ay Ay (λ⟨_,_,_,_,_,z⟩ _=>.inl z) hs Yh hg
theorem E8 {a b:Expr}{p:Pos}{k:Nat}{ys:List PV}(hm:X.mg "zip"=none)(ha:EV X a Z au (.tup xs) Γ1)(hb:EV X b Γ1 au (.tup ys) Γ2)(hz:xs.length<=UZ)(hs:v5 X a b:=by rfl)(Yh:fU X b:=by rfl)(hg:Gl X "zip":=by rfl):
 IV X (.Tuple es k tp) (.Call (.Name "zip" p) [a,b] [] pos) Z (cz au au) (xs.zip ys) Γ2:=uC (k1:=BF) (k2:=BF) hm ha hb G4 G4 (λ_ _=>.inl hz) hs Yh hg
theorem Im {a b:Expr}{p:Pos}{k:Nat}{ys:Rm}{r:Rep α}{xs:`u}(hm:X.mg "zip"=none)(ha:EV X a Z xq ys Γ1)(hb:EV X b Γ1 (ae r) xs Γ2)(hs:v5 X a b:=by rfl)(Yh:fU X b:=by rfl)(hg:Gl X "zip":=by rfl):
 IV X (.Tuple es k tp) (.Call (.Name "zip" p) [a,b] [] pos) Z (cz aq r) (ys.zip xs) Γ2:=uC (k1:=BF) (k2:=Gq) hm ha hb Nq Ay (λ_ ⟨_,_,_,_,_,z⟩=>.inr z) hs Yh hg
end
end Fc
namespace HT
open PySem PySem.Spec PyProof.Rows
section
variable {prog:U4}{w:World}{A:U6}{E:`s}{s:U0}
theorem pZ {t sl:Addr}{items:Array Value}{vl vu:`aM}{lo hi:Option Int}{Q:`s}(ht:IsTup s.heap t items)(hs:s.heap.IsSliceOf sl vl vu .none)(pl:VJ vl lo)(pu:VJ vu hi)(hw:XX items.size 0 lo=0/\XX items.size items.size hi=items.size)(h:Q (.ref t) s):wpAny `t A (VD (.ref t) (.ref sl)) Q E s:=by
 let⟨os,hos,hcs,hds⟩:=id hs;let hTs:s.TypeIs (.ref sl) "slice":=⟨os,hos,hcs⟩;unfold VD
 try with_reducible refine Vg ?_
 first | refine U1 (U3 ?_) | skip
 refine U1 (wpAny_sequenceKey ht.typeIs `c ?_);refine U1 (Vi (name:=WX "__getitem__") ht.typeIs UR
  (Vv UR ht.typeIs entry_tuple_getitem ?_ (args_tuple_getitem _ _)))
 show wpAny _ _ (Builtin.Tuple.tupleItemsOf (.ref t) >>=_) _ _ s;refine U1 (tupleItemsOf_ ht ?_);refine U1 (wpAny_typeOf hTs ?_);rw[Xv `c];refine U1 (lI hs pl pu ?_);let hyes:`P=true:=by
  rw[hw.1,hw.2];simp
 show wpAny _ _ (if(((XX items.size 0 lo:Nat):Int)==0&&(1:Int)==1&&`aE==items.size)=true then _ else _) _ _ s;rw[Xv hyes];refine U1 ?_;unfold Builtin.Tuple.tupleIsExact;refine U1 (wpAny_typeOf ht.typeIs (U3 ?_));rw[Xv `c];exact U1 (VM (U3 ⟨_,rfl,U3 h⟩))
end
end HT
namespace Fc
open PySem PySem.Spec PySem.W PySem.Calls L2
open PyProof.Rows hiding St
variable {X:Cx}{Z Γ1 Γ2 Γ3:Ga}{α β γ δ:Type}{N:Ga->Prop}{T:RT}{pos p2:Pos}{xs:List PV}{b:Expr}{x y:Str}{H:Hp}
section
variable {a:Expr}
def QX (K:W7):V->Option Int->Option Int->Hp->VK->Prop:=λx lo hi H Q=>∃a xs,x= .ref a/\d7 K H a xs/\
 (HT.XX xs.length 0 lo=0/\HT.XX xs.length xs.length hi=xs.length)/\Q x H
theorem Kz:BQ X (QX X.K):=by
 intro XD s σ H x v vl vu lo hi sl Q I rx hs pl pu h;let⟨a,xs,rfl,hx,hw,q⟩:=h;cases rx
 let⟨XF,r,ht,hz⟩:=I.tuple hx;let hlen:XF.toArray.size=xs.length:=by rw[Si];exact r.length.symm
 refine⟨"tuple",_,UR.lookup,ht.typeIs,?_⟩;exact HT.pZ ht hs pl pu (by rw[hlen];exact hw) ⟨.ref a,H,I,rfl,q⟩
theorem Mt {lo hi:Option Expr}{l h:Option Int}(ha:EV X a Z au (.tup xs) Z)(hl:OV X lo Z l)(hh:OV X hi Z h)(hw:HT.XX xs.length 0 l=0/\HT.XX xs.length xs.length h=xs.length):EV X (.Subscript a (.Slice lo hi none p2) pos) Z au (.tup xs) Z:=by
 intro σ H0 R0 H R E Q q;let⟨tl,pl,kl⟩:=hl;let⟨th,ph,kh⟩:=hh;refine eS (lT Kz aO pl ph) `G;cases au.mono (K:=X.K) (s2.trans s3) e1 with
 | @tup a' Yg _ hp pp=>
   exact⟨_,_,rfl,d7.of (E3.sub _ _ hp),by rw[pp.pair.length];exact hw,q _ _ _ E3 (s1.trans (s2.trans s3)) (.tup hp pp)⟩
theorem Kj {lo hi:Option Expr}{l h:Option Int}(ha:EV X a Z au (.tup xs) Z)(hl:OV X lo Z l)(hh:OV X hi Z h):EV X (.Subscript a (.Slice lo hi none p2) pos) Z au (.tup (cut xs l h)) Z:=by
 by_cases hw:HT.XX xs.length 0 l=0/\HT.XX xs.length xs.length h=xs.length
 ·let e:cut xs l h=xs:=by
   unfold cut;rw[hw.1,hw.2];simp
  rw[e];exact Mt ha hl hh hw
 ·exact JE ha hl hh hw
theorem t7 (ha:EV X a Z aq x Γ1)(hb:EV X b Γ1 aq y Γ2)(hz:x.length+y.length<=UZ):EV X (.BinOp a .Add b pos) Z aq (x++y) Γ2:=kC AK ha hb λR v u H Q e1 e2 q=>⟨x,y,e1,e2,hz,q _ rfl⟩
theorem HP {p:Pos}(hm:X.mg "len"=none)(ha:EV X a Z aq x Γ1)(hz:x.length<=UZ)(hs:fU X a:=by rfl)(hg:Gl X "len":=by rfl):EV X (.Call (.Name "len" p) [a] [] pos) Z ag (x.length:Int) Γ1:=by
 intro σ H0 R0 H R E Q q;refine eS (fg xf hg hm Vo (aI aO bq hs) `c `c hs) `A;cases e1
 exact⟨x,rfl,hz,q _ H1 R1 E1 s1 rfl⟩
theorem Jo {p:Addr}{a b:HO}:upd (upd H p a) p b=upd H p b:=by
 funext c;by_cases h:c=p
 ·subst h;rw[aD,aD]
 ·rw[aG h,aG h,aG h]
end
variable {st:Stmt}
def F7 (i j:Int):Prop:=0<j/\j<=1000000000000000000
theorem Fx:fk X (Vu .FloorDiv) (rI F7 λi j=>.int (i/j)):=zh λi j _ _ _ _ _ hc q=>by
 let h1:(0:Int)<j:=hc.1;let h2:j<=1000000000000000000:=hc.2;exact floordiv_int `a (by rw[Int.fdiv_eq_ediv_of_nonneg i `a];exact q) (.inl (PyProof.noPylong_of_log2 (Uq ((Nat.log2_lt `a).mpr (show j.natAbs<2 ^ 60 by cbv)) `c)))
theorem bA {N1:Ga->Prop}{rest:List Stmt}(h1:W1 X st Z N1 T)(h2:∀Γ',N1 Γ'->WS X rest Γ' N T):WS X (st::rest) Z N T:=ai λσ H0 R0 H R E D dn dr=>h1 σ H0 R0 H R E D (λσ' H' R' Γ' E' s' n=>dn σ' H' R' Γ' E' s' (h2 Γ' n)) dr
theorem qK {a:Expr}{x y:Int}(ha:EV X a Z ag x Γ1)(hb:EV X b Γ1 ag y Γ2)(h:F7 x y):EV X (.BinOp a .FloorDiv b pos) Z ag (x/y) Γ2:=kC Fx ha hb λR v u H Q e1 e2 q=>⟨x,y,e1,e2,h,q _ rfl⟩
theorem GV {x y:Int}(h0:0<=x)(h1:x<2 ^ 63):Wa x y:=.of_left (VT `a `a)
def mz (x:Str)(i:Nat):Str:=⟨#[x.cps.getD i 0]⟩
theorem B8 {a:Expr}{i:Int}(ha:EV X a Z aq x Γ1)(hb:EV X b Γ1 ag i Γ2)(h0:0<=i)(h1:i<(x.length:Int))(hz:x.length<=UZ)(hs:dN b:=by exact λ_ _=>rfl):EV X (.Subscript a b pos) Z aq (mz x i.toNat) Γ2:=by
 intro σ H0 R0 H R E Q q;refine eS (ir Lv aO aO hs) `l;cases e1
 cases e2
 refine⟨x,i,x.cps.getD i.toNat 0,rfl,rfl,hz,?_,q _ H2 R2 E2 `E rfl⟩;let hl:x.cps.toList.length=x.length:=by simp[Str.length]
 rw[gm h0 `a,RQ `a];have:i.toNat<x.cps.size:=by have:x.length=x.cps.size:=rfl;cbv
 simp[Array.getD,this]
variable {es:Rr}{p1:Pos}{σ:St}{H0 R0 R:Hp}{r:Rep α}
theorem mJ {K:W7}{R:Hp}:∀{vs:`R}{xs:Rm},PySem.Paired (aq.R K R) vs xs->vs=xs.map V.str
 | _,_,.nil=>rfl
 | _,_,.cons h t=>by rw[Sx,← mJ t];exact congrArg (· ::_) h
theorem x8 {xs:Rm}:iY X .In aq (ae aq) x xs (decide (x∈xs)):=⟨_,u7,λR H v u Q s e1 e2 q=>by
 cases e1
 let⟨a,vs,rfl,hq,p,_⟩:=e2;let e:=mJ p;subst e;exact⟨a,_,rfl,.inl (bt.of (s _ _ hq)),rfl,lZ xs,by rw[Xu Rv,nV];exact q⟩⟩
theorem Bd {S:ma α}{k:Nat}{p:Pos}{ps:List Pk}{xs:`u}{TM:List α->RT}{Q:VK}(i:Nat)(C:`aL)(hr:bG k X.A)(ha:HA X es Z ps Γ1)(hΓ:`aC)(hΓ1:Γ1[i]?∣.mu r xs)(hS:S X.K xs ps TM)(E:`aF)(q:∀a H1 R1 v H' R' xs',(σ[i]?).join∣.ref a->ar X.K σ H0 R0 H1 R1 Γ1->ar X.K σ H0 R0 H' R' (Γ1.set i (.mu r xs'))->av R R'->TM xs' (del H1 a) v H' R'->Q v H')(hg:Gl X x)(Yd:(x==("__debug__":Str))=false)(he:U5 (.Name y p1::es) X.env=(false,eval (.Name y p1) X.env)::U5 es X.env)(X1:fo X pos es)(hN:At X i y):fX X (.Call `ao (.Name y p1::es) [] pos) σ H Q:=by
 let⟨f,fd,pn,F,hm,hk,hb⟩:=C.ex;let⟨a,vs,ea,_,_,_⟩:=E.ent i _ hΓ;refine eS (iU F hr hg hm hk hb .nil kH (aI (aV hN) nj he) Yd he X1) ⟨.ref a,at_of ea,ha σ H0 R0 H R E _ λus H1 R1 E1 s1 p1=>?_⟩;let⟨a',ws,Yf,hp,hR,pp⟩:=E1.ent i _ hΓ1;rw[ea] at Yf;cases Yf
 let h0:H0 a=none:=E1.new i _ a hΓ1 rfl ea;refine⟨R1,a,ws,xs,us,ps,TM,by rw[Sl],E1.sub,hR,hp,pp,p1,hS,λv H' R' YH xs' xx h1 h2 pq t=>q a H1 R1 v H' R' xs' ea E1 ?_ (s1.trans xx.r) t⟩;let apart:∀(j:Nat)(e:Ent),j≠i->Γ1[j]?∣e->a∉e.fp (σ[j]?).join:=λj e hj qj w=>hj (E1.ds j i e _ a qj hΓ1 w (ck.mpr ea));let E2:ar X.K σ H0 R0 H1 R1 (Γ1.set i .no):=E1.tell hΓ1 trivial λb w=>by cases w
 let E3:=E2.F5 (a:=a) (λj e qj w=>by
  obtain⟨rfl,rfl,_⟩ | ⟨hj,q1⟩:=set_at qj
  ·cases w
  ·exact apart j e hj q1 w) h0 xx
 let hl:i<Γ1.length:=(RP.mp hΓ1).1;let E4:=E3.kB (i:=i) (e0:=.no) (en:=.mu r xs') (R8 hl) (by rw[ea];exact⟨a,YH,rfl,h1,h2,pq⟩) λb w=>by
  let eb:b=a:=by rw[ck.mp w] at ea;cases ea;rfl
  subst eb;exact⟨h0,λj e hj qj=>apart j e hj (by rwa [Ss (UJ hj)] at qj)⟩
 rw[Tb] at E4;exact E4
variable {a:Addr}{as:Ro}{xss:List (List α)}{K:W7}{j:Nat}{H':Hp}{ws:`R}{e:Expr}{ap cp:Pos}
section
variable {b:Addr}{xs:`u}
def gK (K:W7)(r:Rep α)(H R:Hp)(as:Ro)(xss:List (List α)):Prop:=as.length=xss.length/\∀(i:Nat)(b:Addr)(xs:`u),as[i]?∣b->xss[i]?∣xs->∃ws,H b∣.lst ws/\PySem.Paired (r.R K R) ws xs
theorem gK.one (h:gK K r H R as xss)(hb:b∈as):∃ws,H b∣.lst ws:=by
 let⟨i,hi,rfl⟩:=TQ.mp hb;let⟨ws,h1,_⟩:=h.2 i _ _ (RQ hi) (RQ (by rw[← h.1];exact hi));exact⟨ws,h1⟩
theorem gK.loc {R':Hp}(h:gK K r H R as xss)(e:∀a∈as,H' a=H a)(s:av R R'):gK K r H' R' as xss:=
 ⟨h.1,λi b xs h1 h2=>by
   let⟨ws,q1,q2⟩:=h.2 i b xs h1 h2;exact⟨ws,(e b (R7 h1)).trans q1,Paired.map (λ_ _=>r.mono s) q2⟩⟩
theorem gK.put (h:gK K r H R as xss)(nd:as.Nodup)(hb:as[j]?∣b)(hp:PySem.Paired (r.R K R) ws xs):gK K r (upd H b (.lst ws)) R as (xss.set j xs):=by
 refine⟨by rw[SF];exact h.1,λi c q h1 h2=>?_⟩;by_cases hij:i=j
 ·subst hij;rw[hb] at h1;cases h1
  let hl:i<xss.length:=by rw[← h.1];exact(RP.mp hb).1
  rw[R8 hl] at h2;cases h2
  exact⟨ws,aD,hp⟩
 ·rw[Ss (UJ hij)] at h2;have:c≠b:=λz=>by
   subst z;let l1:=(RP.mp h1);let l2:=(RP.mp hb);exact hij ((T1 (h₀:=l1.1) (h₁:=l2.1) nd).mp (l1.2.trans l2.2.symm))
  rw[aG this];exact h.2 i c q h1 h2
theorem gK.snoc (h:gK K r H R as xss)(hb:H b∣.lst ws)(hp:PySem.Paired (r.R K R) ws xs):gK K r H R (as++[b]) (xss++[xs]):=by
 refine⟨by rw[RY,RY,h.1];rfl,λi c q h1 h2=>?_⟩;obtain hl | hl:=Ut i as.length
 ·rw[So hl] at h1;rw[So (by rw[← h.1];exact hl)] at h2;exact h.2 i c q h1 h2
 ·rw[Su hl] at h1;rw[Su (by rw[← h.1];exact hl)] at h2;let e:i-as.length=0:=by
   have:=(RP.mp h1).1;simp at this;cbv
  rw[e] at h1;rw[← h.1,e] at h2;simp at h1 h2;rw[← h1,← h2];exact⟨ws,hb,hp⟩
noncomputable def fN (r:Rep α)(a:Addr)(as:Ro)(xss:List (List α)):oq where
 fp:=a::as
 R:=λK H R v=>v= .ref a/\H a∣(.lst (as.map .ref))/\gK K r H R as xss/\(a::as).Nodup
 loc:=λhH hR ⟨e,h1,h2,h3⟩=>⟨e,(hH a RZ).trans h1,h2.loc (λb hb=>hH b (RX _ hb)) hR,h3⟩
 has:=λ⟨e,h1,h2,h3⟩ b hb=>by
  obtain rfl | hb:=R9.mp hb
  ·rw[h1];exact UL _
  ·let⟨r,hr⟩:=h2.one hb;rw[hr];exact UL _
theorem Dy {k:Int}(hk:fO as.length k∣j)(hb:as[j]?∣b):bP (as.map V.ref) k∣.ref b:=by
 unfold bP;rw[RS,hk];show(as.map V.ref)[j]?=_;rw[R6,hb];rfl
theorem Du (i:Nat){b:Expr}{k:Int}{Q:VK}(hb:EV X b Z ag k Z)(hΓ:`aD)(hk:fO xss.length k∣j)(E:`aF)(q:∀c H' R',ar X.K σ H0 R0 H' R' Z->av R R'->as[j]?∣c->Q (.ref c) H')(hN:At X i x)(hsx:dN b):fX X `ah σ H Q:=by
 let⟨⟨v,ea,rfl,ha,hr,_⟩,hR⟩:=E.ent i _ hΓ;refine eS (ir gU (aV hN) aO hsx) ⟨.ref a,at_of ea,hb σ H0 R0 H R E _ λu H2 R2 E2 s2 e2=>?_⟩;let⟨⟨v,Z4,e3,ha2,hr2,nd⟩,Zu⟩:=E2.ent i _ hΓ;let hl:j<as.length:=by rw[hr2.1];exact(ua hk).2.1
 exact⟨a,_,k,.ref as[j],rfl,e2,bt.of ha2,Dy (by rw[hr2.1];exact hk) (RQ hl),q _ H2 R2 E2 s2 (RQ hl)⟩
theorem A7 (i:Nat){b:Expr}{k:Int}{y:α}(hb:EV X b Z ag k Z)(he:EV X e Z r y Z)(hΓ:`aD)(hk:fO xss.length k∣j)(hx:xss[j]?∣xs)(hz:xs.length<UZ)(h:N (Z.set i (.ob (fN r a as (xss.set j (xs++[y]))))))(hN:`o)(hsx:dN b:=by exact λ_ _=>rfl)(Yc:U7 (.Call (.Attribute `ah "append" ap) [e] [] cp) none pos.line X.env=pure false:=by rfl)(XN:eX X `ah "append":=by rfl)(X4:l6 X cp [e]:=by rfl)(XM:`Y=true:=by rfl)(hs:dh X e []:=by rfl):W1 X (.Expr (.Call (.Attribute `ah "append" ap) [e] [] cp) pos) Z N T:=λσ H0 R0 H R E D dn dr=>by
 refine sS (dO (gT Wt Wu Wv gQ aO (aI aO bq hs) XN X4 XM hs rfl) Yc) ?_;refine Du i hb hΓ hk E (λc H1 R1 E1 s1 hc=>?_) hN hsx;let⟨⟨v,ea1,rfl,ha1,hr1,nd1⟩,hR1⟩:=E1.ent i _ hΓ;let⟨ws1,q1,q2⟩:=hr1.2 j c xs hc hx;refine⟨.inl ⟨rfl,_,bt.of q1⟩,he σ H0 R0 H1 R1 E1 _ λu H2 R2 E2 s2 e2=>?_⟩;let⟨⟨v,Z4,rfl,ha2,hr2,nd2⟩,Zu⟩:=E2.ent i _ hΓ;let⟨ws2,q1,q2⟩:=hr2.2 j c xs hc hx;let⟨n1,n2⟩:=Sn.mp nd2;let cm:c∈as:=R7 hc;refine⟨c,ws2,u,rfl,rfl,q1,by rw[q2.length];exact hz,?_⟩;refine dn σ _ R2 _ (E2.lF (en:=.ob (fN r a as (xss.set j (xs++[y])))) hΓ (RX _ cm) ⟨⟨.ref a,Z4,rfl,?_,hr2.put n2 hc (dQ q2 (.cons e2 .nil)),nd2⟩,Zu⟩ λc w=>.inl w) `E h;rw[aG (show a≠c from λz=>n1 (z▸cm))];exact ha2
theorem AA (i:Nat){ys:`u}(he:aZ X e Z r ys Γ1)(hΓ:`aD)(hΓ1:Γ1[i]?∣(.ob (fN r a as xss)))(hz:xss.length<UZ)(h:∀b,N (Γ1.set i (.ob (fN r a (as++[b]) (xss++[ys])))))(hN:`o)(Yc:U7 `y none pos.line X.env=pure false:=by rfl)(XN:eX X `h "append":=by rfl)(X4:l6 X cp [e]:=by rfl)(XM:`Y=true:=by rfl)(hs:dh X e []:=by rfl):W1 X (.Expr `y pos) Z N T:=λσ H0 R0 H R E D dn dr=>by
 let⟨⟨v,ea,rfl,ha,hr,_⟩,hR⟩:=E.ent i _ hΓ;refine sS (dO `ad Yc) ?_;refine⟨.ref a,at_of ea,.inl ⟨rfl,_,bt.of ha⟩,he σ H0 R0 H R E _ λb vs H2 R2 E2 s2 hb hRb h0b offb pp _=>?_⟩;let⟨⟨v,Z4,rfl,ha2,hr2,nd2⟩,Zu⟩:=E2.ent i _ hΓ1;let⟨n1,n2⟩:=Sn.mp nd2;let hl:as.length=xss.length:=hr2.1;let bne:b∉a::as:=λz=>offb i _ hΓ1 z;let bna:b≠a:=λz=>bne (z▸RZ);refine⟨a,_,.ref b,rfl,rfl,ha2,by rw[RS,hl];exact hz,?_⟩;refine dn σ _ R2 _ (E2.lF (en:=.ob (fN r a (as++[b]) (xss++[ys]))) hΓ1 RZ ⟨⟨.ref a,Z4,rfl,?_,?_,?_⟩,λc hc=>?_⟩ λc w=>?_) s2 (h b)
 ·rw[aD,Sf];rfl
 ·refine(hr2.snoc hb pp).loc (λc hc=>aG λz=>?_) `S;rw[z] at hc;obtain q | q:=Se.mp hc
  ·exact n1 q
  ·exact bna (RU.mp q).symm
 ·refine Sn.mpr ⟨λz=>?_,iN n2 λz=>bne (RX _ z)⟩;obtain q | q:=Se.mp z
  ·exact n1 q
  ·exact bna (RU.mp q).symm
 ·obtain rfl | hc:=R9.mp hc
  ·exact Zu _ RZ
  ·obtain q | q:=Se.mp hc
   ·exact Zu _ (RX _ q)
   ·rw[RU.mp q];exact hRb
 ·obtain rfl | w:=R9.mp w
  ·exact .inl RZ
  ·obtain q | q:=Se.mp w
   ·exact .inl (RX _ q)
   ·rw[RU.mp q];exact .inr ⟨h0b,offb⟩
noncomputable def OZ (K:W7)(r:Rep α)(P:List (List α)->Prop):RT:=λH0 v H' R'=>∃a as xss,v= .ref a/\(∀b∈a::as,H0 b=none/\R' b=none)/\H' a∣(.lst (as.map .ref))/\gK K r H' R' as xss/\(a::as).Nodup/\P xss
theorem Mj (i:Nat){P:List (List α)->Prop}(hΓ:`aD)(h:P xss)(hN:`o):W1 X (.Return (some `h) pos) Z N (OZ X.K r P):=λσ H0 R0 H R E D dn dr=>by
 let⟨⟨v,ea,rfl,ha,hr,nd⟩,hR⟩:=E.ent i _ hΓ;exact sS (jq (aV hN)) ⟨.ref a,at_of ea,dr _ H R E.ext ⟨a,as,xss,rfl,λb hb=>⟨E.nw i _ b hΓ hb,hR b hb⟩,ha,hr,nd,h⟩⟩
noncomputable def my (R H:Hp)(l:Ro):Hp:=λb=>if b∈l then H b else R b
theorem HM (i:Nat){P:List (List α)->Prop}(hΓ:`aD)(hz:xss.length<=UZ)(ZY:∀xs∈xss,xs.length<=UZ)(h:P xss)(hN:`o):W1 X (.Return (some `h) pos) Z N (C5 X.K (ae r) P):=λσ H0 R0 H R E D dn dr=>by
 let⟨⟨v,ea,rfl,ha,hr,nd⟩,hR⟩:=E.ent i _ hΓ;let⟨n1,n2⟩:=Sn.mp nd;let sR:av R (my R H as):=λb o q=>by
  unfold my;split
  ·rename_i hb;rw[hR b (RX _ hb)] at q;cases q
  ·exact q
 let sH:av (my R H as) H:=λb o q=>by
  unfold my at q;split at q
  ·exact q
  ·exact E.sub b o q
 let pr:PySem.Paired ((ae r).R X.K (my R H as)) (as.map .ref) xss:=by
  let key:∀(bs:Ro)(Yl:List (List α)),(∀b∈bs,b∈as)->gK X.K r H R bs Yl->(∀xs∈Yl,xs.length<=UZ)->PySem.Paired ((ae r).R X.K (my R H as)) (bs.map .ref) Yl:=by
   intro bs
   induction bs with
   | nil=>intro Yl _ h _;cases Yl with
     | nil=>exact .nil
     | cons _ _=>exact Xt h.1 `d
   | cons b bs ih=>intro Yl hm h hz;cases Yl with
     | nil=>exact Xt h.1 `d
     | cons ys Yl=>
       let⟨ws,q1,q2⟩:=h.2 0 b ys rfl rfl;refine .cons ⟨b,ws,rfl,?_,Paired.map (λ_ _=>r.mono sR) q2,hz ys RZ⟩ (ih Yl (λc hc=>hm c (RX _ hc)) ⟨by simpa using h.1,λi c xs h1 h2=>h.2 (i+1) c xs (~~~h1) (~~~h2)⟩ λxs hx=>hz xs (RX _ hx));unfold my;rw[Xv (hm b RZ)];exact q1
  exact key as xss (λ_ h=>h) hr ZY
 refine sS (jq (aV hN)) ⟨.ref a,at_of ea,dr _ H (my R H as) ⟨E.ext.h,E.ext.r.trans sR,sH,λb hb=>?_⟩ ⟨a,_,xss,rfl,E.nw i _ a hΓ RZ,ha,?_,pr,hz,h⟩⟩
 ·unfold my;rw[Xu λz=>hb (E.nw i _ b hΓ (RX _ z))];exact E.ext.old b hb
 ·unfold my;rw[Xu n1];exact hR a RZ
end
variable {i:Nat}{Yx:List Stmt}
theorem tW {a:Expr}{Y6:Pos}{m n:Int}(hml:X.mg "list"=none)(hmr:X.mg "range"=none)(ha:HA X [a,b] Z [⟨ag,m⟩,⟨ag,n⟩] Γ1)(hm: -1000000<=m/\m<=1000000)(hn: -1000000<=n/\n<=1000000)(hs:U5 [a,b] X.env=(false,eval a X.env)::U5 [b] X.env:=by rfl)(X1:fo X Y6 [b]:=by rfl)(Yh:U5 [.Call (.Name "range" p2) [a,b] [] Y6] X.env=[(false,eval (.Call (.Name "range" p2) [a,b] [] Y6) X.env)]:=by rfl)(hc:X.calm=true:=by rfl)(hg:Gl X "list":=by rfl)(hgr:Gl X "range":=by rfl):aZ X (.Call (.Name "list" p1) [.Call (.Name "range" p2) [a,b] [] Y6] [] pos) Z ag (ups m (n-m).toNat) Γ1:=by
 intro σ H0 R0 H R E Q q;refine eS (i7 (oy hc) hg hml UP (aI (i7 tR hgr hmr UX nj `c `c hs X1) bq Yh) `c `c Yh) (ha σ H0 R0 H R E _ λvs H1 R1 E1 s1 e1=>?_);let e:vs=[.int m,.int n]:=by
  cases e1 with
  | cons a1 t=>cases t with
    | cons a2 t=>cases t;cases a1;cases a2;rfl
 subst e;refine⟨m,n,rfl,λp hp=>⟨p,m,n,rfl,aD,hm.1,hm.2,hn.1,hn.2,λd hd=>?_⟩⟩;let E2:=E1.grow (Ext.d6 E1.sub hp (.ZW m n));exact q d _ _ R1 (E2.grow (Ext.d6 E2.sub hd _)) s1 aD (E2.sub.free hd) (E2.ext.h.free hd) (E2.off hd) (paired_ints _) (by rw[bp];exact Um (show(n-m).toNat<=2000000 by cbv) `c)
theorem ar.Rh {B:oq}(E:`C)(hΓ:Z[i]?∣.ob B):ar K σ H0 R0 H (λb=>if b∈B.fp then H b else R b) (Z.set i .no)/\av R (λb=>if b∈B.fp then H b else R b):=by
 let h0:∀b∈B.fp,H0 b=none:=λb hb=>E.nw i _ b hΓ hb;let hR:∀b∈B.fp,R b=none:=(E.ent i _ hΓ).2;let sR:av R (λb=>if b∈B.fp then H b else R b):=λb o q=>by
  show(if b∈B.fp then H b else R b)∣o;rw[Xu λw=>by rw[hR b w] at q;cases q];exact q
 refine⟨⟨⟨E.ext.h,E.ext.r.trans sR,λb o q=>?_,λb hb=>?_⟩,λj e q=>?_,λj e b q w=>?_,λj k e e' b q q' w w'=>?_,by rw[SF];exact E.len⟩,sR⟩
 ·let q:(if b∈B.fp then H b else R b)∣o:=q;by_cases hb:b∈B.fp
  ·rw[Xv hb] at q;exact q
  ·rw[Xu hb] at q;exact E.sub b o q
 ·show(if b∈B.fp then H b else R b)=_;rw[Xu λw=>hb (h0 b w)];exact E.ext.old b hb
 ·obtain⟨rfl,rfl,_⟩ | ⟨hj,q1⟩:=set_at q
  ·trivial
  ·let h1:=E.ent j e q1;refine h1.loc (λb hb=>rfl) sR λb hb=>?_;show(if b∈B.fp then H b else R b)=none;rw[Xu (show¬b∈B.fp from λw=>hj (E.ds j i e _ b q1 hΓ hb w))];exact(Ent.fG h1 hb).2
 ·obtain⟨rfl,rfl,_⟩ | ⟨hj,q1⟩:=set_at q
  ·cases w
  ·exact E.nw j e b q1 w
 ·obtain⟨rfl,rfl,_⟩ | ⟨hj,q1⟩:=set_at q
  ·cases w
  ·obtain⟨rfl,rfl,_⟩ | ⟨hk,YR⟩:=set_at q'
   ·cases w'
   ·exact E.ds _ _ _ _ b q1 YR w w'
theorem gK.pair {K:W7}{r:Rep α}{H R R':Hp}(sR:av R R'):∀{bs:Ro}{Yl:List (List α)},(∀b∈bs,R' b=H b)->gK K r H R bs Yl->(∀xs∈Yl,xs.length<=UZ)->PySem.Paired ((ae r).R K R') (bs.map .ref) Yl
 | [],[],_,_,_=>.nil
 | [],_::_,_,h,_=>Xt h.1 `d
 | _::_,[],_,h,_=>Xt h.1 `d
 | b::bs,ys::Yl,hm,h,hz=>by
   let⟨ws,q1,q2⟩:=h.2 0 b ys rfl rfl;exact .cons ⟨b,ws,rfl,(hm b RZ).trans q1,Paired.map (λ_ _=>r.mono sR) q2,hz ys RZ⟩ (gK.pair sR (λc hc=>hm c (RX _ hc)) ⟨by simpa using h.1,λi c xs h1 h2=>h.2 (i+1) c xs (~~~h1) (~~~h2)⟩ λxs hx=>hz xs (RX _ hx))
theorem WS.nL (i:Nat)(hΓ:`aD)(hz:xss.length<=UZ)(ZY:∀xs∈xss,xs.length<=UZ)(h:WS X Yx (Z.set i (.im (ae (ae r)) xss)) N T):WS X Yx Z N T:=λσ H0 R0 H R E D dn dr=>by
 let⟨⟨v,ea,rfl,ha,hr,nd⟩,hR⟩:=E.ent i _ hΓ;let⟨E1,sR⟩:=E.Rh hΓ;let hl:i<Z.length:=(RP.mp hΓ).1;let E2:=E1.tell (i:=i) (e0:=.no) (en:=.im (ae (ae r)) xss) (R8 hl) ⟨.ref a,ea,a,_,rfl,(Xv RZ).trans ha,gK.pair sR (λb hb=>Xv (RX _ hb)) hr ZY,hz⟩ λb w=>by cases w
 rw[Tb] at E2;exact h σ H0 R0 H _ E2 D (λσ2 H2 R2 Γ2 E3 s2=>dn σ2 H2 R2 Γ2 E3 (sR.trans s2)) dr
mutual
inductive cX (H:Hp):V->PV->Ro->Prop
 | str (x:Str):cX H (.str x) (.str x) []
 | int (n:Int):cX H (.int n) (.int n) []
 | lst {a:Addr} {vs:`R} {xs:List PV} {fp:Ro}:H a∣.lst vs->bz H vs xs fp->xs.length<=UZ->cX H (.ref a) (.lst xs) (a::fp)
inductive bz (H:Hp):List V->List PV->Ro->Prop
 | nil:bz H [] [] []
 | cons {v:V} {x:PV} {f:Ro} {vs:`R} {xs:List PV} {g:Ro}:cX H v x f->bz H vs xs g->bz H (v::vs) (x::xs) (f++g)
end
mutual
theorem cX.tJ {H:Hp}:∀{v:V}{x:PV}{fp:Ro},cX H v x fp->iV H v x
 | _,_,_,.str x=>.str x
 | _,_,_,.int n=>.int n
 | _,_,_,.lst h t z=>.lst h t.tJ z
theorem bz.tJ {H:Hp}:∀{vs:`R}{xs:List PV}{fp:Ro},bz H vs xs fp->eY H vs xs
 | _,_,_,.nil=>.nil
 | _,_,_,.cons h t=>.cons h.tJ t.tJ
end
mutual
theorem cX.loc {H H':Hp}:∀{v:V}{x:PV}{fp:Ro},cX H v x fp->(∀a∈fp,H' a=H a)->cX H' v x fp
 | _,_,_,.str x,_=>.str x
 | _,_,_,.int n,_=>.int n
 | _,_,_,.lst h t z,k=>.lst ((k _ RZ).trans h) (t.loc λa ha=>k a (RX _ ha)) z
theorem bz.loc {H H':Hp}:∀{vs:`R}{xs:List PV}{fp:Ro},bz H vs xs fp->(∀a∈fp,H' a=H a)->bz H' vs xs fp
 | _,_,_,.nil,_=>.nil
 | _,_,_,.cons h t,k=>.cons (h.loc λa ha=>k a (Sg _ ha)) (t.loc λa ha=>k a (Sa _ ha))
end
mutual
theorem cX.has {H:Hp}:∀{v:V}{x:PV}{fp:Ro},cX H v x fp->∀a∈fp,H a≠none
 | _,_,_,.str x,_,h=>by cases h
 | _,_,_,.int n,_,h=>by cases h
 | _,_,_,.lst q t z,a,h=>by
   obtain rfl | h:=R9.mp h
   ·rw[q];simp
   ·exact t.has a h
theorem bz.has {H:Hp}:∀{vs:`R}{xs:List PV}{fp:Ro},bz H vs xs fp->∀a∈fp,H a≠none
 | _,_,_,.nil,_,h=>by cases h
 | _,_,_,.cons q t,a,h=>(Se.mp h).elim (q.has a) (t.has a)
end
noncomputable def D5:List PV->Bool
 | .lst _:: .int _::_=>true
 | _=>false
mutual
noncomputable def noMix:PV->Bool
 | .lst xs=> !D5 xs&&iq xs
 | _=>true
noncomputable def iq:List PV->Bool
 | []=>true
 | x::xs=>noMix x&&iq xs
end
theorem CQ (h:noMix (.lst xs)=true):(∀a k r,xs≠ .lst a:: .int k::r)/\iq xs=true:=by
 rw[noMix,Rx] at h;refine⟨λa k r e=>?_,h.2⟩;subst e;exact Xt h.1 (by simp[D5])
mutual
theorem cX.node {H:Hp}{a s:Addr}{k:Int}{rest:`R}(ha:H a∣(.lst (.ref s:: .int k::rest))):∀{v:V}{x:PV}{fp:Ro},cX H v x fp->noMix x=true->a∉fp
 | _,_,_,.str x,_=>`d
 | _,_,_,.int n,_=>`d
 | _,_,_,.lst q t z,hx=>by
   let⟨h1,h2⟩:=CQ hx;intro h;obtain rfl | h:=R9.mp h
   ·rw[ha] at q;cases q
    cases t with
    | cons p1 t=>cases t with
      | cons p2 t=>
        cases p1
        cases p2
        exact h1 _ _ _ rfl
   ·exact bz.node ha t h2 h
theorem bz.node {H:Hp}{a s:Addr}{k:Int}{rest:`R}(ha:H a∣(.lst (.ref s:: .int k::rest))):∀{vs:`R}{xs:List PV}{fp:Ro},bz H vs xs fp->iq xs=true->a∉fp
 | _,_,_,.nil,_=>`d
 | _,_,_,.cons q t,hx=>by
   rw[iq,Rx] at hx;intro h;obtain h | h:=Se.mp h
   ·exact cX.node ha q hx.1 h
   ·exact bz.node ha t hx.2 h
end
variable {vs:`R}{v:V}
theorem bz.len {fp:Ro}(h:bz H vs xs fp):vs.length=xs.length:=h.tJ.pair.length
theorem bz.app:∀{vs us:`R}{xs ys:List PV}{f g:Ro},bz H vs xs f->bz H us ys g->bz H (vs++us) (xs++ys) (f++g)
 | _,_,_,_,_,_,.nil,t=>t
 | _,_,_,_,_,_,.cons h t,t'=>by
   rw[Te,Te,Sj];exact .cons h (t.app t')
noncomputable def kK:PV->Bool
 | .str _=>true
 | .int _=>true
 | _=>false
theorem mW {x:PV}(h:iV H v x)(hl:kK x=true):cX H' v x []:=by
 cases h with
 | str x=>exact .str x
 | int n=>exact .int n
 | _=>cases hl
theorem yS {H H':Hp}:∀{vs:`R}{xs:List PV},eY H vs xs->xs.all kK=true->bz H' vs xs []
 | _,_,.nil,_=>.nil
 | _,_,.cons h t,hl=>by
   rw[all_cons,Rx] at hl;exact .cons (f:=[]) (g:=[]) (mW h hl.1) (yS t hl.2)
def h8 (x:PV)(fp:Ro):oq where
 fp:=fp
 R:=λ_ H _ v=>cX H v x fp/\fp.Nodup
 loc:=λh _ ⟨t,n⟩=>⟨t.loc h,n⟩
 has:=λ⟨t,_⟩=>t.has
def Bh (P:PV->Prop):RT:=λH0 v H' R'=>∃x fp,cX H' v x fp/\fp.Nodup/\(∀a∈fp,H0 a=none/\R' a=none)/\P x
section
variable {x:PV}{y:PV}{z:PV}
def j5 (X:Cx)(e:Expr)(Z:Ga)(x:PV)(Γ':Ga):Prop:=
 ∀(σ:St)(H0 R0 H R:Hp),ar X.K σ H0 R0 H R Z->∀Q:VK,(∀v fp H' R',ar X.K σ H0 R0 H' R' Γ'->av R R'->cX H' v x fp->fp.Nodup->(∀a∈fp,R' a=none/\H0 a=none/\Off a σ Γ')->Q v H')->fX X e σ H Q
theorem j5.cast (h:j5 X e Z x Γ1)(e1:x=y):j5 X e Z y Γ1:=e1▸h
theorem aZ.w6 (h:aZ X e Z au xs Γ1)(hl:xs.all kK=true):j5 X e Z (.lst xs) Γ1:=λσ H0 R0 H R E Q q=>
 h σ H0 R0 H R E Q λa vs H' R' E' s' ha hR h0 off p z=>q _ [a] H' R' E' s' (.lst ha (yS (.of p) hl) z) (Sn.mpr ⟨`d,Tx⟩) λb hb=>by rw[RU.mp hb];exact⟨hR,h0,off⟩
theorem sE (i:Nat){x:Str}(he:j5 X e Z y Γ1)(h:∀fp,N (Γ1.set i (.ob (h8 y fp))))(hN:X.N.Nodup:=by first | assumption | decide)(hi:X.N[i]?∣x:=by rfl)(hx:`ai)(hs:U7 e (some `h) pos.line X.env=pure false:=by rfl)(hf:autoParam (fM X x) YI):W1 X (.Assign [.Name x p1] e pos) Z N T:=λσ H0 R0 H R E D dn dr=>
 sS (j8 hN hi hx aO hs hf) (he σ H0 R0 H R E _ λv fp H1 R1 E1 s1 t nd k=>dn _ H1 R1 _ (E1.setG (en:=.ob (h8 y fp)) i ⟨⟨v,rfl,t,nd⟩,λa ha=>(k a ha).1⟩ (λa ha=>(k a ha).2.1) λa ha j e _ q w=>(k a ha).2.2 j e q w) s1 (h fp))
theorem jo (i:Nat){S:ma α}{x y:Str}{k:Nat}{p:Pos}{ps:List Pk}{xs st:`u}(C:`aL)(hr:bG k X.A)(ha:HA X es (Z.set i (.mu r xs)) ps (Z.set i (.mu r xs)))(hΓ:Z[i]?∣(.ob (aP a r xs)))(hS:S X.K xs ps (λxs'=>Bh λw=>xs'=st/\w=z))(hfr:∀(R:Hp)(ws:`R),PySem.Paired (r.R X.K R) ws st->∃s k rest,ws= .ref s:: .int k::rest)(hmx:noMix z=true)(hg:Gl X x:=by rfl)(Yd:Yz x:=by decide)(he:U5 (.Name y p1::es) X.env=(false,eval (.Name y p1) X.env)::U5 es X.env:=by rfl)(X1:fo X pos es:=by rfl)(hN:autoParam (At X i y) bZ):
 j5 X (.Call `ao (.Name y p1::es) [] pos) Z z (Z.set i (.ob (aP a r st))):=λσ H0 R0 H R E Q q=>by
 let⟨ea,⟨vs,hva,pp⟩,hR⟩:=dg (E.ent i _ hΓ);let hl:i<Z.length:=(RP.mp hΓ).1;let E':ar X.K σ H0 R0 H R (Z.set i (.mu r xs)):=E.tell hΓ (by rw[ea];exact⟨a,vs,rfl,hva,hR,pp⟩) λb w=>by
  rw[ea] at w;exact w
 refine Bd i C hr ha (R8 hl) (R8 hl) hS E' (λa' H1 R1 v H' R' xs' Yf E1 E2 s' t=>?_) hg Yd he X1 hN;rw[ea] at Yf;cases Yf
 let⟨w,fp,t1,nd,k,rfl,rfl⟩:=t;rw[Tb] at E2;let⟨a2,ws,Z4,hp2,Zu,pp2⟩:=E2.ent i _ (R8 hl);rw[ea] at Z4;cases Z4
 let E3:ar X.K σ H0 R0 H' R' (Z.set i (.ob (aP a r xs'))):=by
  have:=E2.tell (i:=i) (en:=.ob (aP a r xs')) (R8 hl) (by rw[ea];exact⟨⟨_,rfl,rfl,ws,hp2,pp2⟩,λb hb=>by rw[RU.mp hb];exact Zu⟩) (λb w=>by rw[ea];exact w);rwa [Tb] at this
 let Zw:∀b∈fp,b≠a:=λb hb e=>by
  subst e;let⟨s,k,rest,e1⟩:=hfr R' ws pp2;rw[e1] at hp2;exact cX.node hp2 t1 hmx hb
 refine q v fp H' R' E3 s' t1 nd λb hb=>?_;let hb1:H1 b=none:=by
  have:=(k b hb).1;unfold del at this;rwa [Xu (Zw b hb)] at this
 refine⟨(k b hb).2,E1.ext.h.free hb1,λj e qj w=>?_⟩;obtain⟨rfl,rfl,_⟩ | ⟨hj,q1⟩:=set_at qj
 ·exact Zw b hb (RU.mp w)
 ·exact E1.off hb1 j e (by rw[Ss (UJ hj)];exact q1) w
theorem ar.Bc {fp:Ro}(E:`C)(hj:Z[j]?∣(.ob (h8 x fp))):(∃v,(σ[j]?).join∣v/\cX H v x fp)/\fp.Nodup/\ar K σ H0 R0 H R (Z.set j .no)/\∀a∈fp,R a=none/\H0 a=none/\Off a σ (Z.set j .no):=by
 let⟨⟨v,ev,t,nd⟩,hR⟩:=E.ent j _ hj;refine⟨⟨v,ev,t⟩,nd,E.tell (en:=.no) hj trivial (λb w=>by cases w),λa ha=>⟨hR a ha,E.nw j _ a hj ha,λk e q w=>?_⟩⟩;obtain⟨rfl,rfl,_⟩ | ⟨hk,q1⟩:=set_at q
 ·cases w
 ·exact hk (E.ds k j e _ a q1 hj w ha)
theorem z7 (j:Nat){y:Str}{fp:Ro}(hΓ:Z[j]?∣(.ob (h8 x fp)))(hN:autoParam (At X j y) bZ):j5 X (.Name y pos) Z x (Z.set j .no):=λσ H0 R0 H R E Q q=>by
 let⟨⟨v,ev,t⟩,nd,E1,k⟩:=E.Bc hΓ;exact eS (aV hN) ⟨v,at_of ev,q v fp H R E1 `S t nd k⟩
theorem cX.fresh {fp:Ro}{p:Addr}{o:HO}(h:cX H v x fp)(hp:H p=none):cX (upd H p o) v x fp/\p∉fp:=by
 let hn:p∉fp:=λw=>h.has p w hp;exact⟨h.loc λa ha=>aG λe=>hn (e▸ha),hn⟩
theorem JB {a t:Expr}(ha:EV X a Z au x Γ1)(hb:EV X b Γ1 au y Γ2)(ht:j5 X t Γ2 z Γ3)(hx:kK x=true)(hy:kK y=true)(h1:U5 [a,b,t] X.env=(false,eval a X.env)::U5 [b,t] X.env:=by rfl)(h2:U5 [b,t] X.env=(false,eval b X.env)::U5 [t] X.env:=by rfl)(h3:dh X t []:=by rfl):j5 X (.List [a,b,t] pos) Z (.lst [x,y,z]) Γ3:=λσ H0 R0 H R E Q q=>by
 refine eS (sM (aI aO (aI aO (aI aO bq h3) h2) h1)) (ha σ H0 R0 H R E _ λv1 H1 R1 E1 s1 e1=>hb σ H0 R0 H1 R1 E1 _ λv2 H2 R2 E2 s2 e2=>ht σ H0 R0 H2 R2 E2 _ λv3 fp H3 R3 E3 s3 t3 nd k=>⟨by show 3<=UZ;decide,λp hp=>?_⟩);let⟨t4,hn⟩:=t3.fresh (o:=.lst [v1,v2,v3]) hp;refine q (.ref p) (p::fp) _ R3 (E3.grow (Ext.d6 E3.sub hp _)) (s1.trans (s2.trans s3)) ?_ (Sn.mpr ⟨hn,nd⟩) λc hc=>?_
 ·have:=bz.cons (mW (H':=upd H3 p (.lst [v1,v2,v3])) e1 hx) (bz.cons (mW (H':=upd H3 p (.lst [v1,v2,v3])) e2 hy) (bz.cons t4 .nil));rw[Sl,SX,SX] at this;exact .lst aD this (by show 3<=UZ;decide)
 ·obtain rfl | hc:=R9.mp hc
  ·exact⟨E3.sub.free hp,E3.ext.h.free hp,E3.off hp⟩
  ·exact k c hc
theorem JG (j:Nat){a t:Expr}{n:Str}{u:PV}{f0:Ro}(ha:EV X a Z au x Γ1)(hb:EV X b Γ1 au y Γ2)(ht:j5 X t Γ2 z Γ3)(hj:Γ2[j]?∣(.ob (h8 u f0)))(hj3:Γ3[j]?∣(.ob (h8 u f0)))(hx:kK x=true)(hy:kK y=true)(hN:autoParam (At X j n) bZ)(h1:U5 [a,b,.Name n p1,t] X.env=(false,eval a X.env)::U5 [b,.Name n p1,t] X.env:=by rfl)(h2:U5 [b,.Name n p1,t] X.env=(false,eval b X.env)::U5 [.Name n p1,t] X.env:=by rfl)(h3:U5 [.Name n p1,t] X.env=(false,eval (.Name n p1) X.env)::U5 [t] X.env:=by rfl)(h4:dh X t []:=by rfl):j5 X (.List [a,b,.Name n p1,t] pos) Z (.lst [x,y,u,z]) (Γ3.set j .no):=λσ H0 R0 H R E Q q=>by
 refine eS (sM (aI aO (aI aO (aI (aV hN) (aI aO bq h4) h3) h2) h1)) (ha σ H0 R0 H R E _ λv1 H1 R1 E1 s1 e1=>hb σ H0 R0 H1 R1 E1 _ λv2 H2 R2 E2 s2 e2=>?_);let⟨⟨v0,ev0,_⟩,_⟩:=E2.Bc hj;refine⟨v0,at_of ev0,ht σ H0 R0 H2 R2 E2 _ λv3 fp H3 R3 E3 s3 t3 nd k=>⟨by show 4<=UZ;decide,λp hp=>?_⟩⟩;let⟨⟨v0',ev0',t0⟩,nd0,E4,k0⟩:=E3.Bc hj3;rw[ev0] at ev0';cases ev0'
 let⟨t4,hn⟩:=t3.fresh (o:=.lst [v1,v2,v0,v3]) hp;let⟨t5,hn5⟩:=t0.fresh (o:=.lst [v1,v2,v0,v3]) hp;let dj:∀c∈f0,c∉fp:=λc hc w=>(k c w).2.2 j _ hj3 hc;refine q (.ref p) (p::(f0++fp)) _ R3 (E4.grow (Ext.d6 E4.sub hp _)) (s1.trans (s2.trans s3)) ?_ (Sn.mpr ⟨λw=>(Se.mp w).elim hn5 hn,SO.mpr ⟨nd0,nd,λc hc d w e=>dj c hc (e▸w)⟩⟩) λc hc=>?_
 ·have:=bz.cons (mW (H':=upd H3 p (.lst [v1,v2,v0,v3])) e1 hx) (bz.cons (mW (H':=upd H3 p (.lst [v1,v2,v0,v3])) e2 hy) (bz.cons t5 (bz.cons t4 .nil)));rw[Sl,SX,SX] at this;exact .lst aD this (by show 4<=UZ;decide)
 ·obtain rfl | hc:=R9.mp hc
  ·exact⟨E4.sub.free hp,E4.ext.h.free hp,E4.off hp⟩
  ·obtain hc | hc:=Se.mp hc
   ·exact k0 c hc
   ·refine⟨(k c hc).1,(k c hc).2.1,λi e qi w=>?_⟩;obtain⟨rfl,rfl,_⟩ | ⟨hi,q1⟩:=set_at qi
    ·cases w
    ·exact(k c hc).2.2 i e q1 w
theorem jB (i:Nat){xs:`u}{P:List α->PV->Prop}(he:j5 X e Z y Γ1)(hΓ1:Γ1[i]?∣(.ob (aP a r xs)))(h:P xs y):W1 X (.Return (some e) pos) Z N (wQ X.K a r λxs'=>Bh (P xs')):=λσ H0 R0 H R E D dn dr=>
 sS (jq aO) (he σ H0 R0 H R E _ λv fp H1 R1 E1 s1 t nd k=>by
  let⟨ea,⟨vs,ha,pp⟩,hR⟩:=dg (E1.ent i _ hΓ1);exact dr v H1 R1 E1.ext ⟨vs,xs,ha,hR,pp,y,fp,t,nd,λb hb=>⟨(k b hb).2.1,(k b hb).1⟩,h⟩)
theorem KU (i:Nat){x:Str}{fp:Ro}(he:j5 X e Z z Γ1)(hΓ:Z[i]?∣(.ob (h8 (.lst xs) fp)))(hΓ1:Γ1[i]?∣(.ob (h8 (.lst xs) fp)))(hz:xs.length<UZ)(h:∀fp',N (Γ1.set i (.ob (h8 (.lst (xs++[z])) fp'))))(hN:`o)(Yc:U7 `y none pos.line X.env=pure false:=by rfl)(XN:eX X `h "append":=by rfl)(X4:l6 X cp [e]:=by rfl)(XM:`Y=true:=by rfl)(hs:dh X e []:=by rfl):W1 X (.Expr `y pos) Z N T:=λσ H0 R0 H R E D dn dr=>by
 let⟨⟨v0,ea,t0,_⟩,_⟩:=E.ent i _ hΓ;cases t0 with
 | @lst a vs0 _ f0 ha0 tt0 z0=>
 refine sS (dO `ad Yc) ?_;refine⟨.ref a,at_of ea,.inl ⟨rfl,vs0,bt.of ha0⟩,he σ H0 R0 H R E _ λv fpz H1 R1 E1 s1 t nd k=>?_⟩;let⟨⟨v1,ea1,t1,nd1⟩,hR1⟩:=E1.ent i _ hΓ1;rw[ea] at ea1;cases ea1
 cases t1 with
 | @lst _ vs _ _ ha tt zz=>
 refine⟨a,vs,v,rfl,rfl,ha,by rw[tt.len];exact hz,?_⟩;let⟨na,nd2⟩:=Sn.mp nd1;let nz:a∉fpz:=λw=>(k a w).2.2 i _ hΓ1 RZ;let dj:∀c∈f0,c∉fpz:=λc hc w=>(k c w).2.2 i _ hΓ1 (RX _ hc);let tn:cX (upd H1 a (.lst (vs++[v]))) (.ref a) (.lst (xs++[z])) (a::(f0++fpz)):=by
  have:=bz.app (tt.loc (H':=upd H1 a (.lst (vs++[v]))) λc hc=>aG λe=>na (e▸hc)) (bz.cons (t.loc (H':=upd H1 a (.lst (vs++[v]))) λc hc=>aG λe=>nz (e▸hc)) .nil);rw[Sl] at this;exact .lst aD this (by rw[RY,Sz];exact hz)
 refine dn σ _ R1 _ (E1.lF (en:=.ob (h8 (.lst (xs++[z])) (a::(f0++fpz)))) hΓ1 (a:=a) RZ ?_ λb hb=>?_) s1 (h _)
 ·rw[ea];refine⟨⟨_,rfl,tn,Sn.mpr ⟨λw=>(Se.mp w).elim na nz,SO.mpr ⟨nd2,nd,λc hc d w e=>dj c hc (e▸w)⟩⟩⟩,λb hb=>?_⟩;obtain rfl | hb:=R9.mp hb
  ·exact hR1 _ RZ
  ·obtain hb | hb:=Se.mp hb
   ·exact hR1 _ (RX _ hb)
   ·exact(k b hb).1
 ·obtain rfl | hb:=R9.mp hb
  ·exact .inl RZ
  ·obtain hb | hb:=Se.mp hb
   ·exact .inl (RX _ hb)
   ·exact .inr ⟨(k b hb).2.1,(k b hb).2.2⟩
theorem Fv {fp:Ro}(hΓ:Z[i]?∣(.ob (h8 x fp)))(σ:St)(H0 R0 H R:Hp)(E:`aF):ar X.K σ H H H H ((Z.map lX).set i (.im au x)):=by
 let⟨⟨v,ea,t,_⟩,_⟩:=E.ent i _ hΓ;exact E.Yu.kB (i:=i) (e0:=.no) (by rw[R6,hΓ];rfl) ⟨v,ea,t.tJ⟩ λb w=>by cases w
end
abbrev PT:=List PV×Addr×Ro
abbrev cR (p:PT):Ro:=p.2.1::p.2.2
abbrev eM (ps:List PT):Ro:=ps.flatMap cR
structure lJ (H:Hp)(a:Addr)(ps:List PT):Prop where
 hd:H a∣(.lst (ps.map λp=>.ref p.2.1))
 pt:∀(n:Nat)(p:PT),ps[n]?∣p->cX H (.ref p.2.1) (.lst p.1) (cR p)/\(cR p).Nodup/\a∉cR p
 dj:∀(n m:Nat)(p q:PT),ps[n]?∣p->ps[m]?∣q->∀c∈cR p,c∈cR q->n=m
variable {ps:List PT}
theorem bQ {c:Addr}:c∈eM ps↔∃(n:Nat)(p:PT),ps[n]?∣p/\c∈cR p:=by
 rw[TL];constructor
 ·rintro⟨p,hp,hc⟩;let⟨n,hn⟩:=Sh.mp hp;exact⟨n,p,hn,hc⟩
 ·rintro⟨n,p,hn,hc⟩;exact⟨p,R7 hn,hc⟩
def bB (a:Addr)(ps:List PT):oq where
 fp:=a::eM ps
 R:=λ_ H _ v=>v= .ref a/\lJ H a ps
 loc:=λh _ ⟨e,k⟩=>⟨e,(h _ RZ).trans k.hd,λn p hn=>⟨(k.pt n p hn).1.loc λc hc=>h c (RX _ (bQ.mpr ⟨n,p,hn,hc⟩)),(k.pt n p hn).2⟩,k.dj⟩
 has:=λ⟨e,k⟩ c hc=>by
  obtain rfl | hc:=R9.mp hc
  ·rw[k.hd];simp
  ·let⟨n,p,hn,hc⟩:=bQ.mp hc;exact(k.pt n p hn).1.has c hc
variable {n:Nat}{ys:List PV}{q0:PT}{tp:Pos}
theorem ar.Gh {b:Addr}{ys':List PV}{g g':Ro}(E:`C)(hΓ:`X)(hn:ps[n]?∣(ys,b,g))(t:cX (L2.upd H b (.lst ws)) (.ref b) (.lst ys') (b::g'))(nd:(b::g').Nodup)(hg:∀c∈g',c∈g∨(R c=none/\H0 c=none/\Off c σ Z)):ar K σ H0 R0 (L2.upd H b (.lst ws)) R (Z.set i (.ob (bB a (ps.set n (ys',b,g'))))):=by
 let⟨⟨v,ea,rfl,k⟩,hR⟩:=E.ent i _ hΓ;let nl:n<ps.length:=(RP.mp hn).1;let bm:b∈eM ps:=bQ.mpr ⟨n,_,hn,RZ⟩;let ab:a≠b:=λe=>(k.pt n _ hn).2.2 (by rw[e];exact RZ);let sp:∀(m:Nat)(q:PT),(ps.set n (ys',b,g'))[m]?∣q->(m=n/\q=(ys',b,g'))∨(m≠n/\ps[m]?∣q):=λm q h=>by
  by_cases e:n=m
  ·subst e;rw[R8 nl] at h;exact .inl ⟨rfl,(Option.some.inj h).symm⟩
  ·rw[Ss e] at h;exact .inr ⟨λz=>e z.symm,h⟩
 let old:∀c∈b::g',c∈eM ps∨(R c=none/\H0 c=none/\Off c σ Z):=λc hc=>by
  obtain rfl | hc:=R9.mp hc
  ·exact .inl bm
  ·exact(hg c hc).imp (λw=>bQ.mpr ⟨n,_,hn,RX _ w⟩) id
 let offa:∀{c:Addr},Off c σ Z->c∉(a::eM ps):=λh w=>h i _ hΓ w;let apart:∀(m:Nat)(q:PT),m≠n->ps[m]?∣q->∀c∈b::g',c∉cR q:=λm q hm hq c hc w=>by
  obtain rfl | hc:=R9.mp hc
  ·exact hm (k.dj m n q _ hq hn _ w RZ)
  ·obtain z | z:=hg c hc
   ·exact hm (k.dj m n q _ hq hn c w (RX _ z))
   ·exact offa z.2.2 (RX _ (bQ.mpr ⟨m,q,hq,w⟩))
 refine E.lF (en:=.ob (bB a (ps.set n (ys',b,g')))) hΓ (a:=b) (RX _ bm) ⟨⟨.ref a,ea,rfl,?_,λm q hq=>?_,λm1 m2 q1 q2 h1 h2 c c1 c2=>?_⟩,λc hc=>?_⟩ λc hc=>?_
 ·rw[aG ab,k.hd];congr 2;refine SV λm=>?_;rw[R6,R6];by_cases e:n=m
  ·subst e;rw[R8 nl,hn];rfl
  ·rw[Ss e]
 ·obtain⟨_,rfl⟩ | ⟨hm,hq⟩:=sp m q hq
  ·refine⟨t,nd,λw=>?_⟩;obtain e | w:=R9.mp w
   ·exact ab e
   ·obtain z | z:=hg a w
    ·exact(k.pt n _ hn).2.2 (RX _ z)
    ·exact offa z.2.2 RZ
  ·let⟨t1,t2,t3⟩:=k.pt m q hq;exact⟨t1.loc λc hc=>aG λe=>apart m q hm hq b RZ (e▸hc),t2,t3⟩
 ·obtain⟨e1,rfl⟩ | ⟨hm1,h1⟩:=sp m1 q1 h1
  ·obtain⟨e2,rfl⟩ | ⟨Zy,h2⟩:=sp m2 q2 h2
   ·rw[e1,e2]
   ·exact Xt c2 (apart m2 q2 Zy h2 c c1)
  ·obtain⟨e2,rfl⟩ | ⟨Zy,h2⟩:=sp m2 q2 h2
   ·exact Xt c1 (apart m1 q1 hm1 h1 c c2)
   ·exact k.dj m1 m2 q1 q2 h1 h2 c c1 c2
 ·obtain rfl | hc:=R9.mp hc
  ·exact hR _ RZ
  ·let⟨m,q,hq,hc⟩:=bQ.mp hc;obtain⟨_,rfl⟩ | ⟨_,hq⟩:=sp m q hq
   ·obtain z | z:=old c hc
    ·exact hR _ (RX _ z)
    ·exact z.1
   ·exact hR _ (RX _ (bQ.mpr ⟨m,q,hq,hc⟩))
 ·obtain rfl | hc:=R9.mp hc
  ·exact .inl RZ
  ·let⟨m,q,hq,hc⟩:=bQ.mp hc;obtain⟨_,rfl⟩ | ⟨_,hq⟩:=sp m q hq
   ·exact(old c hc).imp (λw=>RX _ w) λz=>z.2
   ·exact .inl (RX _ (bQ.mpr ⟨m,q,hq,hc⟩))
theorem WS.Ou (i:Nat)(hΓ:Z[i]?∣(.mu r []))(h:∀a,WS X Yx (Z.set i (.ob (bB a []))) N T):WS X Yx Z N T:=λσ H0 R0 H R E D dn dr=>by
 let⟨a,vs,ea,ha,hR,pp⟩:=E.ent i _ hΓ;cases pp
 refine h a σ H0 R0 H R (E.tell hΓ (by rw[ea];exact⟨⟨_,rfl,rfl,ha,(λn p q=>by simp at q),(λn m p q h1=>by simp at h1)⟩,λb hb=>by rw[RU.mp hb];exact hR⟩) λb w=>?_) D dn dr;have:b=a:=RU.mp w;rw[this];exact ck.mpr ea
theorem Hu (i:Nat)(he:j5 X e Z (.lst ys) Γ1)(hΓ:`X)(hΓ1:Γ1[i]?∣(.ob (bB a ps)))(hz:ps.length<UZ)(h:∀b g,N (Γ1.set i (.ob (bB a (ps++[(ys,b,g)])))))(hN:`o)(Yc:U7 `y none pos.line X.env=pure false:=by rfl)(XN:eX X `h "append":=by rfl)(X4:l6 X cp [e]:=by rfl)(XM:`Y=true:=by rfl)(hs:dh X e []:=by rfl):W1 X (.Expr `y pos) Z N T:=λσ H0 R0 H R E D dn dr=>by
 let⟨⟨v0,ea,rfl,k0⟩,_⟩:=E.ent i _ hΓ;refine sS (dO `ad Yc) ?_;refine⟨.ref a,at_of ea,.inl ⟨rfl,_,bt.of k0.hd⟩,he σ H0 R0 H R E _ λv fpz H1 R1 E1 s1 t nd kz=>?_⟩;let⟨⟨v1,ea1,rfl,k⟩,hR1⟩:=E1.ent i _ hΓ1;cases t with
 | @lst b vs _ g hb tt zz=>
 refine⟨a,_,.ref b,rfl,rfl,k.hd,by rw[RS];exact hz,?_⟩;let off:∀c∈b::g,c∉(a::eM ps):=λc hc w=>(kz c hc).2.2 i _ hΓ1 w;let sp:∀(m:Nat)(q:PT),(ps++[(ys,b,g)])[m]?∣q->(m=ps.length/\q=(ys,b,g))∨(m<ps.length/\ps[m]?∣q):=λm q hq=>by
  obtain z | z:=Ut m ps.length
  ·rw[So z] at hq;exact .inr ⟨z,hq⟩
  ·rw[Su z] at hq;have:m-ps.length=0:=by
    have:=(RP.mp hq).1;rw[Sz] at this;cbv
   rw[this] at hq;exact .inl ⟨`a,by simpa using hq.symm⟩
 let tb:cX (upd H1 a (.lst ((ps.map λp=>V.ref p.2.1)++[.ref b]))) (.ref b) (.lst ys) (b::g):=(cX.lst hb tt zz).loc λc hc=>aG λe=>off c hc (by rw[e];exact RZ);refine dn σ _ R1 _ (E1.lF (en:=.ob (bB a (ps++[(ys,b,g)]))) hΓ1 (a:=a) RZ ⟨⟨.ref a,ea1,rfl,?_,λm q hq=>?_,λm1 m2 q1 q2 h1 h2 c c1 c2=>?_⟩,λc hc=>?_⟩ λc hc=>?_) s1 (h b g)
 ·rw[aD,Sf];rfl
 ·obtain⟨_,rfl⟩ | ⟨_,hq⟩:=sp m q hq
  ·exact⟨tb,nd,λw=>off a w RZ⟩
  ·let⟨t1,t2,t3⟩:=k.pt m q hq;exact⟨t1.loc λc hc=>aG λe=>t3 (e▸hc),t2,t3⟩
 ·obtain⟨e1,rfl⟩ | ⟨_,h1⟩:=sp m1 q1 h1
  ·obtain⟨e2,rfl⟩ | ⟨_,h2⟩:=sp m2 q2 h2
   ·rw[e1,e2]
   ·exact Xt (RX _ (bQ.mpr ⟨m2,q2,h2,c2⟩)) (off c c1)
  ·obtain⟨e2,rfl⟩ | ⟨_,h2⟩:=sp m2 q2 h2
   ·exact Xt (RX _ (bQ.mpr ⟨m1,q1,h1,c1⟩)) (off c c2)
   ·exact k.dj m1 m2 q1 q2 h1 h2 c c1 c2
 ·obtain rfl | hc:=R9.mp hc
  ·exact hR1 _ RZ
  ·let⟨m,q,hq,hc⟩:=bQ.mp hc;obtain⟨_,rfl⟩ | ⟨_,hq⟩:=sp m q hq
   ·exact(kz c hc).1
   ·exact hR1 _ (RX _ (bQ.mpr ⟨m,q,hq,hc⟩))
 ·obtain rfl | hc:=R9.mp hc
  ·exact .inl RZ
  ·let⟨m,q,hq,hc⟩:=bQ.mp hc;obtain⟨_,rfl⟩ | ⟨_,hq⟩:=sp m q hq
   ·exact .inr (kz c hc).2
   ·exact .inl (RX _ (bQ.mpr ⟨m,q,hq,hc⟩))
theorem CY (i j:Nat){p:Pos}{k:Int}{q:PT}(hb:EV X b Z ag k Γ1)(hΓ:`X)(hΓ1:Γ1[i]?∣(.ob (bB a ps)))(hk:fO ps.length k∣n)(hq:ps[n]?∣q)(h:N (Γ1.set j (.im dE q.2.1)))(hNx:`o)(hsx:dN b:=by exact λ_ _=>rfl)(hN:X.N.Nodup:=by first | assumption | decide)(hi:X.N[j]?∣y:=by rfl)(hx:`ax)(hs:U7 (.Subscript `ao b p2) (some (.Name y p1)) pos.line X.env=pure false:=by rfl)(hf:autoParam (fM X y) YI):
 W1 X (.Assign [.Name y p1] (.Subscript `ao b p2) pos) Z N T:=λσ H0 R0 H R E D dn dr=>by
 let⟨⟨v,ea,rfl,k0⟩,hR⟩:=E.ent i _ hΓ;refine sS (j8 hN hi hx aO hs hf) (eS (ir gU (aV hNx) aO hsx) ⟨.ref a,at_of ea,hb σ H0 R0 H R E _ λu H2 R2 E2 s2 e2=>?_⟩);let⟨⟨v,Z4,rfl,k2⟩,Zu⟩:=E2.ent i _ hΓ1;refine⟨a,_,k,.ref q.2.1,rfl,e2,bt.of k2.hd,?_,?_⟩
 ·let e:(ps.map λp=>V.ref p.2.1)=(ps.map λp=>p.2.1).map V.ref:=by rw[S0];rfl
  rw[e];exact Dy (by rw[RS];exact hk) (by rw[R6,hq];rfl)
 exact dn _ H2 R2 _ (E2.set j (r:=dE) (x:=q.2.1) rfl) s2 h
theorem Fs (i j:Nat){p:Pos}(hm:X.mg "len"=none)(hΓ:`X)(hj:Z[j]?∣.im dE q0.2.1)(hq:ps[n]?∣q0)(hN:autoParam (At X j y) bZ)(hs:fU X (.Name y p1):=by rfl)(hg:Gl X "len":=by rfl):EV X (.Call (.Name "len" p) [.Name y p1] [] pos) Z ag (q0.1.length:Int) Z:=λσ H0 R0 H R E Q q=>by
 let⟨⟨v,ea,rfl,k⟩,hR⟩:=E.ent i _ hΓ;let⟨v0,e0,Y7⟩:=E.ent j _ hj;cases Y7
 cases (k.pt n q0 hq).1 with
 | @lst _ vs _ _ hb tt zz=>
 refine eS (fg gJ hg hm Vo (aI (aV hN) bq hs) `c `c hs) ⟨.ref q0.2.1,at_of e0,_,_,rfl,.inl (bt.of hb),?_⟩;rw[tt.len];exact q _ H R E `S rfl
theorem bz.ins {H:Hp}{v:V}{y:PV}{fy:Ro}(h:cX H v y fy):∀(k:Nat){vs:`R}{xs:List PV}{f:Ro},bz H vs xs f->∃f1 f2,f=f1++f2/\bz H (cv k v vs) (cv k y xs) (f1++(fy++f2))
 | 0,vs,xs,f,t=>⟨[],f,rfl,(bz.cons h t:bz H (v::vs) (y::xs) (fy++f))⟩
 | k+1,_,_,_,.nil=>⟨[],[],rfl,(bz.cons h .nil:bz H [v] [y] (fy++[]))⟩
 | k+1,_,_,_,.cons (f:=f0) q t=>by
   let⟨f1,f2,e,t'⟩:=bz.ins h k t;refine⟨f0++f1,f2,by rw[e,Sj],?_⟩;rw[Sj];exact .cons q t'
theorem mn {α:Type}(y:α):∀(k:Nat)(xs:`u),(cv k y xs).length=xs.length+1
 | 0,xs=>rfl
 | k+1,[]=>rfl
 | k+1,x::xs=>by show(cv k y xs).length+1=_;rw[mn y k xs];rfl
theorem Hn (i j:Nat){e1 e2:Expr}{y:PV}{k:Int}(h1:EV X e1 Z ag k Γ1)(h2:j5 X e2 Γ1 y Γ2)(hΓ:`X)(hj:Z[j]?∣.im dE q0.2.1)(hq:ps[n]?∣q0)(hΓ2:Γ2[i]?∣(.ob (bB a ps)))(k0:0<=k)(k1:k<=(q0.1.length:Int))(hz:q0.1.length<UZ)(h:∀g,N (Γ2.set i (.ob (bB a (ps.set n (cv k.toNat y q0.1,q0.2.1,g))))))(hN:autoParam (At X j x) bZ)(Yc:U7 (.Call (.Attribute `h "insert" ap) [e1,e2] [] cp) none pos.line X.env=pure false:=by rfl)(XN:eX X `h "insert":=by rfl)(X4:l6 X cp [e1,e2]:=by rfl)(XM:`Y=true:=by rfl)(hs:U5 [e1,e2] X.env=(false,eval e1 X.env)::U5 [e2] X.env:=by rfl)(Yh:dh X e2 []:=by rfl)(X1:fo X cp [e2]:=by rfl):
 W1 X (.Expr (.Call (.Attribute `h "insert" ap) [e1,e2] [] cp) pos) Z N T:=λσ H0 R0 H R E D dn dr=>by
 let⟨⟨v,ea,rfl,kk⟩,hR⟩:=E.ent i _ hΓ;let⟨v0,e0,Y7⟩:=E.ent j _ hj;cases Y7
 let⟨ys,b,g⟩:=q0;cases (kk.pt n _ hq).1 with
 | @lst _ vs0 _ _ hb0 tt0 zz0=>
 refine sS (dO (gT Wt PySem.F.slot_list_insert PySem.F.type_list_insert DC (aV hN) (aI aO (aI aO bq Yh) hs) XN X4 XM hs X1) Yc) ?_;refine⟨.ref b,at_of e0,.inl ⟨rfl,_,bt.of hb0⟩,h1 σ H0 R0 H R E _ λv1 H1 R1 E1 s1 r1=>h2 σ H0 R0 H1 R1 E1 _ λv2 fy H2 R2 E2 s2 t2 ndy ky=>?_⟩;cases r1
 let⟨⟨v,Z4,rfl,k2⟩,Zu⟩:=E2.ent i _ hΓ2;let⟨tq,ndq,naq⟩:=k2.pt n _ hq;cases tq with
 | @lst _ vs _ _ hb tt zz=>
 let⟨nb,ndg⟩:=Sn.mp ndq;refine⟨b,vs,k,v2,rfl,rfl,hb,k0,by rw[tt.len];exact k1,by rw[tt.len];exact hz,?_⟩;let offy:∀c∈fy,c∉b::g:=λc hc w=>(ky c hc).2.2 i _ hΓ2 (RX _ (bQ.mpr ⟨n,_,hq,w⟩));let⟨f1,f2,ef,ti⟩:=bz.ins (t2.loc (H':=upd H2 b (.lst (cv k.toNat v2 vs))) λc hc=>aG λe=>offy c hc (by rw[e];exact RZ)) k.toNat (tt.loc (H':=upd H2 b (.lst (cv k.toNat v2 vs))) λc hc=>aG λe=>nb (e▸hc));let ef:g=f1++f2:=ef;let nd':(f1++(fy++f2)).Nodup:=by
  rw[ef] at ndg;let⟨n1,n2,n3⟩:=SO.mp ndg;refine SO.mpr ⟨n1,SO.mpr ⟨ndy,n2,λc hc d YM e=>offy c hc (by rw[e];exact RX _ (by rw[ef];exact Sa _ YM))⟩,λc hc d YM e=>?_⟩;obtain YM | YM:=Se.mp YM
  ·exact offy d YM (by rw[← e];exact RX _ (by rw[ef];exact Sg _ hc))
  ·exact n3 c hc d YM e
 refine dn σ _ R2 _ (E2.Gh hΓ2 hq (.lst aD ti (by rw[mn];exact hz)) (Sn.mpr ⟨λw=>?_,nd'⟩) λc hc=>?_) `E (h _)
 ·obtain w | w:=Se.mp w
  ·exact nb (by show b∈g;rw[ef];exact Sg _ w)
  ·obtain w | w:=Se.mp w
   ·exact offy b w RZ
   ·exact nb (by show b∈g;rw[ef];exact Sa _ w)
 ·obtain w | w:=Se.mp hc
  ·exact .inl (by rw[ef];exact Sg _ w)
  ·obtain w | w:=Se.mp w
   ·exact .inr (ky c w)
   ·exact .inl (by rw[ef];exact Sa _ w)
theorem x9 {H:Hp}{K:W7}:∀{ps:List PT},(∀p∈ps,cX H (.ref p.2.1) (.lst p.1) (cR p))->PySem.Paired ((ae au).R K H) (ps.map λp=>V.ref p.2.1) (ps.map (·.1))
 | [],_=>.nil
 | p::ps,h=>.cons (by
    cases h p RZ with
    | @lst _ vs _ _ hb tt zz=>exact⟨_,vs,rfl,hb,tt.tJ.pair,zz⟩) (x9 λq hq=>h q (RX _ hq))
theorem MW (hΓ:`X)(hz:ps.length<=UZ)(σ:St)(H0 R0 H R:Hp)(E:`aF):ar X.K σ H H H H ((Z.map lX).set i (.im (ae (ae au)) (ps.map (·.1)))):=by
 let⟨⟨v,ea,rfl,k⟩,_⟩:=E.ent i _ hΓ;refine E.Yu.kB (i:=i) (e0:=.no) (by rw[R6,hΓ];rfl) ⟨_,ea,a,_,rfl,k.hd,x9 λp hp=>?_,by rw[RS];exact hz⟩ λb w=>by cases w
 let⟨n,hn⟩:=Sh.mp hp;exact(k.pt n p hn).1
noncomputable def E9 (K:W7)(r:Rep α)(P:α->List (List PV)->Prop):RT:=λH0 v H' R'=>∃p v1 a y ps,v= .ref p/\R' p∣(.tup [v1,.ref a])/\r.R K R' v1 y/\lJ H' a ps/\(∀b∈a::eM ps,H0 b=none/\R' b=none)/\P y (ps.map (·.1))
theorem IB (i:Nat){z:Str}{k:Nat}{y:α}{P:α->List (List PV)->Prop}(he:EV X e Z r y Γ1)(hΓ1:Γ1[i]?∣(.ob (bB a ps)))(h:P y (ps.map (·.1)))(hN:autoParam (At X i z) bZ)(h1:U5 [e,.Name z p1] X.env=(false,eval e X.env)::U5 [.Name z p1] X.env:=by rfl)(h2:dh X (.Name z p1) []:=by rfl):W1 X (.Return (some (.Tuple [e,.Name z p1] k tp)) pos) Z N (E9 X.K r P):=λσ H0 R0 H R E D dn dr=>by
 refine sS (jq (si (aI aO (aI (aV hN) bq h2) h1))) `K;let⟨⟨v0,ea,rfl,kk⟩,hR⟩:=E1.ent i _ hΓ1;refine⟨.ref a,at_of ea,by show 2<=UZ;decide,λp hp=>?_⟩;let x:=Ext.fresh E1.sub hp (.tup [v,.ref a]);let E2:=E1.grow x;let nep:∀b∈a::eM ps,b≠p:=λb hb e=>by
  have:=(bB a ps).has (K:=X.K) (R0:=R1) ⟨rfl,kk⟩ b hb;rw[e,hp] at this;exact this rfl
 refine dr _ _ _ E2.ext ⟨p,v,a,y,ps,rfl,aD,r.mono x.r e1,?_,λb hb=>⟨E1.nw i _ b hΓ1 hb,?_⟩,h⟩
 ·exact((bB a ps).loc (K:=X.K) (R0:=R1) (R':=R1) (λb hb=>aG (nep b hb)) `S ⟨rfl,kk⟩).2
 ·rw[aG (nep b hb)];exact hR b hb
theorem I0 (i1 i2:Nat){S:dc}{f x1 x2:Str}{k:Nat}{p:Pos}{ps:List Pk}{P:α->List (List PV)->Prop}(C:aE X.prog X.w X.K X.mg X.base f n (aQ S X.K))(hr:bG n X.A)(ha:HA X (e::es) Z ps Γ1)(hS:S X.K ps (E9 X.K r P))(XS:i1≠i2)(h:∀a y qs,P y (qs.map (·.1))->N ((Γ1.set i1 (.im r y)).set i2 (.ob (bB a qs))))(hg:Gl X f:=by rfl)(Yd:Yz f:=by decide)(he:dh X e es:=by rfl)(X1:fo X cp es:=by rfl)(hc:X.calm=true:=by rfl)(hN:X.N.Nodup:=by first | assumption | decide)(h1:X.N[i1]?∣x1:=by rfl)(l1:autoParam (Loc X.env.scope x1) YJ)(f1:autoParam (fM X x1) YI)(h2:X.N[i2]?∣x2:=by rfl)(l2:autoParam (Loc X.env.scope x2) YJ)(f2:autoParam (fM X x2) YI)(hs:VE [.Tuple [.Name x1 p1,.Name x2 p2] k tp] (.Call (.Name f p) (e::es) [] cp) pos.line X.env=pure false:=by rfl)(hw:VF [.Tuple [.Name x1 p1,.Name x2 p2] k tp] (.Call (.Name f p) (e::es) [] cp) X.env=pure none:=by rfl)(ho:(Vf [.Tuple [.Name x1 p1,.Name x2 p2] k tp] X.env).map (·.2)=[Vt (.Tuple [.Name x1 p1,.Name x2 p2] k tp) X.env]:=by rfl):W1 X (.Assign [.Tuple [.Name x1 p1,.Name x2 p2] k tp] (.Call (.Name f p) (e::es) [] cp) pos) Z N T:=λσ H0 R0 H R E D dn dr=>by
 refine sS (sL aO (xp hc (fm (fw hN h1 l1 f1) (fm (fw hN h2 l2 f2) pH))) hs hw ho) ?_;refine lO C hr ha hS E (λH1 R1 v H' R' E1 s1 xx t=>?_) hg Yd he X1;let⟨q,v1,a,y,qs,rfl,hq,r1,kk,fr,hP⟩:=t;let E2:=E1.grow xx;refine⟨q,_,rfl,d7.of (E2.sub _ _ hq),rfl,_,_,rfl,_,_,rfl,rfl,?_⟩;refine dn _ H' R' _ (ar.setG (E2.set i1 (r:=r) r1) i2 (en:=.ob (bB a qs)) ⟨⟨_,rfl,rfl,kk⟩,λb hb=>(fr b hb).2⟩ (λb hb=>E1.ext.h.free (fr b hb).1) λb hb j e hj qj w=>?_) (s1.trans xx.r) (h a y qs hP);obtain⟨rfl,rfl,_⟩ | ⟨hj1,q1⟩:=set_at qj
 ·cases w
 ·rw[Ss (UJ hj1)] at w;exact E1.off (fr b hb).1 j e q1 w
theorem za:∀{ps:List PT},(eM ps).Nodup->(∀(n:Nat)(p:PT),ps[n]?∣p->(cR p).Nodup)/\∀(n m:Nat)(p q:PT),ps[n]?∣p->ps[m]?∣q->∀c∈cR p,c∈cR q->n=m
 | [],_=>⟨λn p h=>by simp at h,λn m p q h=>by simp at h⟩
 | r::ps,h=>by
   rw[show eM (r::ps)=cR r++eM ps from S6] at h;let⟨h1,h2,h3⟩:=SO.mp h;let⟨i1,i2⟩:=za h2;refine⟨λn p hn=>?_,λn m p q hn hm c hc hd=>?_⟩
   ·cases n with
    | zero=>have:r=p:= ~~~hn
            rw[← this];exact h1
    | succ n=>exact i1 n p (~~~hn)
   ·cases n with
    | zero=>
      let e1:r=p:= ~~~hn
      cases m with
      | zero=>rfl
      | succ m=>exact Xt rfl (h3 c (e1▸hc) c (bQ.mpr ⟨m,q,by simpa using hm,hd⟩))
    | succ n=>cases m with
      | zero=>
        let e1:r=q:= ~~~hm
        exact Xt rfl (h3 c (e1▸hd) c (bQ.mpr ⟨n,p,by simpa using hn,hc⟩))
      | succ m=>rw[i2 n m p q (~~~hn) (~~~hm) c hc hd]
theorem zO:∀{ps:List PT},(∀(n:Nat)(p:PT),ps[n]?∣p->(cR p).Nodup)->(∀(n m:Nat)(p q:PT),ps[n]?∣p->ps[m]?∣q->∀c∈cR p,c∈cR q->n=m)->(eM ps).Nodup
 | [],_,_=>Tx
 | r::ps,h,k=>by
   rw[show eM (r::ps)=cR r++eM ps from S6];refine SO.mpr ⟨h 0 r rfl,zO (λn p hn=>h (n+1) p (~~~hn)) λn m p q hn hm c hc hd=>?_,λc hc d hd e=>?_⟩
   ·have:=k (n+1) (m+1) p q (~~~hn) (~~~hm) c hc hd;cbv
   ·subst e;let⟨n,p,hn,hp⟩:=bQ.mp hd;exact Xt (k 0 (n+1) r p rfl (~~~hn) c hc hp) `a
theorem bz.parts:∀{vs:`R}{xss:List (List PV)}{g:Ro},bz H vs (xss.map PV.lst) g->∃ps:List PT,vs=(ps.map λp=>.ref p.2.1)/\ps.map (·.1)=xss/\g=eM ps/\∀p∈ps,cX H (.ref p.2.1) (.lst p.1) (cR p)
 | _,[],_,.nil=>⟨[],rfl,rfl,rfl,λp h=>by cases h⟩
 | _,xs::xss,_,.cons q t=>by
   let⟨ps,h1,h2,h3,h4⟩:=bz.parts t;cases q with
   | @lst b vs _ f hb tt zz=>
   refine⟨(xs,b,f)::ps,by rw[h1];rfl,by rw[Sx,h2],by rw[h3];rfl,λp hp=>?_⟩;obtain rfl | hp:=R9.mp hp
   ·exact .lst hb tt zz
   ·exact h4 p hp
theorem Ai {H:Hp}:∀{ps:List PT},(∀p∈ps,cX H (.ref p.2.1) (.lst p.1) (cR p))->bz H (ps.map λp=>.ref p.2.1) ((ps.map (·.1)).map PV.lst) (eM ps)
 | [],_=>.nil
 | p::ps,h=>bz.cons (h p RZ) (Ai λq hq=>h q (RX _ hq))
theorem cX.pl {b:Addr}{xss:List (List PV)}{g:Ro}(h:cX H (.ref b) (.lst (xss.map PV.lst)) (b::g))(nd:(b::g).Nodup):∃ps:List PT,lJ H b ps/\ps.map (·.1)=xss/\g=eM ps:=by
 cases h with
 | @lst _ vs _ _ hb tt zz=>
 let⟨ps,h1,h2,h3,h4⟩:=tt.parts;let⟨n1,n2⟩:=Sn.mp nd;rw[h3] at n1 n2;let⟨k1,k2⟩:=za n2;exact⟨ps,⟨by rw[hb,h1],λn p hn=>⟨h4 p (R7 hn),k1 n p hn,λw=>n1 (bQ.mpr ⟨n,p,hn,w⟩)⟩,k2⟩,h2,h3⟩
theorem lJ.tpv {b:Addr}(h:lJ H b ps)(hz:ps.length<=UZ):cX H (.ref b) (.lst ((ps.map (·.1)).map PV.lst)) (b::eM ps)/\(b::eM ps).Nodup:=by
 refine⟨.lst h.hd (Ai λp hp=>?_) (by rw[RS,RS];exact hz),Sn.mpr ⟨λw=>?_,zO (λn p hn=>(h.pt n p hn).2.1) h.dj⟩⟩
 ·let⟨n,hn⟩:=Sh.mp hp;exact(h.pt n p hn).1
 ·let⟨n,p,hn,hp⟩:=bQ.mp w;exact(h.pt n p hn).2.2 hp
theorem bz.sub:∀{vs:`R}{xs:List PV}{f:Ro}{m:Nat}{zs:List PV},bz H vs xs f->xs[m]?∣.lst zs->∃b g f1 f2,vs[m]?∣.ref b/\f=f1++((b::g)++f2)/\cX H (.ref b) (.lst zs) (b::g)/\∀(H':Hp)(zs':List PV),(∀d∈f1++f2,H' d=H d)->cX H' (.ref b) (.lst zs') (b::g)->bz H' vs (xs.set m (.lst zs')) f
 | _,_,_,m,zs,.nil,h=>by simp at h
 | _,_,_,0,zs,.cons (x:=x0) (f:=f) (g:=g) (vs:=vs) (xs:=xs) q t,h=>by
   let e:x0=PV.lst zs:= ~~~h
   subst e;cases q with
   | @lst b ws _ f hb tt zz=>
   refine⟨b,f,[],g,rfl,rfl,.lst hb tt zz,λH' zs' hk tn=>?_⟩;exact bz.cons tn (t.loc λd hd=>hk d hd)
 | _,_,_,m+1,zs,.cons (f:=f) (g:=g) (vs:=vs) (xs:=xs) q t,h=>by
   let⟨b,g',f1,f2,h1,h2,h3,h4⟩:=bz.sub (m:=m) t (~~~h);refine⟨b,g',f++f1,f2,by simpa using h1,by rw[h2,Sj],h3,λH' zs' hk tn=>?_⟩;rw[T5];exact bz.cons (q.loc λd hd=>hk d (Sg _ (Sg _ hd))) (h4 H' zs' (λd hd=>hk d (by
    obtain w | w:=Se.mp hd
    ·exact Sg _ (Sa _ w)
    ·exact Sa _ w)) tn)
variable {D:Ro}{tg:Expr}
theorem ar.ML {R':Hp}{l:Nat}{B B' C C':oq}(E:`C)(hil:i≠l)(hi:Z[i]?∣.ob B)(hl:Z[l]?∣.ob C)(hD:∀d∈D,d∈B.fp∨d∈C.fp)(x:Ext (gf H D) R H' R')(hB:(Ent.ob B').ok K H' R' (σ[i]?).join)(hC:(Ent.ob C').ok K H' R' (σ[l]?).join)(fB:∀b∈B'.fp,b∈B.fp)(fC:∀b∈C'.fp,b∈C.fp):ar K σ H0 R0 H' R' ((Z.set i (.ob B')).set l (.ob C')):=by
 let out:∀{b:Addr},H0 b≠none->b∉D:=λ{b} h e=>(hD b e).elim (λw=>h (E.nw i _ b hi w)) λw=>h (E.nw l _ b hl w);let apart:∀(j:Nat)(e:Ent),j≠i->j≠l->Z[j]?∣e->∀b∈e.fp (σ[j]?).join,b∉D:=λj e hj hj' qj b hb w=>(hD b w).elim (λz=>hj (E.ds j i e _ b qj hi hb z)) λz=>hj' (E.ds j l e _ b qj hl hb z);let key:∀(j:Nat)(e:Ent),((Z.set i (.ob B')).set l (.ob C'))[j]?∣e->(j=l/\e= .ob C')∨(j=i/\e= .ob B')∨(j≠i/\j≠l/\Z[j]?∣e):=λj e q=>by
  obtain⟨rfl,rfl,_⟩ | ⟨hj,q1⟩:=set_at q
  ·exact .inl ⟨rfl,rfl⟩
  ·obtain⟨rfl,rfl,_⟩ | ⟨hj',q2⟩:=set_at q1
   ·exact .inr (.inl ⟨rfl,rfl⟩)
   ·exact .inr (.inr ⟨hj',hj,q2⟩)
 let own:∀(j:Nat)(e:Ent),((Z.set i (.ob B')).set l (.ob C'))[j]?∣e->∃e0,Z[j]?∣e0/\∀b∈e.fp (σ[j]?).join,b∈e0.fp (σ[j]?).join:=λj e q=>by
  obtain⟨rfl,rfl⟩ | ⟨rfl,rfl⟩ | ⟨_,_,q1⟩:=key j e q
  ·exact⟨_,hl,fC⟩
  ·exact⟨_,hi,fB⟩
  ·exact⟨e,q1,λb hb=>hb⟩
 refine⟨⟨λb o q=>?_,E.ext.r.trans x.r,x.s,λb hb=>?_⟩,λj e q=>?_,λj e b q w=>?_,λj k e e' b q q' w w'=>?_,by rw[SF,SF];exact E.len⟩
 ·exact x.h b o (by rw[eP (out (by rw[q];exact UL _))];exact E.ext.h b o q)
 ·refine(x.old b ?_).trans (E.ext.old b hb);rw[eP (out hb)];exact av.some E.ext.h hb
 ·obtain⟨rfl,rfl⟩ | ⟨rfl,rfl⟩ | ⟨hj,hj',q1⟩:=key j e q
  ·exact hC
  ·exact hB
  ·let h1:=E.ent j e q1;refine h1.loc (λb hb=>?_) x.r λb hb=>?_
   ·cases e2:H b with
    | none=>exact Xt e2 (Ent.fG h1 hb).1
    | some u=>exact x.h b u (by rw[eP (apart j e hj hj' q1 b hb)];exact e2)
   ·exact(x.old b (by rw[eP (apart j e hj hj' q1 b hb)];exact(Ent.fG h1 hb).1)).trans (Ent.fG h1 hb).2
 ·let⟨e0,q0,s0⟩:=own j e q;exact E.nw j e0 b q0 (s0 b w)
 ·let⟨e0,q0,s0⟩:=own j e q;let⟨e1,q1,s1⟩:=own k e' q';exact E.ds j k e0 e1 b q0 q1 (s0 b w) (s1 b w')
theorem zM (i:Nat){body:List Stmt}{bf:Addr->Ga->Ga}(I:Nat->Ga->Prop)(hΓ:`X)(hb:BG X tg dE bf)(h0:I 0 Z)(hI:∀k Z,I k Z->∃qs:List PT,Z[i]?∣(.ob (bB a qs))/\qs.map (·.2)=ps.map (·.2))(Yk:∀(k:Nat)(p:PT)(Z:Ga),ps[k]?∣p->I k Z->WS X body (bf p.2.1 Z) (I (k+1)) T)(YB:∀Z:Ga,I ps.length Z->N Z)(hN:`o)(hc:X.calm=true:=by rfl)(hp:VR `f X.A X.env X.xe:=by exact VR.never)(hs:∀y,Va `h X.env y=pure y:=by intro _;rfl):W1 X (.For tg `h body [] pos) Z N T:=λσ H0 R0 H R E D dn dr=>by
 let⟨⟨v,ea,rfl,k0⟩,hR⟩:=E.ent i _ hΓ;let roots:∀qs:List PT,qs.map (·.2)=ps.map (·.2)->(qs.map λp=>V.ref p.2.1)=ps.map λp=>V.ref p.2.1:=λqs h=>by
  have:=congrArg (List.map λz:Addr×Ro=>V.ref z.1) h;rwa [S0,S0] at this
 refine sS (CZ hp hc (zV (aV hN)) PR iM hs) ⟨.ref a,at_of ea,a,rfl,⟨_,bt.of k0.hd⟩,?_⟩;refine⟨λk m σ' H'=>m=ps.length-k/\k<=ps.length/\∃R' Γ',ar X.K σ' H0 R0 H' R' Γ'/\av R R'/\I k Γ',⟨_,rfl,Ul _,R,Z,E,av.refl _,h0⟩,?_⟩;rintro k m σ' H' ⟨rfl,hle,R',Γ',E',s',hIk⟩;let⟨qs,hy,hqs⟩:=hI k Γ' hIk;let⟨⟨v,Yf,rfl,k1⟩,_⟩:=E'.ent i _ hy;let Yv:H' a∣(.lst (ps.map λp=>.ref p.2.1)):=by rw[k1.hd,roots qs hqs]
 by_cases Yq:k<ps.length
 ·let hk:(ps.map λp=>V.ref p.2.1)[k]?∣(.ref ps[k].2.1):=by rw[R6,RQ Yq];rfl
  refine .inr ⟨⟨_,_,bt.of Yv,hk⟩,λσ' H'=>k+1<=ps.length/\∃R' Γ',ar X.K σ' H0 R0 H' R' Γ'/\av R R'/\I (k+1) Γ',λσ2 H2 h=>⟨ps.length-(k+1),`a,rfl,h.1,h.2⟩,λv H2 hyl=>?_⟩;let⟨rfl,hyl⟩:=hyl;have:=hyl _ (bt.of Yv);rw[hk] at this;cases this
  refine hb σ' H0 R0 H2 R' Γ' _ ps[k].2.1 E' rfl _ λσ2 E2=>?_;exact Yk k ps[k] Γ' (RQ Yq) hIk σ2 H0 R0 H2 R' E2 _ (λσ3 H3 R3 Γ3 E3 s3 h3=>⟨Yq,R3,Γ3,E3,s'.trans s3,h3⟩) dr
 ·let e:k=ps.length:=`a
  subst e;exact .inl ⟨⟨_,bt.of Yv,by rw[RS];exact Uk _⟩,dn σ' H' R' Γ' E' s' (YB Γ' hIk)⟩
theorem bz.at_ {H:Hp}:∀{vs:`R}{xs:List PV}{f:Ro}{m:Nat}{y:PV},bz H vs xs f->xs[m]?∣y->∃v g,vs[m]?∣v/\cX H v y g
 | _,_,_,m,y,.nil,h=>by simp at h
 | _,_,_,0,y,.cons (x:=x0) q t,h=>by
   let e:x0=y:= ~~~h
   exact⟨_,_,rfl,e▸q⟩
 | _,_,_,m+1,y,.cons q t,h=>by
   let⟨v,g,h1,h2⟩:=bz.at_ (m:=m) t (~~~h);exact⟨v,g,by simpa using h1,h2⟩
theorem oN (i j:Nat){jc:Nat}{m:Nat}{y:PV}(hΓ:`X)(hj:Z[j]?∣.im dE q0.2.1)(hq:ps[n]?∣q0)(hy:q0.1[m]?∣y)(hl:kK y=true)(hN:autoParam (At X j x) bZ)(hs:dN (.Constant (.int (m:Int)) jc p2):=by exact λ_ _=>rfl):EV X (.Subscript `h (.Constant (.int (m:Int)) jc p2) pos) Z au y Z:=λσ H0 R0 H R E Q q=>by
 let⟨⟨v,ea,rfl,k⟩,hR⟩:=E.ent i _ hΓ;let⟨v0,e0,Y7⟩:=E.ent j _ hj;cases Y7
 cases (k.pt n q0 hq).1 with
 | @lst _ vs _ _ hb tt zz=>
 let⟨w,g,hw,tw⟩:=tt.at_ hy;refine eS (ir gU (aV hN) (aO (e:=.Constant (.int (m:Int)) jc p2)) hs) ⟨.ref q0.2.1,at_of e0,(ev_int (i:=(m:Int)) (X:=X) (Z:=Z)) σ H0 R0 H R E _ λu H2 R2 E2 s2 e2=>?_⟩;let⟨⟨v,Z4,rfl,k2⟩,Zu⟩:=E2.ent i _ hΓ;cases (k2.pt n q0 hq).1 with
 | @lst _ vs2 _ _ hb2 tt2 zz2=>
 let⟨w2,g2,hw2,tw2⟩:=tt2.at_ hy;refine⟨q0.2.1,vs2,(m:Int),w2,rfl,e2,bt.of hb2,?_,?_⟩
 ·let ml:=(RP.mp hw2).1;rw[gm `a `a,show((m:Nat):Int).toNat=m by cbv];exact hw2
 ·refine q w2 H2 R2 E2 s2 ?_;cases tw2 with
  | str x=>exact .str x
  | int z=>exact .int z
  | lst _ _ _=>cases hl
theorem pj (i j:Nat){y:PV}(he:EV X e Z au y Γ1)(hl:kK y=true)(hΓ:`X)(hj:Z[j]?∣.im dE q0.2.1)(hq:ps[n]?∣q0)(hΓ1:Γ1[i]?∣(.ob (bB a ps)))(hz:q0.1.length<UZ)(h:N (Γ1.set i (.ob (bB a (ps.set n (q0.1++[y],q0.2.1,q0.2.2))))))(hN:autoParam (At X j x) bZ)(Yc:U7 `y none pos.line X.env=pure false:=by rfl)(XN:eX X `h "append":=by rfl)(X4:l6 X cp [e]:=by rfl)(XM:`Y=true:=by rfl)(hs:dh X e []:=by rfl):W1 X (.Expr `y pos) Z N T:=λσ H0 R0 H R E D dn dr=>by
 let⟨⟨v,ea,rfl,k⟩,hR⟩:=E.ent i _ hΓ;let⟨v0,e0,Y7⟩:=E.ent j _ hj;cases Y7
 let⟨ys,b,g⟩:=q0;cases (k.pt n _ hq).1 with
 | @lst _ vs0 _ _ hb0 tt0 zz0=>
 refine sS (dO `ad Yc) ?_;refine⟨.ref b,at_of e0,.inl ⟨rfl,vs0,bt.of hb0⟩,he σ H0 R0 H R E _ λu H1 R1 E1 s1 r1=>?_⟩;let⟨⟨v,ea1,rfl,k1⟩,hR1⟩:=E1.ent i _ hΓ1;let⟨tq,ndq,naq⟩:=k1.pt n _ hq;cases tq with
 | @lst _ vs _ _ hb tt zz=>
 let⟨nb,ndg⟩:=Sn.mp ndq;refine⟨b,vs,u,rfl,rfl,hb,by rw[tt.len];exact hz,?_⟩;refine dn σ _ R1 _ (E1.Gh hΓ1 hq (ws:=vs++[u]) ?_ ndq λc hc=>.inl hc) s1 h;have:=bz.app (tt.loc (H':=L2.upd H1 b (.lst (vs++[u]))) λc hc=>aG λe=>nb (e▸hc)) (bz.cons (mW (H':=L2.upd H1 b (.lst (vs++[u]))) r1 hl) .nil);rw[Sl,Sl] at this;exact .lst aD this (by rw[RY,Sz];exact hz)
theorem lJ.put (k:lJ H a ps)(hn:ps[n]?∣q0)(hH:∀d∈a::eM ps,d∉cR q0->H' d=H d)(t:cX H' (.ref q0.2.1) (.lst ys) (cR q0)):lJ H' a (ps.set n (ys,q0.2.1,q0.2.2)):=by
 let nl:n<ps.length:=(RP.mp hn).1;let sp:∀(m:Nat)(q:PT),(ps.set n (ys,q0.2.1,q0.2.2))[m]?∣q->(m=n/\q=(ys,q0.2.1,q0.2.2))∨(m≠n/\ps[m]?∣q):=λm q h=>by
  by_cases e:n=m
  ·subst e;rw[R8 nl] at h;exact .inl ⟨rfl,(Option.some.inj h).symm⟩
  ·rw[Ss e] at h;exact .inr ⟨λz=>e z.symm,h⟩
 let fpe:∀(m:Nat)(q:PT),(ps.set n (ys,q0.2.1,q0.2.2))[m]?∣q->∃q',ps[m]?∣q'/\cR q=cR q':=λm q h=>by
  obtain⟨rfl,rfl⟩ | ⟨_,h⟩:=sp m q h
  ·exact⟨q0,hn,rfl⟩
  ·exact⟨q,h,rfl⟩
 refine⟨?_,λm q hq=>?_,λm1 m2 q1 q2 h1 h2 c c1 c2=>?_⟩
 ·rw[hH a RZ (k.pt n q0 hn).2.2,k.hd];congr 2;refine SV λm=>?_;rw[R6,R6];by_cases e:n=m
  ·subst e;rw[R8 nl,hn];rfl
  ·rw[Ss e]
 ·obtain⟨rfl,rfl⟩ | ⟨hm,hq⟩:=sp m q hq
  ·exact⟨t,(k.pt _ q0 hn).2⟩
  ·let⟨t1,t2,t3⟩:=k.pt m q hq;exact⟨t1.loc λc hc=>hH c (RX _ (bQ.mpr ⟨m,q,hq,hc⟩)) λw=>hm (k.dj m n q q0 hq hn c hc w),t2,t3⟩
 ·let⟨p1,e1,f1⟩:=fpe m1 q1 h1;let⟨p2,e2,f2⟩:=fpe m2 q2 h2;exact k.dj m1 m2 p1 p2 e1 e2 c (f1▸c1) (f2▸c2)
theorem z3 (hn:ps[n]?∣q0):∀b∈a::eM (ps.set n (ys,q0.2.1,q0.2.2)),b∈a::eM ps:=λb hb=>by
 obtain rfl | hb:=R9.mp hb
 ·exact RZ
 ·let⟨m,q,hq,hc⟩:=bQ.mp hb;refine RX _ (bQ.mpr ?_);by_cases e:n=m
  ·subst e;rw[R8 (RP.mp hn).1] at hq;cases Option.some.inj hq
   exact⟨n,q0,hn,hc⟩
  ·rw[Ss e] at hq;exact⟨m,q,hq,hc⟩
theorem Ext.keep {R':Hp}(x:Ext (gf H D) R H' R'){d:Addr}(hd:d∉D)(hn:H d≠none):H' d=H d:=by
 cases e:H d with
 | none=>exact Xt e hn
 | some o=>exact x.h d o (by rw[eP hd];exact e)
def Rep.at_ {α:Type}(r:Rep α)(y:α):Rep Unit:=⟨λK R v _=>r.R K R v y,λs h=>r.mono s h⟩
abbrev lN:=List (Str×Rep Unit)
abbrev hJ (fs:lN)(K:W7)(R:Hp)(vs:List (Str×V)):Prop:=PySem.Paired (λ(z:Str×V)(f:Str×Rep Unit)=>z.1=f.1/\f.2.R K R z.2 ()) vs fs
theorem hJ.mono {fs:lN}{R':Hp}{vs:List (Str×V)}(s:av R R')(h:hJ fs K R vs):hJ fs K R' vs:=Paired.map (λ_ f ⟨a,b⟩=>⟨a,f.2.mono s b⟩) h
noncomputable def qD:lN->Str->Option (Rep Unit)
 | [],_=>none
 | (g,x)::r,f=>if g=f then some x else qD r f
theorem hJ.get {f:Str}{r:Rep Unit}:∀{fs:lN}{vs:List (Str×V)},hJ fs K R vs->qD fs f∣r->∃v,vs.lookup f∣v/\r.R K R v ()
 | _,_,.nil,h=>by cases h
 | _,_,.cons (a:=z) (b:=p) h t,hg=>by
   let⟨g,x⟩:=p;let⟨g',v⟩:=z;let⟨e,hv⟩:=h;let e:g'=g:=e;subst e;rw[qD] at hg;rw[Td];by_cases q:g'=f
   ·rw[Xv q] at hg;cases hg;subst q
    exact⟨v,`d,hv⟩
   ·rw[Xu q] at hg;rw[show(f==g')=false from beq_eq_false_iff_ne.mpr λz=>q z.symm];exact hJ.get t hg
theorem hJ.put {f:Str}{r:Rep Unit}{v:V}(hv:r.R K R v ()):∀{fs:lN}{vs:List (Str×V)},hJ fs K R vs->qD fs f=none->hJ (fs++[(f,r)]) K R (gC f v vs)
 | _,_,.nil,_=>.cons ⟨rfl,hv⟩ .nil
 | _,_,.cons (a:=z) (b:=p) h t,hg=>by
   let⟨g,x⟩:=p;let⟨g',u⟩:=z;let⟨e,hu⟩:=h;let e:g'=g:=e;subst e;rw[qD] at hg;rw[gC];by_cases q:g'=f
   ·rw[Xv q] at hg;cases hg
   ·rw[Xu q] at hg ⊢;exact .cons ⟨rfl,hu⟩ (hJ.put hv t hg)
def jL (C:Addr):LK lN where
 bx l fs:=⟨l,λK H R v=>∃x dx vs,l=[x,dx]/\v= .ref x/\H x∣.ins C dx vs/\H dx∣.own x/\hJ fs K R vs/\x≠dx,λ{K H R0 H' R' v} e s ⟨x,dx,vs,el,ev,h1,h2,h3,nd⟩=>by
  subst el;exact⟨x,dx,vs,rfl,ev,(e x `d).trans h1,(e dx `d).trans h2,h3.mono s,nd⟩,λ{K H R0 v} ⟨x,dx,vs,el,ev,h1,h2,h3,nd⟩ a ha=>by
  subst el;obtain rfl | ha:=R9.mp ha
  ·rw[h1];exact UL _
  ·rw[RU.mp ha,h2];exact UL _⟩
 fp:=λ_ _=>rfl
 at_:=λ⟨x,dx,vs,el,ev,_⟩=>⟨x,[dx],el,ev⟩
variable {f C:Addr}{ns:Rm}{P:U4}{w:World}{mg:Rj}{base:Heap}{fd:U8}{rr:Rep α}{z:α}
theorem DO {x dx:Addr}{fs:lN}{o:Option V}(h:(Ent.ob ((jL C).bx [x,dx] fs)).ok K H R o):o∣.ref x/\wF R [x,dx]/\∃vs,H x∣.ins C dx vs/\H dx∣.own x/\hJ fs K R vs/\x≠dx:=by
 let⟨e,hB,hR⟩:=BM (B:=jL C) h;let⟨x',dx',vs,el,ev,h1,h2,h3,nd⟩:=hB;cases el
 exact⟨e,hR,vs,h1,h2,h3,nd⟩
theorem nU (i:Nat){m f:Str}{x dx:Addr}{fs:lN}{y:α}(hC:bM X.K C ns)(hf:f∈ns)(hΓ:Z[i]?∣(.ob ((jL C).bx [x,dx] fs)))(h:qD fs f∣r.at_ y)(hN:autoParam (At X i m) bZ)(hb:eX X (.Name m p1) f:=by rfl):EV X (.Attribute (.Name m p1) f pos) Z r y Z:=λσ H0 R0 H R E Q q=>by
 let⟨ea,hR,vs,h1,h2,h3,nd⟩:=DO (E.ent i _ hΓ);let⟨v,hl,ZZ⟩:=h3.get h;exact eS (xh (aV hN) hb) ⟨.ref x,at_of ea,x,C,dx,vs,v,rfl,h1,hC.cl,hC.no f hf,hl,q v H R E `S ZZ⟩
theorem jd (i:Nat){m f:Str}{x dx:Addr}{fs:lN}{y:α}(hC:bM X.K C ns)(hf:f∈ns)(he:EV X e Z r y Γ1)(hΓ1:Γ1[i]?∣(.ob ((jL C).bx [x,dx] fs)))(h:qD fs f=none)(hz:fs.length<1000)(hn:N (Γ1.set i (.ob ((jL C).bx [x,dx] (fs++[(f,r.at_ y)])))))(hN:autoParam (At X i m) bZ)(Yc:U7 e (some (.Attribute (.Name m p1) f ap)) pos.line X.env=pure false:=by rfl):W1 X (.Assign [.Attribute (.Name m p1) f ap] e pos) Z N T:=λσ H0 R0 H R E D dn dr=>
 sS (KW (aV hN) aO Yc) (he σ H0 R0 H R E _ λv H1 R1 E1 s1 e1=>by
  let⟨ea,hR,vs,h1,h2,h3,nd⟩:=DO (E1.ent i _ hΓ1);refine⟨.ref x,at_of ea,x,C,dx,vs,rfl,h1,hC.cl,hC.no f hf,by rw[h3.length];exact hz,?_⟩;refine dn σ _ R1 _ (E1.lF (en:=.ob ((jL C).bx [x,dx] (fs++[(f,r.at_ y)]))) hΓ1 (a:=x) (by show x∈[x,dx];simp) ?_ λb hb=>.inl hb) s1 hn;rw[ea];exact B2 (B:=jL C) ⟨x,dx,_,rfl,rfl,aD,by rw[aG (UJ nd)];exact h2,hJ.put (r:=r.at_ y) e1 h3 h,nd⟩ hR)
abbrev Cf:=W7->Addr->List Pk->(lN->Prop)->Prop
def zc (S:Cf)(K:W7):Sp:=λvs H Q _=>∃R x dx C Yg ps Pd,vs= .ref x::Yg/\av R H/\wF R [x,dx]/\((jL C).bx [x,dx] []).R K H R (.ref x)/\mq K R Yg ps/\S K C ps Pd/\
 ∀H' R' fs,Ext (gf H [x,dx]) R H' R'->((jL C).bx [x,dx] fs).R K H' R' (.ref x)->wF R' [x,dx]->Pd fs->Q .XT H'
theorem Dq {S:Cf}{qual:Str}{N ps:Rm}{k:Nat}(F:dI K x qual st f fd)(Sc:bE N ps (ao st))(len:∀C qs Pd,S K C qs Pd->qs.length+1=ps.length)(X2:∀(XH:`aM)(A:U6)(outer:List Env)(s:U0)(H:Hp)(E:XK)(C a dx:Addr)(qs:List Pk)(Pd:lN->Prop),bG k `ap->S K C qs Pd->
  WS (eK eo P w K mg base N qual (ao st) f XH A outer s H E).gF (bD st) (.ob ((jL C).bx [a,dx] [])::fW qs (N.length-1)) (λZ=>∃fs,Z[0]?∣(.ob ((jL C).bx [a,dx] fs))/\Pd fs) (λ_ _ _ _=>False)):fb P w K mg base eo (k+1) f fd ps (zc S K):=by
 refine F.ok Sc (λvs H Q E h=>?_) `af
 ·let⟨R,a,dx,C,Yg,qs,Pd,rfl,_,_,_,p,hS,_⟩:=h;rw[Sb,p.length];exact len C qs Pd hS
 ·let⟨R,a,dx,C,Yg,qs,Pd,rfl,sR,hR,hB,p,hS,q⟩:=h;let hl:qs.length+1<=N.length:=by
   rw[len C qs Pd hS];have:=congrArg List.length Sc.pre;rw[Sm] at this;cbv
  refine⟨_,iM,X2 XH A outer s H E C a dx qs Pd hr hS (L2.start N (.ref a::Yg)) (gf H [a,dx]) R H R (Bm (B:=jL C) sR hR hB p hl) {nx:=λ_ H'=>Q .XT H',rt:=Q} (λσ' H' R' Γ' E' _ ⟨fs,hΓ,t⟩=>?_) λv H' R' xx t=>t.elim⟩;let⟨ea,hB',Yj⟩:=BM (B:=jL C) (E'.ent 0 _ hΓ);exact q H' R' fs E'.ext hB' Yj t
theorem zD {S:Cf}{c:Str}{k:Nat}{p:Pos}{ps:List Pk}{Pd:lN->Prop}{pn:Rm}(M:Mk X.K C f)(F:fb X.prog X.w X.K X.mg X.base eo k f fd pn (zc S X.K))(hr:bG (k+1) X.A)(hm:X.mg c∣.ref C)(hb:Binds X.K fd pn [])(ha:HA X (e::es) Z ps Γ1)(hS:S X.K C ps Pd)(hz:∀(fs:lN)(R:Hp)(x dx:Addr)(vs:List (Str×V)),Pd fs->hJ fs X.K R vs->R x∣.ins C dx vs->rr.R X.K R (.ref x) z)(hg:Gl X c:=by rfl)(Yd:Yz c:=by decide)(he:dh X e es:=by rfl)(X1:fo X pos es:=by rfl):
 EV X (.Call (.Name c p) (e::es) [] pos) Z rr z Γ1:=λσ H0 R0 H R E Q q=>
 eS (Hz M F hr hg hm hb .nil kH nj Yd he X1) (ha σ H0 R0 H R E _ λvs H1 R1 E1 s1 p1 x dx hx hdx XS=>by
  let hd1:∀b,gf (upd (upd H1 dx (.own x)) x (.ins C dx [])) [x,dx] b=H1 b:=λb=>by
   by_cases hb:b∈[x,dx]
   ·rw[kM hb];obtain rfl | hb:=R9.mp hb
    ·exact hx.symm
    ·rw[RU.mp hb];exact hdx.symm
   ·rw[eP hb];simp at hb;rw[aG hb.1,aG hb.2]
  let hR:wF R1 [x,dx]:=λb hb=>by
   obtain rfl | hb:=R9.mp hb
   ·exact E1.sub.free hx
   ·rw[RU.mp hb];exact E1.sub.free hdx
  refine⟨R1,x,dx,C,vs,ps,Pd,by rw[Sl],λb o q=>?_,hR,⟨x,dx,[],rfl,rfl,aD,by rw[aG XS,aD],.nil,UJ XS⟩,p1,hS,λH' R' fs xx hB Yj hP=>⟨rfl,?_⟩⟩
  ·let b1:b≠x:=λe=>by rw[e,hR x `d] at q;cases q
   let b2:b≠dx:=λe=>by rw[e,hR dx `d] at q;cases q
   rw[aG b1,aG b2];exact E1.sub b o q
  ·rw[show gf (upd (upd H1 dx (.own x)) x (.ins C dx [])) [x,dx]=H1 from funext hd1] at xx;let⟨x',dx',ws,el,ev,h1,h2,h3,nd⟩:=hB;cases el
   let E2:=E1.grow xx;let E3:=E2.rY h2 (Yj dx `d) (E1.ext.h.free hdx) (E1.off hdx);let sd:av R' (upd R' dx (.own x)):=av.fresh (Yj dx `d) _;let hRx:upd R' dx (.own x) x=none:=by rw[aG nd];exact Yj x `d
   let E4:=E3.rY h1 hRx (E1.ext.h.free hx) (E1.off hx);let sx:=sd.trans (av.fresh hRx (.ins C dx ws));exact q (.ref x) H' _ E4 ((s1.trans xx.r).trans sx) (hz fs _ x dx ws hP (h3.mono sx) aD))
theorem kI {f:Str}{r:Rep β}{y:β}(hC:bM X.K C ns)(hf:f∈ns)(he:EV X e Z rr z Γ1)(hz:∀(K:W7)(R:Hp)(v:V),rr.R K R v z->∃x dx vs u,v= .ref x/\R x∣.ins C dx vs/\vs.lookup f∣u/\r.R K R u y)(hb:eX X e f:=by rfl):EV X (.Attribute e f pos) Z r y Γ1:=λσ H0 R0 H R E Q q=>
 eS (xh aO hb) (he σ H0 R0 H R E _ λv H1 R1 E1 s1 e1=>by
  let⟨x,dx,vs,u,rfl,h1,h2,h3⟩:=hz _ _ _ e1;exact⟨x,C,dx,vs,u,rfl,E1.sub _ _ h1,hC.cl,hC.no f hf,h2,q u H1 R1 E1 s1 h3⟩)
variable {Q:`s}{prog:U4}{A:U6}{E:`s}{s:U0}
theorem xN:∀{ws:Rm}{XF:Rp},Vals (ws.map V.str) XF->∃l:List (Str×Tok),XF=V1 l/\l.map (·.1)=ws
 | [],_,.nil=>⟨[],rfl,rfl⟩
 | w::ws,_,.cons h t=>by
   let⟨k,rfl⟩:=h;let⟨l,rfl,e⟩:=xN t;exact⟨(w,k)::l,rfl,by rw[Sx,e]⟩
theorem wC:∀(l:List (Str×Tok)),Vals ((l.map (·.1)).map V.str) (V1 l)
 | []=>.nil
 | (w,k)::l=>.cons ⟨k,rfl⟩ (wC l)
theorem Jp:z9 X "str.join" (λx xs H Q=>∃(z:Str)(a:Addr)(ws:Rm),x= .str z/\xs=[.ref a]/\H a∣(.lst (ws.map V.str))/\JoinOk z ws=true/\Q (.str (Txt.join z ws)) H):=by
 intro XD s σ H x xs v us Q I rx r h;let⟨z,a,ws,rfl,rfl,hH,XJ,q⟩:=h;let⟨t,rfl⟩:=rx;let⟨u,rfl,ru⟩:=r.one;cases ru
 let⟨hz,XF,n,r1,hl,e⟩:=I.nY hH;let⟨l,rfl,el⟩:=xN r1;exact PySem.SC.join ⟨_,e,rfl,_,rfl⟩ el XJ λt' k=>⟨.str _,H,I.tok _,⟨_,rfl⟩,q⟩
theorem BW {t u:Tok}(hy:(y.length==0)=false)(hsz:x.length<=UZ)(hsz2:(WY x y).length<=UZ)(hq:∀(l:List (Str×Tok))(k:Nat)(n:Nat),l.map (·.1)=WY x y->Q (.ref ⇑s) {s with toks:=k,heap:=s.heap.push {cls:=.type "list",data:=.seq (V1 l).toArray n}}):
 wpAny `t A (call (.builtin "str.split") [.str x t,.str y u]) Q E s:=by
 cases h1:(decide (x.length<y.length) ||decide (Builtin.Str.strKind x<Builtin.Str.strKind y))
 ·cases hf:(Wn x y 0 x.length (x.length+1)).isEmpty
  ·let es:WY x y=Builtin.Str.partsBetween x (Wn x y 0 x.length (x.length+1)) y.length:=(Xu (ne_true_of_eq_false h1)).trans (Xu (ne_true_of_eq_false hf));refine Vy WA (VL _ _ _) Wz (Wy _ _) (meets_str_split_sep x y t u h1 hy hf hsz (by rw[← es];exact hsz2)) ?_;show wants Q E _ {s with toks:=_,heap:=s.heap.push {cls:=.type "list",data:=.seq (strsFrom s.toks (Builtin.Str.partsBetween x (Wn x y 0 x.length (x.length+1)) y.length)).toArray}};rw[strsFrom_eq];exact hq (numbered s.toks _) _ _ ((numbered_texts _ _).trans es.symm)
  ·exact Vy WA (VL _ _ _) Wz (Wy _ _) (meets_str_split_not_found x y t u h1 hy hf)
    (hq [(x,t)] s.toks _ ((Xu (ne_true_of_eq_false h1)).trans (Xv hf)).symm)
 ·exact Vy WA (VL _ _ _) Wz (Wy _ _) (meets_str_split_cannot_occur x y t u h1)
   (hq [(x,t)] s.toks _ (Xv h1).symm)
theorem FN:z9 X "str.split" (λx xs H Q=>∃z y:Str,x= .str z/\xs=[.str y]/\(y.length==0)=false/\z.length<=UZ/\(WY z y).length<=UZ/\∀a,H a=none->Q (.ref a) (upd H a (.lst ((WY z y).map V.str)))):=by
 intro XD s σ H x xs v us Q I rx r h;let⟨z,y,rfl,rfl,hy,hz,hz2,q⟩:=h;let⟨t,rfl⟩:=rx;let⟨u,rfl,ru⟩:=r.one;let⟨tu,rfl⟩:=ru;refine BW hy hz hz2 λl k n el=>?_;let I1:Inv X XD σ H {s with toks:=k,heap:=s.heap.push {cls:=.type "list",data:=.seq (V1 l).toArray n}}:=I.kept (t':=k) λb o e=>WC _ e;let hn:H ⇑s=none:=I.fresh;refine⟨.ref ⇑s,_,adopt (o:=.lst ((WY z y).map V.str)) I1 (I.ka (Uk _) hn) I.sz ⟨?_,V1 l,n,?_,WG _ rfl⟩,rfl,q _ hn⟩
 ·rw[RS];exact hz2
 ·rw[← el];exact wC l
theorem Ip {a:Expr}{ws:Rm}(ha:EV X a Z aq x Γ1)(he:EV X e Γ1 (ae aq) ws Γ2)(XJ:JoinOk x ws=true)(XN:eX X a "join":=by rfl)(X4:l6 X cp [e]:=by rfl)(XM:`Y=true:=by rfl)(hs:dh X e []:=by rfl):EV X (.Call (.Attribute a "join" ap) [e] [] cp) Z aq (Txt.join x ws) Γ2:=by
 intro σ H0 R0 H R E Q q;refine eS (gT PySem.F.plainAttrs_str PySem.F.slot_str_join PySem.F.type_str_join Jp aO (aI aO bq hs) XN X4 XM hs rfl) `A;cases e1
 refine⟨rfl,he σ H0 R0 H1 R1 E1 _ λu H2 R2 E2 s2 e2=>?_⟩;let⟨b,vs,rfl,hb,pp,hz⟩:=e2;let ev:=mJ pp;subst ev;exact⟨x,b,ws,rfl,rfl,E2.sub _ _ hb,XJ,q _ H2 R2 E2 `E rfl⟩
theorem qA {K:W7}{R:Hp}:∀ws:Rm,PySem.Paired (aq.R K R) (ws.map V.str) ws
 | []=>.nil
 | _::r=>.cons rfl (qA r)
theorem Cm {a:Expr}(ha:EV X a Z aq x Γ1)(he:EV X e Γ1 aq y Γ2)(hy:(y.length==0)=false)(hz:x.length<=UZ)(hz2:(WY x y).length<=UZ)(XN:eX X a "split":=by rfl)(X4:l6 X cp [e]:=by rfl)(XM:`Y=true:=by rfl)(hs:dh X e []:=by rfl):aZ X (.Call (.Attribute a "split" ap) [e] [] cp) Z aq (WY x y) Γ2:=by
 intro σ H0 R0 H R E Q q;refine eS (gT PySem.F.plainAttrs_str PySem.F.slot_str_split PySem.F.type_str_split FN aO (aI aO bq hs) XN X4 XM hs rfl) `A;cases e1
 refine⟨rfl,he σ H0 R0 H1 R1 E1 _ λu H2 R2 E2 s2 e2=>?_⟩;cases e2
 exact⟨x,y,rfl,rfl,hy,hz,hz2,λd hd=>q d _ _ R2 (E2.grow (Ext.d6 E2.sub hd _)) `E aD (E2.sub.free hd) (E2.ext.h.free hd) (E2.off hd) (qA _) hz2⟩
variable {c:Nat}
theorem xV {c:Nat}:∀{a b x y:List Nat},c∉a->c∉b->a++c::x=b++c::y->a=b/\x=y
 | [],[],_,_,_,_,h=>⟨rfl,(List.cons.inj h).2⟩
 | [],d::b,_,_,_,hb,h=>Xt (List.cons.inj h).1 (λe=>hb (e▸RZ))
 | d::a,[],_,_,ha,_,h=>Xt (List.cons.inj h).1 (λe=>ha (e▸RZ))
 | d::a,e::b,x,y,ha,hb,h=>by
   let⟨h1,h2⟩:=List.cons.inj h;let⟨q1,q2⟩:=xV (λz=>ha (RX _ z)) (λz=>hb (RX _ z)) h2;exact⟨by rw[h1,q1],q2⟩
theorem wx {a b y:List Nat}(ha:c∉a)(h:a=b++c::y):False:=ha (by rw[h];exact Sa _ RZ)
theorem yJ (x y:Str):(x++y).cps.toList=x.cps.toList++y.cps.toList:=by show(x.cps++y.cps).toList=_;simp
theorem nZ (c:Nat)(x y:Str)(r:Rm):(WW ⟨#[c]⟩ (x::y::r)).cps.toList=x.cps.toList++c::(WW ⟨#[c]⟩ (y::r)).cps.toList:=by
 rw[WW,yJ,yJ];simp;intro h;cases h
theorem Ae (h:x.cps.toList=y.cps.toList):x=y:=by
 cases x;cases y
 congr 1;exact Array.toList_inj.mp h
theorem wm {c:Nat}:∀{ws us:Rm},ws≠[]->us≠[]->(∀w∈ws,c∉w.cps.toList)->(∀u∈us,c∉u.cps.toList)->(WW ⟨#[c]⟩ ws).cps.toList=(WW ⟨#[c]⟩ us).cps.toList->ws=us
 | [],_,h,_,_,_,_=>Xt rfl h
 | _,[],_,h,_,_,_=>Xt rfl h
 | [x],[y],_,_,_,_,h=>by rw[show x=y from Ae h]
 | [x],y::z::r,_,_,hx,_,h=>by
   rw[nZ] at h;exact Xt h λh=>wx (hx x RZ) h
 | x::z::r,[y],_,_,_,hy,h=>by
   rw[nZ] at h;exact Xt h.symm λh=>wx (hy y RZ) h
 | x::x2::r,y::y2::q,_,_,hx,hy,h=>by
   rw[nZ,nZ] at h;let⟨h1,h2⟩:=xV (hx x RZ) (hy y RZ) h;rw[Ae h1,wm (List.cons_ne_nil _ _) (List.cons_ne_nil _ _) (λw hw=>hx w (RX _ hw)) (λw hw=>hy w (RX _ hw)) h2]
theorem Ao {ws:Rm}(h:ws≠[])(hf:∀w∈ws,c∉w.cps.toList):WY (WW ⟨#[c]⟩ ws) ⟨#[c]⟩=ws:=by
 refine wm (c:=c) (λe=>?_) h (StrLaws.split_free _ c) hf (by rw[StrLaws.join_split]);have:=split_pos (WW ⟨#[c]⟩ ws) ⟨#[c]⟩;rw[e] at this;exact Xt this `c
theorem FV:(" ":Str)=⟨#[32]⟩:=`b
theorem yF (x:Str)(ws:Rm):Txt.join x ws=WW x ws:=StrLaws.glued_eq_join x ws
def O9 (x:Str):It:=⟨λi _=>i<x.cps.size,λi H v H'=>H'=H/\v= .str (mz x i),λi _=>x.cps.size<=i⟩
theorem EL (x:Str)(t:Tok)(it:Addr):Turn P w K tg (O9 x) [it] it (λi h=>h.IsStrIter it "str_ascii_iterator" x t i) where
 mem:=`d
 obj:=λi h st b hb=>by
  let e:b=it:= ~~~hb
  subst e;let⟨o,e,c,d⟩:=st;exact⟨o,e,λv z=>by rw[d] at z;cases z⟩
 keep:=λi h h' st k=>by
  let⟨o,e,r⟩:=st;exact⟨o,k it `d o e,r⟩
 item:=by
  intro X hP hw hK hc i XD s σ H E I hf st hg;subst hP hw hK;let⟨f0,f1,f2,f3,f4,f5⟩:=hf it `d;let W:=Walks.strAscii (prog:=X.prog) (w:=X.w) (I.ok.hd hc) it x t;refine W.item i s _ _ hg st λv h' tk hv Zf kk=>?_;let⟨c,u,hx,rfl⟩:=hv;let I1:Inv X XD σ H {s with heap:=h',toks:=tk}:=I.turned (λb o hb e=>kk b o (~~~hb) e) f0 f1 f3 f4 f5;let⟨o,e,cc,d⟩:=id Zf;let ZF:mz x i=⟨#[c]⟩:=by unfold mz;rw[show x.cps.getD i 0=c by rw[Array.getD_eq_getD_getElem?,hx];rfl]
  exact⟨_,rfl,pK (s:={s with heap:=h',toks:=tk}) e cc d `c ⟨.str (mz x i),H,I1,⟨u,by rw[ZF]⟩,⟨rfl,rfl⟩,Zf,λb hb=>(hf b hb).1⟩⟩
 done:=by
  intro X hP hw hK hc i XD s σ H E I hf st hg;subst hP hw hK;let⟨f0,f1,f2,f3,f4,f5⟩:=hf it `d;exact wpAny_pyNext_ascii_end (I.ok.hd hc) st (by have:x.cps.size<=i:=hg;simp[this]) λh' eb=>⟨rfl,I.turned (t':=s.toks) (λb o hb e=>eb b o hb e) f0 f1 f3 f4 f5⟩
 self:=λ_ _ _ _ _ st h=>wpAny_pyIter_striter_ascii st h
def Q1 (tl:TE):TI:=λσ H R=>tl σ H λx H1=>∃z:Str,x= .str z/\z.cps.all (· < 128)=true/\R (O9 z) H1
theorem Lb {l:Expr}{tl:TE}(hl:PE X l tl):PI X tg l (Q1 tl):=by
 intro XD s σ H R I h;refine a8 (hl XD s σ H _ I h) λv s1 ⟨x,H1,I1,r1,q1⟩=>?_;let⟨z,e,ha,q⟩:=q1;subst e;let⟨t,rfl⟩:=r1;refine wpAny_pyIter_ascii ha ?_;refine⟨⇑s1,[⇑s1],_,_,H1,rfl,I1.kept (t':=s1.toks) λb o e=>WC _ e,EL z t _,⟨_,WG _ rfl,rfl,rfl⟩,λb hb=>?_,q⟩;let e:b=⇑s1:= ~~~hb
 subst e;exact I1.ka (Uk _) (I1.XJ.fresh (Uk _))
noncomputable def iC (x:Str):Rm:=(Sd x.cps.size).map (mz x)
theorem C6 {a:Expr}(ha:EV X a Z aq x Γ1)(hx:x.cps.all (· < 128)=true)(hz:x.cps.size<=UZ):IV X tg a Z aq (iC x) Γ1:=by
 refine⟨_,Lb aO,λσ H0 R0 H R E Rq q=>ha σ H0 R0 H R E _ λv H1 R1 E1 s1 e1=>?_⟩;cases e1
 refine⟨x,rfl,hx,q _ H1 R1 E1 s1 (by unfold iC;rw[RS,SN];exact hz) λH' R' sR sH i=>⟨λy hy=>?_,λhi=>?_⟩⟩
 ·unfold iC at hy;rw[R6] at hy;let⟨j,hj,rfl⟩:=UK.mp hy;let⟨hl,e⟩:=RP.mp hj;rw[SN] at hl;rw[List.getElem_range] at e;subst e;refine⟨hl,λv' H2 hy=>?_⟩;let⟨rfl,rfl⟩:=hy;exact⟨R',Ext.refl sH,rfl⟩
 ·unfold iC at hi;rw[RS,SN] at hi;exact hi
theorem oR {y:α}(he:EV X e Z r y Γ1)(h:N Γ1)(Yc:U7 e none pos.line X.env=pure false:=by rfl):W1 X (.Expr e pos) Z N T:=λσ H0 R0 H R E D dn dr=>
 sS (dO aO Yc) (he σ H0 R0 H R E _ λv H1 R1 E1 s1 e1=>dn σ H1 R1 _ E1 s1 h)
theorem CK (i:Nat){a c:Int}(he:EV X e Z ag c Z)(hΓ:Z[i]?∣.im ag a)(h:N (Z.set i (.im ag (a+c))))(hN:X.N.Nodup:=by first | assumption | decide)(hi:X.N[i]?∣x:=by rfl)(hx:`ai)(hf:autoParam (fM X x) YI):
 W1 X (.AugAssign `h .Add e pos) Z N T:=λσ H0 R0 H R E D dn dr=>by
 let⟨v,ea,hr⟩:=E.ent i _ hΓ;cases (show v=V.int a from hr)
 refine sS (MC hN hi hx aO KZ hf) ⟨.int a,at_of ea,he σ H0 R0 H R E _ λu H2 R2 E2 s2 e2=>?_⟩;cases (show u=V.int c from e2)
 exact⟨a,c,rfl,rfl,dn _ H2 R2 _ (E2.set i (r:=ag) (x:=a+c) rfl) s2 h⟩
theorem IC {r':Rep β}{xs:`u}{ys:List β}(hij:i≠j)(hΓ:`aC)(hj:Z[j]?∣.mu r' ys)(hz:xs.length<=UZ)(hz':ys.length<=UZ)(σ:St)(H0 R0 H R:Hp)(E:`aF):ar X.K σ H H H H (((Z.map lX).set i (.im (ae r) xs)).set j (.im (ae r') ys)):=by
 let⟨a,vs,ea,ha,hR,pp⟩:=E.ent i _ hΓ;let⟨b,ws,eb,hb,hRb,pq⟩:=E.ent j _ hj;let E1:=E.Yu.kB (i:=i) (e0:=.no) (en:=.im (ae r) xs) (by rw[R6,hΓ];rfl) ⟨.ref a,ea,a,vs,rfl,ha,Paired.map (λ_ _=>r.mono E.sub) pp,hz⟩ λb w=>by cases w
 exact E1.kB (i:=j) (e0:=.no) (by rw[Ss hij,R6,hj];rfl) ⟨.ref b,eb,b,ws,rfl,hb,Paired.map (λ_ _=>r'.mono E.sub) pq,hz'⟩ λb w=>by cases w
theorem BL:fk X (Vb .LtE) (λx y H Q=>∃i j,x= .str i/\y= .str j/\Q (.bl (!decide (j.cps.toList<i.cps.toList))) H):=by
 intro XD s σ H x y v u Q I rx ry h;let⟨i,j,rfl,rfl,q⟩:=h;let⟨t,rfl⟩:=rx;let⟨t',rfl⟩:=ry;exact PySem.P.le_str (bS I q rfl)
theorem Gf :iY X .LtE aq aq x y (!decide (y.cps.toList<x.cps.toList)):=⟨_,BL,λR H v u Q _ e1 e2 q=>by
 cases e1;cases e2
 exact⟨x,y,rfl,rfl,q⟩⟩
theorem Ci {xs:Rm}:iY X .NotIn aq (ae aq) x xs (!decide (x∈xs)):=⟨_,xt,λR H v u Q s e1 e2 q=>by
 cases e1
 let⟨a,vs,rfl,hq,p,_⟩:=e2;let e:=mJ p;subst e;exact⟨a,_,rfl,.inl (bt.of (s _ _ hq)),rfl,lZ xs,by rw[Xv rfl,nV];exact q⟩⟩
theorem xK {xs:`u}(h:EV X e Z (ae r) xs Γ1)(he:∀whole,VA e X.env whole=(do let v ← whole;VG e.pos;Vk [v] (truthy v)):=by intro _;rfl):TV X e Z (!xs.isEmpty) Γ1:=by
 intro σ H0 R0 H R E Q q;refine tS (x6 aO he) (h σ H0 R0 H R E _ λv H1 R1 E1 s1 e1=>?_);let⟨a,vs,rfl,ha,pp,_⟩:=e1;refine⟨!xs.isEmpty,.inl ⟨vs,bt.of (E1.sub _ _ ha),?_⟩,q H1 R1 E1 s1⟩;cases pp<;>rfl
theorem xu {α:Type}(l:`u):∀m,m<=l.length->(Sd m).filterMap (l[·]?)=l.take m
 | 0,_=>rfl
 | m+1,h=>by
   rw[Tf,List.filterMap_append,xu l m `a,SG];simp[RQ (show m<l.length by cbv)]
def iH (x:Str):Str:=⟨(x.cps.toList.take 7).toArray⟩
theorem QP:∀n,n<=8->Builtin.Str.strSliceIndices none (some 7) 1 n=Sd (min n 7):=by
 intro n hn;have:∀j:Fin 9,Builtin.Str.strSliceIndices none (some 7) 1 j.val=Sd (min j.val 7):=`b
 exact this ⟨n,`a⟩
theorem Nk (hx:x.length<=8):((Sd (min x.length 7)).filterMap (x.cps[·]?)).toArray=(x.cps.toList.take 7).toArray:=by
 let hl:x.cps.toList.length=x.length:=by simp[Str.length]
 let e:(Sd (min x.length 7)).filterMap (x.cps[·]?)=(Sd (min x.length 7)).filterMap (x.cps.toList[·]?):=by
  congr 1;funext i;simp
 rw[e,xu _ _ `a];congr 1;by_cases h:x.length<=7
 ·rw[Nat.min_eq_left h,← hl,SK,Tg `a]
 ·rw[Nat.min_eq_right `a]
def QU:V->Option Int->Option Int->Hp->VK->Prop:=λx lo hi H Q=>∃z:Str,x= .str z/\lo=none/\hi∣7/\z.length<=8/\Q (.str (iH z)) H
theorem Q3 :BQ X QU:=by
 intro XD s σ H x v vl vu lo hi sl Q I rx hs pl pu h;let⟨z,rfl,rfl,rfl,hz,q⟩:=h;let⟨t,rfl⟩:=rx;cases pl
 cases pu with
 | int _ tu=>
   refine⟨"str",_,PySem.F.slot_str_getitem.lookup,VL _ _ _,wpAny_getItem_str_slice (l:=none) (u:=some (7,tu)) (st:=none) hs rfl ?_⟩;let e:slicePicked z none (some (7,tu)) none=Sd (min z.length 7):=QP z.length hz;unfold sliceMade;rw[e,SN];split
   ·rename_i hh;let hl:min z.length 7=z.length:= ~~~hh
    let hp:iH z=z:=by
     unfold iH;rw[Tg (by simp[Str.length] at hl ⊢;cbv)]
    rw[hp] at q;exact⟨.str z,H,I,⟨t,rfl⟩,q⟩
   ·rw[Nk hz];refine⟨?_,.str (iH z),H,I.tok _,⟨_,rfl⟩,q⟩;show(List.take 7 z.cps.toList).toArray.size<=UZ;rw[Si,Sm];exact Um (Uz _ _) `c
theorem Mx {a:Expr}(ha:EV X a Z aq x Z)(hx:x.length<=8):EV X (.Subscript a (.Slice none (some (.Constant (.int 7) j p1)) none p2) pos) Z aq (iH x) Z:=by
 intro σ H0 R0 H R E Q q;let⟨tl,pl,kl⟩:=(ov_none:OV X none Z none);let⟨th,ph,kh⟩:=(ov_some ev_int:OV X (some (.Constant (.int 7) j p1)) Z (some 7));refine eS (lT Q3 aO pl ph) `G;cases e1
 exact⟨x,rfl,rfl,rfl,hx,q _ _ _ E3 (s1.trans (s2.trans s3)) rfl⟩
theorem pV (i:Nat)(h:N (Z.set i (.di [])))(hN:X.N.Nodup:=by first | assumption | decide)(hi:X.N[i]?∣x:=by rfl)(hx:`ai)(hs:U7 (.Dict [] [] p2) (some `h) pos.line X.env=pure false:=by rfl)(hf:autoParam (fM X x) YI):
 W1 X (.Assign [.Name x p1] (.Dict [] [] p2) pos) Z N T:=λσ H0 R0 H R E D dn dr=>by
 refine sS (j8 hN hi hx EM hs hf) λp hp=>?_;let E1:=E.grow (Ext.d6 E.sub hp (.dK (cS [])));exact dn _ _ R _ (E1.xy (u:=.dK (cS [])) (en:=.di []) i ⟨p,rfl,aD,E.sub.free hp⟩ (E.ext.h.free hp) λj e _ q w=>E.off hp j e q w) `S h
theorem yb {R:Hp}:∀{xs:Rm}{vs:`R},eY R vs (xs.map PV.str)->vs=xs.map V.str
 | [],_,.nil=>rfl
 | x::xs,_,.cons h t=>by cases h;rw[yb t];rfl
theorem Ak {k:Nat}{xs:Rm}(h:EA X es Z au (xs.map PV.str) Γ1)(hz:xs.length<=UZ):EV X (.Tuple es k pos) Z xq xs Γ1:=
 EV.re (fR h (by rw[RS];exact hz)) λK R v e=>by
   cases e with
   | tup hp pp=>rw[yb pp] at hp;exact⟨_,rfl,d7.of hp⟩
def Ge (lo:Int)(n:Nat):It:=⟨λi _=>i<n,λi H x H'=>H'=H/\x= .int (lo-i),λi _=>n<=i⟩
theorem D1 (it:Addr)(lo:Int)(n:Nat):Turn P w K tg (Ge lo n) [it] it (λi h=>V2 h it (lo+(i:Nat)*(-1)) ((n:Int)-(i:Nat)) (-1)) where
 mem:=`d
 obj:=λi h st b hb=>by
  let e:b=it:= ~~~hb
  subst e;exact⟨_,st,λv z=>by
   let z':Data.fields _=Data.cell v:=z;cases z'⟩
 keep:=λi h h' st k=>k it `d _ st
 item:=by
  intro X hP hw hK hc i XD s σ H E I hf st hg;subst hP hw hK;let⟨f0,f1,f2,f3,f4,f5⟩:=hf it `d;let W:=Walks.range (prog:=X.prog) (w:=X.w) (I.ok.hd hc) it lo (-1) n;refine W.item i s _ _ hg st λv h' tk hv Zf kk=>?_;let⟨t,rfl⟩:=hv;let I1:Inv X XD σ H {s with heap:=h',toks:=tk}:=I.turned (λb o hb e=>kk b o (~~~hb) e) f0 f1 f3 f4 f5;refine⟨_,rfl,pK (s:={s with heap:=h',toks:=tk}) (n:="range_iterator") Zf rfl rfl `c ⟨.int (lo-i),H,I1,⟨t,?_⟩,⟨rfl,rfl⟩,Zf,λb hb=>(hf b hb).1⟩⟩;rw[show lo+(i:Int)*(-1)=lo-(i:Int) by cbv]
 done:=by
  intro X hP hw hK hc i XD s σ H E I hf st hg;subst hP hw hK;let⟨f0,f1,f2,f3,f4,f5⟩:=hf it `d;exact wpAny_pyNext_range_end (I.ok.hd hc) st (by have:n<=i:=hg;cbv) λh' eb=>⟨rfl,I.turned (t':=s.toks) (λb o hb e=>eb b o hb e) f0 f1 f3 f4 f5⟩
 self:=λ_ _ _ _ _ st h=>wpAny_pyIter_rangeiter st h
theorem uO {a b:Int}:Wh a b (-1)=((a-b).toNat:Int):=by
 unfold Wh;rw[Xu `c];split
 ·rw[show -(-1:Int)=1 by decide,Int.ediv_one];cbv
 ·cbv
theorem small_down {a b:Int}(ha: -(2 ^ 40)<=a)(Yv:a<2 ^ 40)(hb: -(2 ^ 40)<=b)(YO:b<2 ^ 40):Builtin.Range.small a b (-1)=true:=by
 unfold Builtin.Range.small;rw[uO];simp only[Builtin.Range.rangeFitsLong,Rx,RE,decide_eq_true_eq,beq_iff_eq,show¬(-1:Int)>0 by decide,if_false];cbv
variable {lo:Int}{ta:TA}{R1:Hp}
def N5 (ta:TA):TI:=λσ H R=>ta σ H λvs H1=>∃i j:Int,vs=[.int i,.int j,.int (-1)]/\(-(2 ^ 40)<=i/\i<2 ^ 40/\ -(2 ^ 40)<=j/\j<2 ^ 40)/\R (Ge i (i-j).toNat) H1
theorem Jj {XD:Rk}{R:It->Hp->Prop}{hi:Int}{t u v:Tok}{tk:Nat}(I:`j)(h1: -(2 ^ 40)<=lo)(h2:lo<2 ^ 40)(h3: -(2 ^ 40)<=hi)(h4:hi<2 ^ 40)(q:R (Ge lo (lo-hi).toNat) H):wpAny `f X.A (pyIter (.ref ⇑s)) (L7 X XD σ tg R) E {s with heap:=s.heap.push {cls:=.type "range",data:=.fields #[.int lo t,.int hi u,.int (-1) v]},toks:=tk}:=by
 refine wpAny_pyIter_range (IsRange.new ..) (small_down h1 h2 h3 h4) ?_;let I1:Inv X XD σ H {s with heap:=s.heap.push {cls:=.type "range",data:=.fields #[.int lo t,.int hi u,.int (-1) v]},toks:=tk}:=I.kept λb o e=>WC _ e;refine⟨(s.heap.push {cls:=.type "range",data:=.fields #[.int lo t,.int hi u,.int (-1) v]}).objs.size,[(s.heap.push {cls:=.type "range",data:=.fields #[.int lo t,.int hi u,.int (-1) v]}).objs.size],_,_,H,rfl,
  I1.kept (t':=tk) λb o e=>WC _ e,D1 _ lo (lo-hi).toNat,?_,λb hb=>?_,q⟩
 ·let e1:lo+((0:Nat):Int)*(-1)=lo:=`d
  let e2:(((lo-hi).toNat:Nat):Int)-((0:Nat):Int)=Wh lo hi (-1):=by rw[uO];simp
  show V2 _ _ (lo+((0:Nat):Int)*(-1)) ((((lo-hi).toNat:Nat):Int)-((0:Nat):Int)) (-1);rw[e1,e2];exact WG _ rfl
 ·let e:b=(s.heap.push {cls:=.type "range",data:=.fields #[.int lo t,.int hi u,.int (-1) v]}).objs.size:= ~~~hb
  subst e;exact I1.ka (Uk _) (I1.XJ.fresh (Uk _))
theorem Ce {a c:Expr}{p:Pos}(hg:Gl X "range")(hm:X.mg "range"=none)(ha:PA X [a,b,c] ta)(hs:U5 [a,b,c] X.env=(false,eval a X.env)::U5 [b,c] X.env:=by rfl)(X1:fo X pos [b,c]:=by rfl):
 PI X tg (.Call (.Name "range" p) [a,b,c] [] pos) (N5 ta):=by
 intro XD s σ H R I h;refine Call_ (je I hg hm UX (UQ `U hs X1));let⟨i,j,e,⟨q1,q2,q3,q4⟩,q⟩:=q1;subst e;cases r1 with
 | cons r rr=>
   cases rr with
   | cons r' rr=>
     cases rr with
     | cons r'' rr=>
       cases rr
       let⟨t,rfl⟩:=r;let⟨t',rfl⟩:=r';let⟨t'',rfl⟩:=r'';exact call_range_3 `c (Jj I1 q1 q2 q3 q4 q) (.inl (PyProof.noPylong_of_log2 `b))
noncomputable def downs (lo:Int)(n:Nat):Rl:=(Sd n).map λ(k:Nat)=>lo-(k:Int)
theorem jm (lo:Int)(n:Nat):(downs lo n).length=n:=by unfold downs;rw[RS,SN]
theorem xS {x:Int}(h:(downs lo n)[i]?∣x):i<n/\x=lo-(i:Int):=by
 let hi:i<n:=by have:=(RP.mp h).1;rwa [jm] at this
 refine⟨hi,?_⟩;unfold downs at h;rw[R6,SU hi] at h;exact(Option.some.inj h).symm
theorem EC (lo:Int)(n:Nat):Src K (Ge lo n) R1 ag (downs lo n):=λH' R' sR sH i=>⟨λx hx=>by
 let⟨h1,rfl⟩:=xS hx;refine⟨h1,λv H2 hy=>?_⟩;let⟨rfl,rfl⟩:=hy;exact⟨R',Ext.refl sH,rfl⟩,λhi=>by rw[jm] at hi;exact hi⟩
theorem B7 {a c:Expr}{m n:Int}(hm:X.mg "range"=none)(ha:HA X [a,b,c] Z [⟨ag,m⟩,⟨ag,n⟩,⟨ag, -1⟩] Γ1)(hn: -1000000<=m/\m<=1000000/\ -1000000<=n/\n<=1000000)(hs:U5 [a,b,c] X.env=(false,eval a X.env)::U5 [b,c] X.env:=by rfl)(X1:fo X p2 [b,c]:=by rfl)(hg:Gl X "range":=by rfl):IV X tg (.Call (.Name "range" p1) [a,b,c] [] p2) Z ag (downs m (m-n).toNat) Γ1:=by
 refine⟨_,Ce hg hm nj hs X1,λσ H0 R0 H R E Rq q=>ha σ H0 R0 H R E _ λvs H1 R1 E1 s1 e1=>?_⟩;let e:vs=[.int m,.int n,.int (-1)]:=by
  cases e1 with
  | cons a1 t=>cases t with
    | cons a2 t=>cases t with
      | cons a3 t=>cases t;cases a1;cases a2;cases a3;rfl
 subst e;exact⟨m,n,rfl,⟨`a,`a,`a,`a⟩,q _ H1 R1 E1 s1 (by rw[jm];exact Um (show(m-n).toNat<=2000000 by cbv) `c) (EC m (m-n).toNat)⟩
theorem aZ.cst {xs ys:`u}(h:aZ X e Z r xs Γ1)(q:xs=ys):aZ X e Z r ys Γ1:=q▸h
theorem HN {f:Expr}{D:List (Str×Rm)}{k:Str}{zs:Rm}(hD:nI X.prog X.w X.K X.mg x D)(he:EV X e Z aq k Γ1)(hf:EV X f Γ1 xq zs Γ2)(hg:Gl X x:=by rfl)(hd:Yz x:=by decide)(m:M2 X `h "get" ap e f cp:=by exact⟨rfl,rfl,rfl,rfl⟩):EV X (.Call (.Attribute `h "get" ap) [e,f] [] cp) Z xq ((cM D k).getD zs) Γ2:=by
 intro σ H0 R0 H R E Q q;let⟨a,o,vs,hm,hk,hdo,hs,hp⟩:=hD;let pe:PE X (.Call (.Attribute `h "get" ap) [e,f] [] cp) (λσ H Q=>fX X e σ H λy H1=>y= .str k/\fX X f σ H1 λz H2=>(∀b,cM D k≠none->Vm vs (Sum.inr k:Key)∣.ref b->Q (.ref b) H2)/\(cM D k=none->Q z H2)):=by
  intro XD s σ H Q I h;refine wpAny_Call_method m.base m.few m.line PySem.F.plainAttrs_dict PySem.F.slot_dict_get PySem.F.type_dict_get (a8 (jC (v:=.ref a) hg hm rfl hd XD s σ H (λv H2=>v= .ref a/\H2=H) I ⟨rfl,rfl⟩) λu s1 ⟨x1,H1,I1,rx,e3,e4⟩=>?_);subst e3;subst e4;obtain rfl:u=WZ a:=rx;let dd:s1.heap.DictOf (cE X.prog X.w) a vs:=WL.mpr ⟨o,I1.gy a o hk,hdo⟩;refine⟨dd.typeIs,λb q=>?_,?_⟩
  ·cases q
   let⟨ob,_,_,h1,h2,_⟩:=dd;exact⟨ob,h1,h2.2.1⟩
  rw[m.trees];refine Wq rfl (Calls.evalArgs_plain (Wr (a8 (h XD s1 I1) λiv s2 ⟨y,H2,I2,ry,ey,q2⟩=>
   Wr (a8 (q2 XD s2 I2) λfv s3 ⟨z,H3,I3,rz,q3,q4⟩=>Calls.spliced_nil ?_))))
  subst ey;let dd3:s3.heap.DictOf (cE X.prog X.w) a vs:=WL.mpr ⟨o,I3.gy a o hk,hdo⟩;refine call_meetsIn PySem.F.slot_dict_get dd3.typeIs PySem.F.entry_dict_get (PySem.F.args_dict_get_3 _ _ _) (meets_dict_get_default (cE X.prog X.w) a (ku (k:=Sum.inr k) ry) hs fv) ⟨_,dd3.mapOf,?_⟩;obtain⟨h1,h2⟩ | ⟨ys,b,h1,h2,_⟩:=vD (x:=k) hp
  ·rw[h2];exact⟨z,_,I3.tok _,rz,q4 h1⟩
  ·rw[h2];exact⟨.ref b,_,I3.tok _,rfl,q3 b (by rw[h1];exact UL _) h2⟩
 refine eS pe (he σ H0 R0 H R E _ λv H1 R1 E1 s1 e1=>⟨e1,hf σ H0 R0 H1 R1 E1 _ λv2 H2 R2 E2 s2 e2=>⟨λb hb hv=>?_,λhn=>?_⟩⟩)
 ·obtain⟨h1,h2⟩ | ⟨ys,b',h1,h2,o',XF,n,h3⟩:=vD (x:=k) hp
  ·exact Xt h1 hb
  ·rw[hv] at h2;cases h2
   refine q _ H2 R2 E2 `E ?_;rw[h1];exact⟨b,rfl,.inr ⟨o',XF,n,h3⟩⟩
 ·refine q _ H2 R2 E2 `E ?_;rw[hn];exact e2
def OT (K:W7)(a:Addr)(n:Nat):It:=
 ⟨λi H=>∃xs,bt K H a xs/\xs.length=n/\i<n,λi H x H'=>H'=H/\∀xs,bt K H a xs->xs[n-1-i]?∣x,λi _=>n<=i⟩
theorem Eu (a it:Addr)(n:Nat):Turn P w K tg (OT K a n) [it] it (λi h=>i<=n/\h.IsRevIter it a ((n:Int)-1-(i:Int))) where
 mem:=`d
 obj:=λi h st b hb=>by
  let e:b=it:= ~~~hb
  subst e;let⟨_,o,e,c,d⟩:=st;exact⟨o,e,λv z=>by rw[d] at z;cases z⟩
 keep:=λi h h' st k=>⟨st.1,st.2.at λo e=>k it `d o e⟩
 item:=by
  intro X hP hw hK hc i XD s σ H E I hf st hg;subst hP hw hK;let⟨xs,hq,hl,hi⟩:=hg;let⟨XF,rv,p,hz⟩:=I.list hq;let hx:xs[n-1-i]?=some xs[n-1-i]:=RQ `a;let⟨u,hu,ru⟩:=rv.get hx;let⟨f0,f1,f2,f3,f4,f5⟩:=hf it `d;let ZC:s.heap.IsRevIter it a (((n-1-i:Nat)):Int):=by rw[show(((n-1-i:Nat)):Int)=(n:Int)-1-(i:Int) by cbv];exact st.2
  refine wpAny_pyNext_rev_item ZC p.isList (x:=u) (~~~hu) λh' Zf sb=>?_;let I1:Inv X XD σ H {s with heap:=h'}:=I.turned (t':=s.toks) (λb o hb e=>(sb.2 b hb).trans e) f0 f1 f3 f4 f5;let Z8:h'.IsRevIter it a ((n:Int)-1-((i+1:Nat):Int)):=by rw[show(n:Int)-1-((i+1:Nat):Int)=(((n-1-i:Nat)):Int)-1 by cbv];exact Zf
  let⟨o,e,c,d⟩:=id Z8;exact⟨u,rfl,pK (s:={s with heap:=h'}) e c d `c ⟨_,H,I1,ru,⟨rfl,λys hy=>by rw[I.nH hy hq];exact hx⟩,⟨`a,Z8⟩,λb hb=>(hf b hb).1⟩⟩
 done:=by
  intro X hP hw hK hc i XD s σ H E I hf st hg;subst hP hw hK;let⟨f0,f1,f2,f3,f4,f5⟩:=hf it `d;let⟨YU,st⟩:=st;let e:(n:Int)-1-(i:Int)= -1:=by have:n<=i:=hg;cbv
  rw[e] at st;exact wpAny_pyNext_rev_end (I.ok.hd hc) st λh' eb=>⟨rfl,I.turned (t':=s.toks) (λb o hb e=>eb b o hb e) f0 f1 f3 f4 f5⟩
 self:=λ_ _ _ _ _ st h=>wpAny_pyIter_revIter st.2 h
variable {ks:Rm}
def QA (K:W7)(ta:TA):TI:=λσ H R=>ta σ H λvs H1=>∃a xs,vs=[.ref a]/\bt K H1 a xs/\R (OT K a xs.length) H1
theorem Mp {a:Expr}{p:Pos}(hg:Gl X "reversed")(hm:X.mg "reversed"=none)(ha:PA X [a] ta)(hs:fU X a:=by rfl):PI X tg (.Call (.Name "reversed" p) [a] [] pos) (QA X.K ta):=by
 intro XD s σ H R I h;refine Call_ (je I hg hm PyProof.Rows.boot_reversed (UQ `U hs rfl));let⟨l,xs,e,hq,q⟩:=q1;subst e;cases r1 with
 | cons r rr=>
   cases rr
   cases r
   let⟨XF,rv,pl,hz⟩:=I1.list hq;let hl:=rv.length;refine call_reversed_list pl.isList ?_;let I2:Inv X XD σ H1 {s1 with heap:=s1.heap.push (revObj l ((XF.toArray.size:Int)-1))}:=I1.kept (t':=s1.toks) λb o e=>WC _ e;let it0:(s1.heap.push (revObj l ((XF.toArray.size:Int)-1))).IsRevIter ⇑s1 l ((xs.length:Int)-1-((0:Nat):Int)):=⟨_,WG _ rfl,rfl,by
    rw[show((xs.length:Int)-1-((0:Nat):Int))=((XF.toArray.size:Int)-1) by simp;cbv];rfl⟩
   refine wpAny_pyIter_revIter it0 ?_;refine⟨⇑s1,[⇑s1],_,_,H1,rfl,I2,Eu l _ xs.length,⟨Ul _,it0⟩,λb hb=>?_,q⟩;let e:b=⇑s1:= ~~~hb
   subst e;exact I1.ka (Uk _) (I1.XJ.fresh (Uk _))
theorem JR {a:Expr}{p:Pos}{xs:`u}(hm:X.mg "reversed"=none)(ha:EV X a Z (ae r) xs Γ1)(hs:fU X a:=by rfl)(hg:Gl X "reversed":=by rfl):IV X tg (.Call (.Name "reversed" p) [a] [] pos) Z r xs.reverse Γ1:=by
 refine⟨_,Mp hg hm (aI aO bq hs) hs,λσ H0 R0 H R E Rq q=>ha σ H0 R0 H R E _ λv H1 R1 E1 s1 e1=>?_⟩;let⟨a,vs,rfl,hp,pp,z⟩:=e1;let hvl:=pp.length;refine⟨a,vs,rfl,bt.of (E1.sub _ _ hp),q _ H1 R1 E1 s1 (by rw[TY];exact z) λH' R' sR sH i=>⟨λx hx=>?_,λhi=>?_⟩⟩
 ·let hq:bt X.K H' a vs:=bt.of (sH _ _ (sR _ _ hp));let hi:i<xs.length:=by have:=(RP.mp hx).1;rwa [TY] at this
  rw[Ua hi] at hx;let⟨v,hv,hr⟩:=fH pp hx;refine⟨⟨vs,hq,rfl,`a⟩,λv' H2 hy=>?_⟩;let⟨rfl,hy⟩:=hy;have:=hy vs hq;rw[show vs.length-1-i=xs.length-1-i by cbv,hv] at this;cases this
  exact⟨R',Ext.refl sH,r.mono sR hr⟩
 ·rw[TY] at hi;show vs.length<=i;cbv
theorem Dn (i:Nat){xs ys:`u}(he:EV X e Z (ae r) ys Γ1)(hΓ:`aC)(hΓ1:Γ1[i]?∣.mu r xs)(hz:xs.length+ys.length<=UZ)(h:N (Γ1.set i (.mu r (xs++ys))))(hN:`o)(Yc:U7 (.Call (.Attribute `h "extend" ap) [e] [] cp) none pos.line X.env=pure false:=by rfl)(XN:eX X `h "extend":=by rfl)(X4:l6 X cp [e]:=by rfl)(XM:`Y=true:=by rfl)(hs:dh X e []:=by rfl):W1 X (.Expr (.Call (.Attribute `h "extend" ap) [e] [] cp) pos) Z N T:=λσ H0 R0 H R E D dn dr=>by
 let⟨a,vs,ea,ha,hR,pp⟩:=E.ent i _ hΓ;refine sS (dO (gT Wt PySem.F.slot_list_extend PySem.F.type_list_extend BC (aV hN) (aI aO bq hs) XN X4 XM hs rfl) Yc) ?_;refine⟨.ref a,at_of ea,.inl ⟨rfl,vs,bt.of ha⟩,he σ H0 R0 H R E _ λu H1 R1 E1 s1 e1=>?_⟩;let⟨b,ws,rfl,hb,pw,hw⟩:=e1;let⟨a',Yg,Yf,Yv,Yj,YD⟩:=E1.ent i _ hΓ1;rw[ea] at Yf;cases Yf
 refine⟨a,b,Yg,ws,rfl,rfl,Yv,E1.sub _ _ hb,by rw[YD.length,pw.length];exact hz,?_⟩;exact dn σ _ R1 _ (E1.upd (en:=.mu r (xs++ys)) hΓ1 rfl ea Yj ⟨a,_,rfl,aD,Yj,dQ YD pw⟩) s1 h
theorem y9 {d:Expr}{kvs:List (Int×V)}{k:Int}(hu:X.A.units+1<cLine)(he:EV X e Z ag k Γ1)(hd:EV X d Γ1 nG kvs Γ2)(hm:Vn .NotIn d=false:=by first | exact tI _ | with_unfolding_all rfl):TV X (.Compare e [.NotIn] [d] pos) Z (!ja kvs k) Γ2:=by
 intro σ H0 R0 H R E Q q;refine tS (mP (l7 hu aO aO) hm) (he σ H0 R0 H R E _ λv H1 R1 E1 s1 e1=>hd σ H0 R0 H1 R1 E1 _ λu H2 R2 E2 s2 e2=>?_);cases e1
 let⟨p,rfl,hp⟩:=e2;refine⟨p,_,rfl,iG.k (k:=Sum.inl k) (E2.sub _ _ hp),_,rfl,?_⟩;rw[mU];exact q H2 R2 E2 `E
abbrev xw (ks:Rm):List (Key×V):=ks.map λk=>(Sum.inr k,V.bl true)
def sC (a:Addr)(ks:Rm):oq where
 fp:=[a]
 R:=λK H R v=>v= .ref a/\H a∣(.dK (xw ks))
 loc:=λhH hR ⟨e,h1⟩=>⟨e,(hH a `d).trans h1⟩
 has:=λ⟨e,h1⟩ b hb=>by rw[RU.mp hb,h1];exact UL _
theorem WS.NI (i:Nat)(hΓ:Z[i]?∣(.di []))(h:∀a,WS X Yx (Z.set i (.ob (sC a []))) N T):WS X Yx Z N T:=λσ H0 R0 H R E D dn dr=>by
 let⟨a,ea,ha,hR⟩:=E.ent i _ hΓ;refine h a σ H0 R0 H R (E.tell hΓ ⟨⟨.ref a,ea,rfl,ha⟩,λb hb=>?_⟩ λb w=>?_) D dn dr
 ·rw[RU.mp hb];exact hR
 ·rw[show b=a from RU.mp w];exact ck.mpr ea
theorem EZ (k:Str):∀ks:Rm,du (xw ks) (Sum.inr k:Key)=if k∈ks then some (.bl true) else none
 | []=>rfl
 | x::ks=>by
   by_cases e:x=k
   ·show du ((Sum.inr x,V.bl true)::xw ks) _=_;rw[d8 (p:=((Sum.inr x:Key),V.bl true)) (by rw[e]),Xv (by rw[e];exact RZ)]
   ·show du ((Sum.inr x,V.bl true)::xw ks) _=_;rw[dM (p:=((Sum.inr x:Key),V.bl true)) (λz=>e (Sum.inr.inj z)),EZ k ks];by_cases h:k∈ks
    ·rw[Xv h,Xv (RX _ h)]
    ·rw[Xu h,Xu λz=>by obtain q | q:=R9.mp z;exact e q.symm;exact h q]
theorem IY (i:Nat){ke ve:Expr}{k:Str}(hu:X.A.units+1<cLine)(hk:EV X ke Z aq k Z)(hv:PE X ve (tC (.bl true)))(hΓ:Z[i]?∣(.ob (sC a ks)))(hn:k∉ks)(hz:ks.length<UZ)(h:N (Z.set i (.ob (sC a (ks++[k])))))(hN:`o)(hs:U7 ve (some (.Subscript `h ke p2)) pos.line X.env=pure false:=by rfl):W1 X (.Assign [.Subscript `h ke p2] ve pos) Z N T:=λσ H0 R0 H R E D dn dr=>by
 refine sS (uE hu (aV hN) aO hv hs) ?_;let⟨⟨v,ea,rfl,ha⟩,hR⟩:=E.ent i _ hΓ;refine⟨.ref a,at_of ea,hk σ H0 R0 H R E _ λu H1 R1 E1 s1 e1=>?_⟩;let⟨⟨v,Yf,rfl,Yv⟩,Yj⟩:=E1.ent i _ hΓ;cases e1
 refine⟨a,_,rfl,rB.k (k:=Sum.inr k) Yv (by rw[RS];exact hz),?_⟩;rw[rj (.bl true) (by rw[EZ,Xu hn])];let e:xw ks++[((Sum.inr k:Key),V.bl true)]=xw (ks++[k]):=by unfold xw;rw[Sf];rfl
 rw[e];exact dn σ _ R1 _ (E1.lF (en:=.ob (sC a (ks++[k]))) hΓ (a:=a) (by show a∈[a];simp) ⟨⟨.ref a,Yf,rfl,aD⟩,Yj⟩ λc w=>.inl w) s1 h
theorem Fn (i:Nat){k:Str}(hu:X.A.units+1<cLine)(he:EV X e Z aq k Z)(hΓ:Z[i]?∣(.ob (sC a ks)))(hN:`o):TV X (.Compare e [.NotIn] [.Name x p1] pos) Z (!decide (k∈ks)) Z:=by
 intro σ H0 R0 H R E Q q;refine tS (mP (l7 hu aO (aV hN)) (by with_unfolding_all rfl)) `K;let⟨⟨v,ea,rfl,ha⟩,hR⟩:=E1.ent i _ hΓ;cases e1
 refine⟨.ref a,at_of ea,a,_,rfl,iG.k (k:=Sum.inr k) ha,_,rfl,?_⟩;rw[EZ];let e:(if k∈ks then some (V.bl true) else none).isSome=decide (k∈ks):=by by_cases h:k∈ks<;>simp[h]
 rw[e];exact q H1 R1 E1 s1
variable {key:`aM}
section
variable {K:Type} [DecidableEq K]{knd:KeyKind prog w K}
theorem Ez {d:Addr}{kvs:List (K×Value)}{k:K}{dflt:`aM}(Za:knd.is k key=true)(hm:s.heap.DictOf knd d kvs)(hthere:∀v,Vm kvs k∣v->Q v {s with toks:=s.toks+1})(hnew:Vm kvs k=none->∀h',h'.DictOf knd d (V7 kvs k dflt)->WI d s.heap h'->Q dflt {s with heap:=h',toks:=s.toks+1})(hsz:kvs.length<=UZ):wpAny `t A (V8 d key dflt) Q E s:=by
 let hmap:=hm.mapOf;let⟨o,es,ep,ho,hc,hd,hk,hp,hn⟩:=hm;let hes:es.size<=UZ:=by
  let e1:=hp.length;let e2:es.toList.length=es.size:=`d
  cbv
 let⟨o2,es2,ep2,ho2,hc2,hd2,hk2,hf⟩:=hmap;rw[ho] at ho2;cases ho2
 rw[hd] at hd2;cases hd2
 unfold V8
 try with_reducible refine Vg ?_
 refine U1 (knd.pyHash Za ?_);refine U1 (wpAny_dictFind_of (s:={s with toks:=s.toks+1}) Za ho hd hk ?_);let hidx:(es.findIdx? λe=>knd.is k e.key)=kvs.findIdx? λkv=>decide (kv.1=k):=by
  rw[← hp.findIdx k];let⟨l⟩:=es;simp
 cases hi:es.findIdx? λe=>knd.is k e.key with
 | some i=>
   let hfk:Vm kvs k=(es[i]?).map (·.val):=by rw[← hf k,findBy_of_findIdx?,hi]
   refine U1 (wpAny_dictEntries (s:={s with toks:=s.toks+1}) ho hd ?_);cases he:es[i]? with
   | none=>
     exfalso;have:=Array.findIdx?_eq_some_iff_findIdx_eq.mp hi;let Yq:i<es.size:=this.1;rw[Array.getElem?_eq_getElem Yq] at he;exact nomatch he
   | some e=>
     rw[he] at hfk;exact U1 (VM (U3 (hthere e.val hfk)))
 | none=>
   let hfk:Vm kvs k=none:=by rw[← hf k,findBy_of_findIdx?,hi]
   let hnot:k∉kvs.map (·.1):=not_mem_of_findIdx_none (hidx▸hi);let hany:¬(kvs.any λkv=>decide (kv.1=k))=true:=by
    rw[Ud];rintro⟨kv,hkv,he⟩;exact hnot (Sk.mpr ⟨kv,hkv,Xw he⟩)
   refine U1 (VM (U1 (wpAny_updateDictKeys (hz:=hes) (s:={s with toks:=s.toks+1}) ho hd (U3 (hnew hfk _ ⟨_,_,ep+1,WK _ ho (Obj.isFreed_of_dict (Obj.data_mapDictKeys hd _)),
    hc.mapDictKeys _,Obj.data_mapDictKeys hd _,hk.push Za _,?_,?_⟩ (WI.update ..))))))
   ·rw[V7,Xu hany];have:=hp.append Za (knd.hash k) dflt;let⟨l⟩:=es;simpa using this
   ·rw[V7,Xu hany,Sf,SO];refine⟨hn,`d,?_⟩;intro a ha b hb;simp only[Sx,TU,RU] at hb;subst hb;exact λe=>hnot (e▸ha)
theorem Eb {d:Addr}{kvs:List (K×Value)}{k:K}(Za:knd.is k key=true)(hd:(d==Vh)=false)(dflt:`aM)(hsz:kvs.length<=UZ):
 MeetsIn prog w (Builtin.«dict.setdefault» ⟨[.ref d,key,dflt],[]⟩) (λ_ R s=>s.heap.DictOf knd d kvs/\
  (∀v,Vm kvs k∣v->R (.ok (.ret v)) {s with toks:=s.toks+1})/\
  (Vm kvs k=none->∀h',h'.DictOf knd d (V7 kvs k dflt)->WI d s.heap h'->R (.ok (.ret dflt)) {s with heap:=h',toks:=s.toks+1})):=
 .of_wp λA R s ⟨hm,h1,h2⟩=>by
  unfold Builtin.«dict.setdefault»;refine U1 ?_;unfold Builtin.Dict.keyAndDefault;refine U1 (wpAny_notOrdered_dict hm.mapOf.typeIs ?_);show wpAny _ _ (pure (d,key,some dflt)) _ _ s;refine U3 ?_;show wpAny _ _ (if(d==Vh)=true then _ else(V8 d key dflt >>=_)) _ _ s;rw[Xu (by rw[hd];exact Rv)];exact U1 (Ez Za hm (λv hv=>U3 ⟨v,rfl,h1 v hv⟩) (λhn h' hm' hs'=>U3 ⟨dflt,rfl,h2 hn h' hm' hs'⟩) hsz)
end
variable {F:Rt}{iter:Expr}
noncomputable def Nn:V->List V->Hp->VK->Prop:=λx vs H Q=>∃(a:Addr)(F:Rt)(k v:Int),x= .ref a/\vs=[.int k,.int v]/\H a∣(.dK (cS (cG F)))/\F.length<UZ/\∀u,Q u (if(bb F k).isSome then H else upd H a (.dK (cS (cG (F++[(k,v)])))))
theorem Jf:z9 X "dict.setdefault" Nn:=by
 intro XD s σ H x vs u us Q I rx rv h;let⟨a,F,k,v,rfl,rfl,hH,hz,q⟩:=h;cases rx
 let⟨u1,u2,rfl,⟨t,rfl⟩,⟨t2,rfl⟩⟩:=vals2 rv;let⟨z,hd,kvs,rel,dd⟩:=Av I.XJ hH;let hzl:kvs.length<=UZ:=by rw[← rel.length];exact z
 let Zl:=rel.val (Sum.inl k:Key);rw[lM] at Zl;refine call_meetsIn PySem.F.slot_dict_setdefault dd.typeIs PySem.F.entry_dict_setdefault (PySem.F.args_dict_setdefault_3 _ _ _) (Eb (knd:=cE X.prog X.w) (kvs:=kvs) (ku (k:=Sum.inl k) (u:=.int k t) ⟨t,rfl⟩) hd (.int v t2) hzl) ⟨dd,λw' hw=>?_,λhn h' Z5 hs=>?_⟩
 ·cases e:bb F k with
  | none=>rw[e,hw] at Zl;cases Zl
  | some y=>
    rw[e,hw] at Zl;have:=q (.int y);rw[e,Xv (show(some y).isSome=true from rfl)] at this;exact⟨.int y,H,I.tok _,Zl,this⟩
 ·cases e:bb F k with
  | some y=>rw[e,hn] at Zl;cases Zl
  | none=>
    have:=q (.int v);rw[e,Xu `c] at this;let hput:putK (cS (cG F)) (Sum.inl k:Key) (.int v)=cS (cG (F++[(k,v)])):=by
     rw[wk];unfold jM;rw[e,Xu `c]
    let hl:(cS (cG (F++[(k,v)]))).length<=UZ:=by unfold cS cG;simp;cbv
    refine⟨.int v,_,pT I (by rw[hH];exact Xs) hs (let ⟨q,_,_,hq,_⟩:=Z5;⟨q,hq⟩) (wW hl hd ?_ Z5),⟨t2,rfl⟩,this⟩;rw[← hput];exact rel.put (Sum.inl k:Key) ⟨t2,rfl⟩
theorem set_same.{u}{A:Type u}{l:List A}{i:Nat}{x:A}(h:l[i]?∣x):l.set i x=l:=by
 refine SV λj=>?_;by_cases e:i=j
 ·subst e;rw[R8 (RP.mp h).1,h]
 ·rw[Ss e]
theorem K3 (i:Nat){f:Expr}{k v:Int}(he:EV X e Z ag k Z)(hf:EV X f Z ag v Z)(hΓ:Z[i]?∣(.di (cG F)))(hz:F.length<UZ)(h:N (Z.set i (.di (cG (if(bb F k).isSome then F else F++[(k,v)])))))(hN:`o)(Yc:U7 (.Call (.Attribute `h "setdefault" ap) [e,f] [] cp) none pos.line X.env=pure false:=by rfl)(XN:eX X `h "setdefault":=by rfl)(X4:l6 X cp [e,f]:=by rfl)(XM:`Y=true:=by rfl)(hs:U5 [e,f] X.env=(false,eval e X.env)::U5 [f] X.env:=by rfl)(Yh:dh X f []:=by rfl)(X1:fo X cp [f]:=by rfl):
 W1 X (.Expr (.Call (.Attribute `h "setdefault" ap) [e,f] [] cp) pos) Z N T:=λσ H0 R0 H R E D dn dr=>by
 let⟨a,ea,ha,hR⟩:=E.ent i _ hΓ;refine sS (dO (gT PySem.F.plainAttrs_dict PySem.F.slot_dict_setdefault PySem.F.type_dict_setdefault Jf (aV hN) (aI aO (aI aO bq Yh) hs) XN X4 XM hs X1) Yc) ?_;refine⟨.ref a,at_of ea,.inr (.inr (.inl ⟨rfl,.inl ⟨_,ha⟩⟩)),he σ H0 R0 H R E _ λv1 H1 R1 E1 s1 q1=>hf σ H0 R0 H1 R1 E1 _ λv2 H2 R2 E2 s2 q2=>?_⟩;cases q1
 cases q2
 let⟨a',Yf,Yv,Yj⟩:=E2.ent i _ hΓ;rw[ea] at Yf;cases Yf
 refine⟨a,F,k,v,rfl,rfl,Yv,hz,λu=>?_⟩;cases q:(bb F k).isSome with
 | true=>
   rw[q,Xv rfl] at h;rw[Xv rfl];refine dn σ H2 R2 _ E2 `E ?_;rwa [set_same hΓ] at h
 | false=>
   rw[q,Xu `c] at h;rw[Xu `c];exact dn σ _ R2 _ (E2.upd (en:=.di (cG (F++[(k,v)]))) hΓ rfl ea Yj ⟨a,rfl,aD,Yj⟩) `E h
def rV (X:Cx)(e:Expr)(Z:Ga)(k:Int):Prop:=∀(σ:St)(H0 R0 H R:Hp),ar X.K σ H0 R0 H R Z->∀(H':Hp)(Q:VK),av R H'->Q (.int k) H'->fX X e σ H' Q
theorem yr (i:Nat){y:Int}(hΓ:Z[i]?∣.im ag y)(hN:`o):rV X (.Name x pos) Z y:=λσ H0 R0 H R E H' Q s q=>by
 let⟨v,e,h⟩:=E.ent i _ hΓ;cases h
 exact eS (aV hN) ⟨_,at_of e,q⟩
theorem Iy (i:Nat){ke ve le ue:Expr}{k l v u:Int}(hk:rV X ke Z k)(hl:rV X le Z l)(hv:PE X ve (tC (.int v)))(hu:PE X ue (tC (.int u)))(hkl:k≠l)(h:N (Z.set i (.di (cG [(k,v),(l,u)]))))(hN:X.N.Nodup:=by first | assumption | decide)(hi:X.N[i]?∣x:=by rfl)(hx:`ai)(hs:U7 (.Dict [some ke,some le] [ve,ue] p2) (some `h) pos.line X.env=pure false:=by rfl)(hf:autoParam (fM X x) YI):
 W1 X (.Assign [.Name x p1] (.Dict [some ke,some le] [ve,ue] p2) pos) Z N T:=λσ H0 R0 H R E D dn dr=>by
 refine sS (j8 hN hi hx (HU (xg aO hv (xg aO hu Hq)) rfl rfl `d `d) hs hf) λp hp=>?_;let sR:av R (upd H p (.dK [])):=E.sub.trans (av.fresh hp _);refine hk σ H0 R0 H R E _ _ sR ?_;refine hl σ H0 R0 H R E _ _ sR ?_;refine⟨aD,[(Sum.inl k,.int v),(Sum.inl l,.int u)],rfl,(by show 2<=15;decide),?_⟩;let E1:=E.grow (Ext.d6 E.sub hp (.dK (cS (cG [(k,v),(l,u)]))));let e:upd (upd H p (.dK [])) p (.dK (mX [] [(Sum.inl k,.int v),(Sum.inl l,.int u)]))=upd H p (.dK (cS (cG [(k,v),(l,u)]))):=by
  rw[Jo];congr 2;show putK [((Sum.inl k:Key),V.int v)] (Sum.inl l) (.int u)=_;rw[rj (.int u) (by
   rw[dM (p:=((Sum.inl k:Key),V.int v)) (λz=>hkl (Sum.inl.inj z))];rfl)]
  rfl
 rw[e];exact dn _ _ R _ (E1.xy (u:=.dK (cS (cG [(k,v),(l,u)]))) (en:=.di (cG [(k,v),(l,u)])) i ⟨p,rfl,aD,E.sub.free hp⟩ (E.ext.h.free hp) λj e _ q w=>E.off hp j e q w) `S h
theorem Jr (hz:xs.length<=UZ)(h:EV X iter Z au (.tup xs) Γ1):IV X tg iter Z au xs Γ1:=by
 refine⟨_,BU aO,λσ H0 R0 H R E Rq q=>h σ H0 R0 H R E _ λv H1 R1 E1 s1 e1=>?_⟩;cases e1 with
 | @tup a vs _ hp pp=>
   let ZE:∀H' R':Hp,av R1 R'->av R' H'->d7 X.K H' a vs:=λH' R' sR sH=>d7.of (sH _ _ (sR _ _ hp));refine⟨a,rfl,⟨_,ZE H1 R1 `S E1.sub⟩,q _ H1 R1 E1 s1 hz λH' R' sR sH i=>⟨λx hx=>?_,λhi=>⟨_,ZE H' R' sR sH,by rw[pp.pair.length];exact hi⟩⟩⟩;let⟨v,hv,hr⟩:=fH pp.pair hx;refine⟨⟨_,_,ZE H' R' sR sH,hv⟩,λv2 H2 hy=>?_⟩;let⟨rfl,hy⟩:=hy;have:=hy _ (ZE _ R' sR sH);rw[hv] at this;cases this
   exact⟨R',Ext.refl sH,hr.mono sR⟩
theorem nO (i:Nat){p:Pos}(hm:X.mg "len"=none)(hΓ:Z[i]?∣(.di (cG F)))(hN:`o)(hs:fU X `h:=by rfl)(hg:Gl X "len":=by rfl):EV X (.Call (.Name "len" p) [.Name x p1] [] pos) Z ag (F.length:Int) Z:=by
 intro σ H0 R0 H R E Q q;let⟨a,ea,ha,hR⟩:=E.ent i _ hΓ;refine eS (fg vc hg hm Vo (aI (aV hN) bq hs) `c `c hs) ⟨.ref a,at_of ea,a,_,rfl,ha,?_⟩;unfold cS cG;rw[RS,RS];exact q _ H R E `S rfl
abbrev jh:=Str×Str×Int×Int×Int
def fZ (w:jh):PV:=.tup [.str w.1,.str w.2.1,.int w.2.2.1,.int w.2.2.2.1,.int w.2.2.2.2]
def qp:Rep jh:=⟨λK H v w=>au.R K H v (fZ w),λs h=>au.mono s h⟩
theorem B4 {w:jh}(h:qp.R K R v w):∃a,v= .ref a/\R a∣(.tup [.str w.1,.str w.2.1,.int w.2.2.1,.int w.2.2.2.1,.int w.2.2.2.2]):=by
 let h:iV R v (fZ w):=h;unfold fZ at h;cases h with
 | tup hp pp=>
   cases pp with
   | cons h1 t=>cases t with
     | cons h2 t=>cases t with
       | cons h3 t=>cases t with
         | cons h4 t=>cases t with
           | cons h5 t=>cases t;cases h1;cases h2;cases h3;cases h4;cases h5;exact⟨_,rfl,hp⟩
theorem z6 {K:W7}{R:Hp}:∀{vs:`R}{ws:List jh},PySem.Paired (au.R K R) vs (ws.map fZ)->PySem.Paired (qp.R K R) vs ws
 | _,[],.nil=>.nil
 | _,_::_,.cons h t=>.cons h (z6 t)
theorem EV.Pe {ws:List jh}(h:EV X e Z (ae au) (ws.map fZ) Γ1):EV X e Z (ae qp) ws Γ1:=h.re λK R v ⟨a,vs,e,q,p,z⟩=>⟨a,vs,e,q,z6 p,by rw[RS] at z;exact z⟩
theorem GW (i1 i2 i3 i4 i5:Nat){x1 x2 x3 x4 x5:Str}{k:Nat}{p3 p4 p5:Pos}(hc:X.calm=true:=by rfl)(hN:X.N.Nodup:=by first | assumption | decide)(h1:X.N[i1]?∣x1:=by rfl)(l1:autoParam (Loc X.env.scope x1) YJ)(f1:autoParam (fM X x1) YI)(h2:X.N[i2]?∣x2:=by rfl)(l2:autoParam (Loc X.env.scope x2) YJ)(f2:autoParam (fM X x2) YI)(h3:X.N[i3]?∣x3:=by rfl)(l3:autoParam (Loc X.env.scope x3) YJ)(f3:autoParam (fM X x3) YI)(h4:X.N[i4]?∣x4:=by rfl)(l4:autoParam (Loc X.env.scope x4) YJ)(f4:autoParam (fM X x4) YI)(h5:X.N[i5]?∣x5:=by rfl)(l5:autoParam (Loc X.env.scope x5) YJ)(f5:autoParam (fM X x5) YI):
 BG X (.Tuple [.Name x1 p1,.Name x2 p2,.Name x3 p3,.Name x4 p4,.Name x5 p5] k pos) qp (λw Z=>((((Z.set i1 (.im aq w.1)).set i2 (.im aq w.2.1)).set i3 (.im ag w.2.2.1)).set i4 (.im ag w.2.2.2.1)).set i5 (.im ag w.2.2.2.2)):=λσ H0 R0 H R Z v w E h Q q=>by
 let⟨a,rfl,ha⟩:=B4 h;exact gS (xp hc (fm (fw hN h1 l1 f1) (fm (fw hN h2 l2 f2) (fm (fw hN h3 l3 f3) (fm (fw hN h4 l4 f4) (fm (fw hN h5 l5 f5) pH)))))) ⟨a,_,rfl,d7.of (E.sub _ _ ha),rfl,_,_,rfl,_,_,rfl,_,_,rfl,_,_,rfl,_,_,rfl,rfl,q _ (((((E.set i1 (r:=aq) rfl).set i2 (r:=aq) rfl).set i3 rfl).set i4 rfl).set i5 rfl)⟩
theorem WS.unb (i:Nat){xs:`u}(hΓ:Z[i]?∣(.ob (aP a r xs)))(h:WS X Yx (Z.set i (.mu r xs)) N T):WS X Yx Z N T:=λσ H0 R0 H R E D dn dr=>by
 let⟨ea,⟨vs,ha,pp⟩,hR⟩:=dg (E.ent i _ hΓ);refine h σ H0 R0 H R (E.tell (en:=.mu r xs) hΓ (by rw[ea];exact⟨a,vs,rfl,ha,hR,pp⟩) λb w=>?_) D dn dr;rw[ea] at w;exact w
theorem WS.Nv (i:Nat)(hΓ:Z[i]?∣(.di (cG F)))(h:WS X Yx (Z.set i (.im jz F)) N T):WS X Yx Z N T:=λσ H0 R0 H R E D dn dr=>by
 let⟨a,ea,ha,hR⟩:=E.ent i _ hΓ;let h0:H0 a=none:=E.new i _ a hΓ rfl ea;let E1:ar X.K σ H0 R0 H R (Z.set i .no):=E.tell (en:=.no) hΓ trivial λb w=>by cases w
 let off:Off a σ (Z.set i .no):=λj e q w=>by
  obtain⟨rfl,rfl,_⟩ | ⟨hj,q1⟩:=set_at q
  ·cases w
  ·exact hj (E.ds j i e _ a q1 hΓ w (ck.mpr ea))
 let E2:=E1.rY ha hR h0 off;let hl:i<Z.length:=(RP.mp hΓ).1;let E3:=E2.tell (i:=i) (en:=.im jz F) (e0:=.no) (R8 hl) ⟨.ref a,ea,a,rfl,aD⟩ λb w=>by cases w
 rw[Tb] at E3;exact h σ H0 R0 H _ E3 D (λσ2 H2 R2 Γ2 E4 s2=>dn σ2 H2 R2 Γ2 E4 ((av.fresh hR _).trans s2)) dr
theorem rG {a:Expr}{p:Pos}(hm:X.mg "len"=none)(ha:EV X a Z jz F Γ1)(hs:fU X a:=by rfl)(hg:Gl X "len":=by rfl):EV X (.Call (.Name "len" p) [a] [] pos) Z ag (F.length:Int) Γ1:=
 EV.cast (Ji (kvs:=cG F) hm (EV.rep ha λ_ _ q=>q) hs hg) (by unfold cG;rw[RS])
theorem Dt :EV X (.Constant .none j pos) Z nS () Z:=λσ H0 R0 H R E Q q=>eS LP (q .XT H R E `S rfl)
noncomputable def FlE:Ent->Prop
 | .no=>True
 | .im _ _=>True
 | _=>False
noncomputable def yc:Ga->Prop
 | []=>True
 | e::r=>FlE e/\yc r
theorem yc.fp:∀{Z:Ga},yc Z->∀(i:Nat)(e:Ent),Z[i]?∣e->∀o,e.fp o=[]
 | e::_,⟨h,_⟩,0,_,q,o=>by
   cases q
   cases e with
   | no=>rfl
   | im _ _=>rfl
   | mu _ _=>exact h.elim
   | di _=>exact h.elim
   | ob _=>exact h.elim
 | _::r,⟨_,h⟩,i+1,e,q,o=>yc.fp h i e (~~~q) o
 | [],_,i,e,q,o=>by simp at q
theorem ar.GU (E:`C)(fl:yc Z):ar K σ H R H R Z:=
 ⟨⟨av.refl _,av.refl _,E.sub,λ_ _=>rfl⟩,E.ent,(λi e a q w=>by rw[fl.fp i e q] at w;cases w),(λi j e e' a q q' w w'=>by rw[fl.fp i e q] at w;cases w),E.len⟩
variable {scope:Scope}{ix:List Nat}{ra:Rep α}{rb:Rep β}{bf:α->Ga->Ga}
def Kt (X:Cx)(e:Expr)(Z:Ga){α:Type}(r:Rep α)(P:List α->Prop)(Γ':Ga):Prop:=
 ∀(σ:St)(H0 R0 H R:Hp),ar X.K σ H0 R0 H R Z->∀Q:VK,(∀a vs ys H' R',ar X.K σ H0 R0 H' R' Γ'->av R R'->H' a∣.lst vs->R' a=none->H0 a=none->Off a σ Γ'->PySem.Paired (r.R X.K R') vs ys->ys.length<=UZ->P ys->Q (.ref a) H')->fX X e σ H Q
theorem aZ.evr {ys:`u}{P:List α->Prop}(h:aZ X e Z r ys Γ1)(hp:P ys):Kt X e Z r P Γ1:=λσ H0 R0 H R E Q q=>h σ H0 R0 H R E Q λa vs H' R' E' s' h1 h2 h3 h4 h5 h6=>q a vs ys H' R' E' s' h1 h2 h3 h4 h5 h6 hp
theorem AM {elt:Expr}{cl:`aQ}{own fr:Rm}{xs:`u}{P:α->List β->Prop}{J:It}{H1:Hp}{Q:VK}(E1:ar X.K σ H0 R0 H1 R1 Γ1)(src:Src X.K J R1 ra xs)(hz:xs.length<=UZ)(hb:∀(C:Addr)(s:U0)(H:Hp)(ex:Ro),BG `m tg ra bf)(hw:∀x,Wk `v (dw own ix Γ1))(hfl:∀x,yc `v)(he:∀(C:Addr)(s:U0)(H:Hp)(ex:Ro) x,x∈xs->Kt `m elt `v rb (P x) `v)(q:∀a bs Yl H' R',Ext H1 R1 H' R'->H' a=none->gK X.K rb H' R' bs Yl->bs.Nodup->(∀b∈bs,H1 b=none/\R' b=none)->PySem.Paired P xs Yl->(∀ys∈Yl,ys.length<=UZ)->Q (.ref a) (upd H' a (.lst (bs.map .ref)))):
 ∃W:Nat->Nat->List V->St->Hp->Prop,(∃m,W 0 m [] (iu own ix σ) H1)/\∀i m ys σ' H',W i m ys σ' H'->
  ys.length<=UZ/\((J.stop i H'/\∀p,H' p=none->Q (.ref p) (upd H' p (.lst ys)))∨
  (J.go i H'/\∀x H2,J.yld i H' x H2->(λv σ H Q=>∀C s Hh ex,nQ `q tg v σ H Q:TG) x σ' H2 λσ2 H3=>(λσ H Q=>∀C s Hh ex,oC `q [] σ H Q:TT) σ2 H3 λb H4=>
    if b=true then(λσ H Q=>∀C s Hh ex,fX `q elt σ H Q:TE) σ2 H4 λv H5=>∃m',m'<m/\W (i+1) m' (ys++[v]) σ2 H5 else∃m',m'<m/\W (i+1) m' ys σ2 H4)):=by
 refine⟨λi m ys σ' H'=>m=xs.length-i/\i<=xs.length/\∃R' bs Yl,ar X.K σ' H1 R1 H' R' (dw own ix Γ1)/\ys=bs.map .ref/\gK X.K rb H' R' bs Yl/\bs.Nodup/\(∀b∈bs,H1 b=none/\R' b=none)/\PySem.Paired P (xs.take i) Yl/\∀ys∈Yl,ys.length<=UZ,⟨_,rfl,Ul _,R1,[],[],ya E1 own ix,rfl,⟨rfl,λi b r h1=>by simp at h1⟩,Tx,(λb hb=>by cases hb),(.nil:PySem.Paired P [] []),(λys hy=>by cases hy)⟩,?_⟩;rintro i m ys σ' H' ⟨rfl,hle,R',bs,Yl,E',rfl,hrs,hnd,hbs,pq,hsz⟩;let hbl:bs.length=i:=by rw[hrs.1,← pq.length,Sm];cbv
 let hys:(bs.map V.ref).length<=UZ:=by rw[RS,hbl];cbv
 let⟨sgo,Y5⟩:=src H' R' E'.ext.r E'.sub i;refine⟨hys,?_⟩;by_cases Yq:i<xs.length
 ·let⟨go,yl⟩:=sgo _ (RQ Yq);let Zm:xs[i]∈xs:=SD Yq;let tk:(xs.take (i+1))=xs.take i++[xs[i]]:=by rw[SG,RQ Yq];rfl
  refine .inr ⟨go,λv H2 hy C s Hh ex=>?_⟩;let⟨R2,x2,hr⟩:=yl v H2 hy;refine hb C s Hh ex σ' H1 R1 H2 R2 _ v _ (E'.grow x2) hr _ λσ2 E2=>?_;intro C s Hh ex;refine(dv (X:=bc X scope cl C (own++fr) s Hh ex)) σ2 H2 R2 H2 R2 (E2.GU (hfl _)) _ λH4 R4 E4 s4=>?_;rw[Xv rfl];intro C s Hh ex;refine he C s Hh ex _ Zm σ2 H4 R4 H4 R4 (E4.GU (hfl _)) _ λa vs zs H5 R5 E5 s5 ha hR h0 off pp hz' hP=>?_;let x5:Ext H' R' H5 R5:=x2.trans (E4.ext.trans E5.ext);let x25:Ext H2 R2 H5 R5:=E4.ext.trans E5.ext;let YU:∀b∈bs,H' b≠none:=λb hb=>by
   let⟨r,hr⟩:=hrs.one hb;rw[hr];exact UL _
  let hold:∀b∈bs,b≠a:=λb hb e=>by
   have:H4 b≠none:=av.some (x2.h.trans E4.ext.h) (YU b hb);exact this (e▸h0)
  refine⟨xs.length-(i+1),`a,rfl,Yq,R5,bs++[a],Yl++[zs],(E2.grow x25).weak (hw _),by rw[Sf];rfl,?_,?_,λb hb=>?_,?_,λys hy=>?_⟩
  ·refine gK.snoc (gK.loc hrs (λc hc=>?_) x5.r) ha pp;cases e:H' c with
   | none=>exact Xt e (YU c hc)
   | some u=>exact x5.h c u e
  ·exact iN hnd λz=>hold a z rfl
  ·obtain z | z:=Se.mp hb
   ·exact⟨(hbs b z).1,(x5.old b (YU b z)).trans (hbs b z).2⟩
   ·rw[RU.mp z];exact⟨(E'.ext.h.trans (x2.h.trans E4.ext.h)).free h0,hR⟩
  ·rw[tk];exact dQ pq (.cons hP .nil)
  ·obtain z | z:=Se.mp hy
   ·exact hsz ys z
   ·rw[RU.mp z];exact hz'
 ·let e:i=xs.length:=`a
  subst e;rw[SK] at pq;exact .inl ⟨Y5 (Uk _),λa ha=>q a bs Yl H' R' E'.ext ha hrs hnd hbs pq hsz⟩
theorem IU (i:Nat){py YL:Pos}{elt:Expr}{cl:`aQ}{own fr:Rm}{xs:`u}{P:α->List β->Prop}(S:fF X scope cl own fr ix)(hit:IV X tg iter Z ra xs Γ1)(hb:∀(C:Addr)(s:U0)(H:Hp)(ex:Ro),BG `m tg ra bf)(hw:∀x,Wk `v (dw own ix Γ1))(hfl:∀x,yc `v)(he:∀(C:Addr)(s:U0)(H:Hp)(ex:Ro) x,x∈xs->Kt `m elt `v rb (P x) `v)(h:∀a bs Yl,PySem.Paired P xs Yl->(∀ys∈Yl,ys.length<=UZ)->N (Γ1.set i (.ob (fN rb a bs Yl))))(Yc:U7 (.ListComp elt [⟨tg,iter,[],0⟩] scope pos) (some (.Name y py)) YL.line X.env=pure true:=by rfl)(hN:X.N.Nodup:=by first | assumption | decide)(hi':X.N[i]?∣y:=by rfl)(hx:`ax)(hc:X.calm=true:=by rfl)(hs:∀x,Va iter X.env x=pure x:=by intro _;rfl)(hf:autoParam (fM X y) YI):
 W1 X (.Assign [.Name y py] (.ListComp elt [⟨tg,iter,[],0⟩] scope pos) YL) Z N T:=λσ H0 R0 H R E D dn dr=>by
 let⟨wi,hi,hit⟩:=hit;refine sS (nX (i:=i) (g:=λv σ H Q=>∀C s Hh ex,nQ `q tg v σ H Q) (tc:=λσ H Q=>∀C s Hh ex,oC `q [] σ H Q) (te:=λσ H Q=>∀C s Hh ex,fX `q elt σ H Q) Yc hN hi' hx hc S hi
  `x hs hf) ?_
 refine hit σ H0 R0 H R E _ λJ H1 R1 E1 s1 hz src=>AM (Q:=λv H'=>D.nx (σ.set i (some v)) H') E1 src hz hb hw hfl he λa bs Yl H' R' xx ha hg hnd hbs pq hsz=>?_;let E2:=E1.grow xx;let E3:=E2.grow (Ext.d6 E2.sub ha (.lst (bs.map .ref)));let inb:∀c∈bs,H' c≠none:=λc hc=>by
  let⟨r,hr⟩:=hg.one hc;rw[hr];exact UL _
 let nab:a∉bs:=λz=>inb a z ha;refine dn _ _ R' _ (E3.setG (en:=.ob (fN rb a bs Yl)) i ⟨⟨.ref a,rfl,rfl,aD,hg.loc (λc hc=>aG λz=>nab (z▸hc)) `S,Sn.mpr ⟨nab,hnd⟩⟩,λb hb=>?_⟩ (λb hb=>?_) λb hb j e _ qj w=>?_) (s1.trans xx.r) (h a bs Yl pq hsz)
 ·obtain rfl | hb:=R9.mp hb
  ·exact E2.sub.free ha
  ·exact(hbs b hb).2
 ·obtain rfl | hb:=R9.mp hb
  ·exact E2.ext.h.free ha
  ·exact E1.ext.h.free (hbs b hb).1
 ·obtain rfl | hb:=R9.mp hb
  ·exact E2.off ha j e qj w
  ·exact(Ent.fG (E1.ent j e qj) w).1 (hbs b hb).1
theorem Jb {S:ma α}{qual:Str}{N ps:Rm}{k:Nat}(F:dI K x qual st f fd)(Sc:bE N ps (ao st))(hm:mg x∣.ref f)(hb:Binds K fd ps [])(len:∀xs qs T,S K xs qs T->qs.length+1=ps.length)(X2:∀(XH:`aM)(A:U6)(outer:List Env)(s:U0)(H:Hp)(E:XK)(a:Addr)(xs:`u)(qs:List Pk)(T:List α->RT),bG k `ap->S K xs qs T->
  WS (eK eo P w K mg base N qual (ao st) f XH A outer s H E).gF (bD st) (.ob (aP a r xs)::fW qs (N.length-1)) (λZ=>∃xs',Z[0]?∣(.ob (aP a r xs'))/\∀H0 H' R',T xs' H0 .XT H' R') (wQ K a r T)):aE P w K mg base x (k+1) (gI r S K):=by
 refine⟨f,fd,ps,?_,hm,F.kp,hb⟩;refine F.ok Sc (λvs H Q E h=>?_) `af
 ·let⟨R,a,ws,xs,Yg,qs,T,rfl,_,_,_,_,p,hS,_⟩:=h;rw[Sb,p.length];exact len xs qs T hS
 ·let⟨R,a,ws,xs,Yg,qs,T,rfl,sR,hR,ha,pp,p,hS,q⟩:=h;let hl:qs.length+1<=N.length:=by
   rw[len xs qs T hS];have:=congrArg List.length Sc.pre;rw[Sm] at this;cbv
  refine⟨_,iM,X2 XH A outer s H E a xs qs T hr hS (L2.start N (.ref a::Yg)) (del H a) R H R (sF sR hR ha pp p hl) {nx:=λ_ H'=>Q .XT H',rt:=Q} (λσ' H' R' Γ' E' _ ⟨xs',hΓ,t⟩=>?_) λv H' R' xx t=>?_⟩
  ·let⟨ea,⟨YH,Yv,YD⟩,Yj⟩:=dg (E'.ent 0 _ hΓ);exact q .XT H' R' YH xs' E'.ext Yv Yj YD (t _ _ _)
  ·let⟨YH,xs',h1,h2,h3,h4⟩:=t;exact q v H' R' YH xs' xx h1 h2 h3 h4
theorem E7 {S:ma α}{N ps:Rm}{k:Nat}(D:Def K mg x st ps)(X2:∀(f:Addr)(XH:`aM)(A:U6)(outer:List Env)(s:U0)(H:Hp)(E:XK)(a:Addr)(xs:`u)(qs:List Pk)(T:List α->RT),N.Nodup->bG k (A.deeper (UT x (ao st) ⇑s f XH))->S K xs qs T->
  WS (eK eo P w K mg base N x (ao st) f XH A outer s H E).gF (bD st) (.ob (aP a r xs)::fW qs (N.length-1)) (λZ=>∃xs',Z[0]?∣(.ob (aP a r xs'))/\∀H0 H' R',T xs' H0 .XT H' R') (wQ K a r T))(len:∀xs qs T,S K xs qs T->qs.length+1=ps.length:=by(intros;rename_i h;repeat (first | (rw[h.1];rfl) | let⟨_,h⟩:=h)))(Sc:bE N ps (ao st):=by exact YV):aE P w K mg base x (k+1) (gI r S K):=by
 let⟨f,fd,F,hm,hb⟩:=D;exact Jb F Sc hm hb len λXH A outer s H E a xs qs T=>X2 f XH A outer s H E a xs qs T Sc.nd
noncomputable def Eg (k:Str):Value->Bool
 | .str x _=>decide (x=k)
 | _=>false
noncomputable def Jh:V->List V->Hp->VK->Prop:=λx vs H Q=>∃(l:Addr)(ns:Rm)(k:Str)(j:Nat),x= .ref l/\vs=[.str k]/\H l∣(.lst (ns.map V.str))/\ns[j]?∣k/\(∀m,m<j->ns[m]?≠some k)/\Q (.int (j:Nat)) H
theorem D3:z9 X "list.index" Jh:=by
 intro XD s σ H x vs v us Q I rx rv h;let⟨l,ns,k,j,rfl,rfl,hH,hj,ZQ,q⟩:=h;cases rx
 let⟨u,rfl,t,rfl⟩:=rv.one;let⟨hz,XF,m,r1,hl,ho⟩:=I.nY hH;let jl:j<ns.length:=(RP.mp hj).1;let hl2:XF.length=ns.length:=by rw[← hl,RS]
 let at_:∀(n:Nat)(h1:n<XF.length)(h2:n<ns.length),∃t',XF[n]= .str ns[n] t':=λn h1 h2=>by
  let⟨u,e1,t',e2⟩:=r1.get (show(ns.map V.str)[n]?∣(.str ns[n]) by rw[R6,RQ h2];rfl);rw[RQ h1] at e1;exact⟨t',(Option.some.inj e1).trans e2⟩
 refine Vy PySem.F.slot_list_index ⟨_,ho,rfl⟩ PySem.F.entry_list_index (PySem.F.args_list_index_2 _ _)
  (SeqAt.list_indexAt l XF.toArray m _ _ (.str k t) (Eg k) j (by simpa[hl2] using jl) ?_ ?_ ?_) ⟨ho,λw hw=>?_,?_⟩
 ·have:UZ<2 ^ 63-1:=`c
  rw[RS] at hz;cbv
 ·let⟨t',e⟩:=at_ j `a jl;show Eg k XF[j]=true;rw[e];rw[RQ jl] at hj;exact Xy (Option.some.inj hj)
 ·intro n hn hnj;let⟨t',e⟩:=at_ n (~~~hn) `a;show Eg k XF[n]=false;rw[e];refine Xz λz=>ZQ n hnj ?_;rw[RQ `a,z]
 ·let hw:w∈XF:= ~~~hw
  let⟨n,hn,rfl⟩:=TQ.mp hw;let⟨t',e⟩:=at_ n hn `a;rw[e];intro prog w E Q hq;exact wpAny_eqBool_str hq
 ·exact⟨.int _,H,I.tok _,⟨_,rfl⟩,q⟩
theorem Bq {a:Expr}{k:Str}(ha:EV X a Z (ae aq) ns Γ1)(he:EV X e Γ1 aq k Γ2)(hj:ns[j]?∣k)(ZQ:∀m,m<j->ns[m]?≠some k)(XN:eX X a "index":=by rfl)(X4:l6 X cp [e]:=by rfl)(XM:`Y=true:=by rfl)(hs:dh X e []:=by rfl):EV X (.Call (.Attribute a "index" ap) [e] [] cp) Z ag (j:Nat) Γ2:=λσ H0 R0 H R E Q q=>by
 refine eS (gT Wt PySem.F.slot_list_index PySem.F.type_list_index D3 aO (aI aO bq hs) XN X4 XM hs rfl) `A;let⟨b,vs,rfl,hb,pp,hz⟩:=e1;let ev:=mJ pp;subst ev;refine⟨.inl ⟨rfl,_,bt.of (E1.sub _ _ hb)⟩,he σ H0 R0 H1 R1 E1 _ λu H2 R2 E2 s2 e2=>?_⟩;cases e2
 exact⟨b,ns,k,j,rfl,rfl,E2.sub _ _ (s2 _ _ hb),hj,ZQ,q _ _ _ E2 `E rfl⟩
theorem ints4 {a b c d:Int}(h:eY R vs [.int a,.int b,.int c,.int d]):vs=[.int a,.int b,.int c,.int d]:=by
 cases h with
 | cons h1 t=>cases t with
   | cons h2 t=>cases t with
     | cons h3 t=>cases t with
       | cons h4 t=>cases t;cases h1;cases h2;cases h3;cases h4;rfl
theorem Ic {k:Nat}{r:Row}(h:EA X es Z au [.int r.1,.int r.2.1,.int r.2.2.1,.int r.2.2.2] Γ1):EV X (.Tuple es k pos) Z dU r Γ1:=
 EV.re (fR h (by show 4<=UZ;decide)) λK R v e=>by
   cases e with
   | tup hp pp=>rw[ints4 pp] at hp;exact⟨_,rfl,hp⟩
def qW (t:Int×Int):PV:=.tup [.int t.1,.int t.2]
theorem zq {K:W7}{R:Hp}:∀{vs:`R}{xs:Rt},PySem.Paired ((cz ag ag).R K R) vs xs->eY R vs (xs.map qW)
 | _,_,.nil=>.nil
 | _,_,.cons h t=>by
   let⟨a,v1,v2,rfl,ha,g1,g2⟩:=h;cases g1;cases g2
   exact .cons (.tup ha (.cons (.int _) (.cons (.int _) .nil))) (zq t)
theorem EV.zX {xs:Rt}(h:EV X e Z (ae (cz ag ag)) xs Γ1):EV X e Z au (.lst (xs.map qW)) Γ1:=h.re λK R v ⟨a,vs,e,q,p,z⟩=>by subst e;exact .lst q (zq p) (by rw[RS];exact z)
theorem kU {n:Int}(R H:Hp)(v:V)(_:av R H)(h:au.R K R v (.int n)):fP K H v (.type "int"):=by cases h;exact .int _
theorem kO (R H:Hp)(v:V)(_:av R H)(h:au.R K R v (.str x)):fP K H v (.type "str"):=by cases h;exact .str _
variable {t:Addr}{items:Array Value}
theorem uZ {it t:Addr}{items:Array Value}(XS:t≠it):∀(n i:Nat)(s:U0)(Q:Rp->U0->Prop),s.heap.IsListIter it t i->s.heap.IsList t items->i+n<=items.size->
 (∀h',h'.IsListIter it t (i+n)->WI it s.heap h'->Q ((items.toList.drop i).take n) {s with heap:=h'})->wpAny `t A (draw (.ref it) n) Q E s
 | 0,i,s,Q,hit,_,_,hQ=>by
   show wpAny _ _ (pure []) Q E s;exact U3 (~~~hQ s.heap hit (WI.refl ..))
 | n+1,i,s,Q,hit,ht,hle,hQ=>by
   let Yq:i<items.size:=`a
   show wpAny _ _ (VY (.ref it) >>=_) Q E s;refine U1 (wpAny_pyNext_list_item hit ht (x:=items[i]) (by simp[Yq]) λh₁ hit₁ hs₁=>?_);refine U1 (Vg (uZ XS n (i+1) _ _ hit₁ (ht.extBut hs₁.extBut XS) `a λh₂ hit₂ hs₂=>U3 ?_));let hd:items.toList.drop i=items[i]::items.toList.drop (i+1):=by simp[S7,Yq]
   have:=hQ h₂ (by rw[show i+(n+1)=i+1+n by cbv];exact hit₂) (hs₁.trans hs₂);rw[hd,SQ] at this;exact this
theorem rN {Q:Rp->U0->Prop}(hh:A.handled=none)(ht:s.heap.IsList t items)(hQ:∀h',WM ⇑s s.heap h'->Q items.toList {s with heap:=h'}):wpAny `t A (unpackItems (.ref t) items.size none) Q E s:=by
 let Yq:t≠⇑s:=by let⟨o,ho,_⟩:=ht;exact Ur (WE ho)
 unfold unpackItems;refine U1 ?_
 ·unfold notIterableAtAll;refine U1 (wpAny_specialOf ht.typeIs slot_list_iter.lookup ?_);refine U3 ?_;simp only[RC,if_false];refine U1 (Vg (Vw ht ?_));refine U1 (Vg (uZ Yq items.size 0 _ _ ⟨_,WG _ rfl,rfl,rfl⟩ (ht.push _) `a λh₁ hit₁ hs₁=>?_));let ZS:List.take items.size (List.drop 0 items.toList)=items.toList:=by
   rw[drop_zero];exact Tg `d
  rw[ZS];rw[Xu `d];let ht₁:h₁.IsList t items:=(ht.push _).extBut hs₁.extBut Yq;refine U1 (Vg (wpAny_pyNext_list_end hh hit₁ ht₁ `d λh₂ he₂=>?_));simp only[Option.isSome_none,RC,if_false];refine U3 (hQ h₂ λb o hb e=>he₂ b o hb (hs₁.extBut b o hb (WC _ e)))
theorem qf {env:Env}{elts:Rr}{x1}{Q:Unit->U0->Prop}(hh:A.handled=none)(ht:s.heap.IsList t items)(hn:(Vf elts env).length=items.size)(hstar:(Vf elts env).findIdx? (·.1)=none)(h:∀h',WM ⇑s s.heap h'->wpAny `t A (assignInOrder ((Vf elts env).map (·.2)) items.toList) Q E {s with heap:=h'}):
 wpAny `t A (Vt (.Tuple elts x1 pos) env (.ref t)) Q E s:=by
 rw[assign_Tuple];refine U1 (VS ?_);unfold unpack;rw[hn,hstar];exact U1 (Vg (rN hh ht h))
def Q8 (K:W7)(n:Nat)(t:sk):TG:=λv σ H Q=>∃a xs,v= .ref a/\bt K H a xs/\xs.length=n/\t xs σ H Q
theorem LW {k:Nat}{t:sk}(hc:X.calm=true)(h:DM X es t)(hn:(Vf es X.env).length=n:=by rfl)(hst:(Vf es X.env).findIdx? (·.1)=none:=by rfl):PG X (.Tuple es k pos) (Q8 X.K n t):=by
 intro XD s σ H v u Q I r hw;let⟨a,xs,e1,hq,hl,hw⟩:=hw;subst e1;cases r
 let⟨XF,rv,pl,hz⟩:=I.list hq;refine qf (I.ok.hd hc) pl.isList (by simp[hn,← hl,rv.length]) hst λh' hx=>?_;let I1:Inv X XD σ H {s with heap:=h'}:=I.kept (t':=s.toks) λb o e=>hx b o (Ur (WE e)) e;exact h XD _ σ H xs _ Q I1 (~~~rv) hw
def yj (r:Rep α):Rep (α×α):=⟨λK H v x=>(ae r).R K H v [x.1,x.2],λs h=>(ae r).mono s h⟩
theorem zo (i j:Nat){k:Nat}(hc:X.calm=true:=by rfl)(hN:X.N.Nodup:=by first | assumption | decide)(hi:X.N[i]?∣x:=by rfl)(hx:`ai)(hf:autoParam (fM X x) YI)(hj:X.N[j]?∣y:=by rfl)(hy:`ax)(hf':autoParam (X.fn y=true∨X.env.scope.names.lookup y∣.local) YI):
 BG X (.Tuple [.Name x p1,.Name y p2] k pos) (yj r) (λw Z=>(Z.set i (.im r w.1)).set j (.im r w.2)):=λσ H0 R0 H R Z v w E h Q q=>by
 let⟨a,vs,rfl,ha,pp,_⟩:=h;obtain⟨v1,v2,rfl,e1,e2⟩:∃v1 v2,vs=[v1,v2]/\r.R X.K R v1 w.1/\r.R X.K R v2 w.2:=by
  cases pp with
  | cons h1 t=>cases t with
    | cons h2 t=>cases t;exact⟨_,_,rfl,h1,h2⟩
 exact gS (LW hc (fm (fw hN hi hx hf) (fm (fw hN hj hy hf') pH))) ⟨a,_,rfl,bt.of (E.sub _ _ ha),rfl,v1,[v2],rfl,v2,[],rfl,rfl,q _ ((E.set i e1).set j e2)⟩
theorem Ec (i:Nat){ys:`u}(he:aZ X e Z r ys Γ1)(h:∀a b,N (Γ1.set i (.ob (fN r a [b] [ys]))))(hN:X.N.Nodup:=by first | assumption | decide)(hi:X.N[i]?∣y:=by rfl)(hx:`ax)(Z0:dh X e []:=by rfl)(hs:U7 (.List [e] p2) (some (.Name y p1)) pos.line X.env=pure false:=by rfl)(hf:autoParam (fM X y) YI):W1 X (.Assign [.Name y p1] (.List [e] p2) pos) Z N T:=λσ H0 R0 H R E D dn dr=>by
 refine sS (j8 hN hi hx (sM (aI aO bq Z0)) hs hf) (he σ H0 R0 H R E _ λb vs H1 R1 E1 s1 hb hRb h0b offb pp _=>⟨by show 1<=UZ;decide,λa ha=>?_⟩);let E2:=E1.grow (Ext.d6 E1.sub ha (.lst [.ref b]));let nab:b≠a:=λz=>by rw[z,ha] at hb;cases hb
 refine dn _ _ R1 _ (E2.setG (en:=.ob (fN r a [b] [ys])) i ⟨⟨.ref a,rfl,rfl,aD,?_,by simpa using UJ nab⟩,λc hc=>?_⟩ (λc hc=>?_) λc hc j e _ qj w=>?_) s1 (h a b)
 ·refine⟨rfl,λk c xs h1 h2=>?_⟩
  match k with
  | 0=>cases h1;cases h2;exact⟨vs,(aG nab).trans hb,pp⟩
  | k+1=>simp at h1
 ·obtain rfl | hc:=R9.mp hc
  ·exact E1.sub.free ha
  ·rw[RU.mp hc];exact hRb
 ·obtain rfl | hc:=R9.mp hc
  ·exact E1.ext.h.free ha
  ·rw[RU.mp hc];exact h0b
 ·obtain rfl | hc:=R9.mp hc
  ·exact E1.off ha j e qj w
  ·rw[RU.mp hc] at w;exact offb j e qj w
theorem Jg (i:Nat){ys:`u}(hΓ:Z[i]?∣(.ob (fN r a as (xss++[ys]))))(h:∀bs,N (Z.set i (.ob (fN r a bs xss))))(hN:`o)(Yc:U7 (.Call (.Attribute `h "pop" ap) [] [] cp) none pos.line X.env=pure false:=by rfl)(XN:eX X `h "pop":=by rfl)(XM:`Y=true:=by rfl):W1 X (.Expr (.Call (.Attribute `h "pop" ap) [] [] cp) pos) Z N T:=λσ H0 R0 H R E D dn dr=>by
 let⟨⟨v,ea,rfl,ha,hr,nd⟩,hR⟩:=E.ent i _ hΓ;let hl:as.length=xss.length+1:=by rw[hr.1];simp
 obtain⟨bs,b,rfl⟩:∃bs b,as=bs++[b]:=⟨_,_,(SS (λe=>by rw[e] at hl;cases hl)).symm⟩
 let bl:bs.length=xss.length:= ~~~hl
 let⟨n1,n2⟩:=Sn.mp nd;refine sS (dO (Dg Wt PySem.F.slot_list_pop PySem.F.type_list_pop DS (aV hN) XN XM) Yc) ⟨.ref a,at_of ea,.inl ⟨rfl,_,bt.of ha⟩,a,_,.ref b,rfl,rfl,ha,`d,?_⟩;let sub:∀c,c∈a::bs->c∈a::(bs++[b]):=λc hc=>by
  obtain rfl | hc:=R9.mp hc
  ·exact RZ
  ·exact RX _ (Sg _ hc)
 refine dn σ _ R _ (E.lF (en:=.ob (fN r a bs xss)) hΓ RZ ⟨⟨.ref a,ea,rfl,by rw[aD];simp,⟨bl,λk c xs h1 h2=>?_⟩,(Sn.mpr ⟨λz=>n1 (Sg _ z),(SO.mp n2).1⟩)⟩,λc hc=>hR c (sub c hc)⟩ λc w=>.inl (sub c w)) `S (h bs);let kl:=(RP.mp h1).1;let⟨ws,q1,q2⟩:=hr.2 k c xs (by rw[So kl];exact h1) (by rw[So `a];exact h2);let ca:c≠a:=λz=>n1 (z▸Sg _ (R7 h1));exact⟨ws,(aG ca).trans q1,q2⟩
theorem Je (i:Nat){c:Expr}{p3:Pos}{xs:`u}{y:α}{k l:Int}(he:EV X e Z r y Z)(hb:EV X b Z ag k Z)(hc:EV X c Z ag l Z)(hΓ:`aD)(hk:fO xss.length k∣j)(hx:xss[j]?∣xs)(hn:fO xs.length l∣n)(h:N (Z.set i (.ob (fN r a as (xss.set j (xs.set n y))))))(hN:`o)(hsx:dN b:=by exact λ_ _=>rfl)(ha:∀v,Vt (.Subscript `ah c p3) X.env v=(do
  let ov ← Vk [v] (eval `ah X.env)
  let iv ← Vk [v,ov] (eval c X.env)
  VG p3
  Vk [v,ov,iv] (V4 ov iv v)
  release [v,ov,iv] []):=by intro _;rfl)(hs:VE [.Subscript `ah c p3] e pos.line X.env=pure false:=by rfl)(hw:VF [.Subscript `ah c p3] e X.env=pure none:=by rfl)(h1:(Vf [.Subscript `ah c p3] X.env).map (·.2)=[Vt (.Subscript `ah c p3) X.env]:=by rfl):
 W1 X (.Assign [.Subscript `ah c p3] e pos) Z N T:=λσ H0 R0 H R E D dn dr=>by
 refine sS (sL aO (vL aO aO set_list ha) hs hw h1) `K;refine Du i hb hΓ hk E1 (λd H2 R2 E2 s2 hd'=>?_) hN hsx;refine hc σ H0 R0 H2 R2 E2 _ λu H3 R3 E3 s3 e3=>?_;let⟨⟨v',ea,rfl,ha3,hr,nd⟩,hR⟩:=E3.ent i _ hΓ;let⟨ws,q1,q2⟩:=hr.2 j d xs hd' hx;let⟨n1,n2⟩:=Sn.mp nd;let cm:d∈as:=R7 hd';refine⟨d,ws,l,n,rfl,e3,q1,by rw[q2.length];exact hn,?_⟩;refine dn σ _ R3 _ (E3.lF (en:=.ob (fN r a as (xss.set j (xs.set n y)))) hΓ (RX _ cm) ⟨⟨.ref a,ea,rfl,?_,hr.put n2 hd' (kA (r.mono (s2.trans s3) e1) n q2),nd⟩,hR⟩ λc w=>.inl w) (s1.trans (s2.trans s3)) h;rw[aG (show a≠d from λz=>n1 (z▸cm))];exact ha3
theorem nL (hΓ:`aD)(hz:xss.length<=UZ)(ZY:∀xs∈xss,xs.length<=UZ)(σ:St)(H0 R0 H R:Hp)(E:`aF):ar X.K σ H H H H ((Z.map lX).set i (.im (ae (ae r)) xss)):=by
 let⟨⟨v,ea,rfl,ha,hr,nd⟩,hR⟩:=E.ent i _ hΓ;exact E.Yu.kB (i:=i) (e0:=.no) (by rw[R6,hΓ];rfl) ⟨.ref a,ea,a,_,rfl,ha,gK.pair E.sub (λ_ _=>rfl) hr ZY,hz⟩ λb w=>by cases w
def tw2 (t:α×α):List α:=[t.1,t.2]
theorem wD {K:W7}{R:Hp}{r:Rep α}:∀{vs:`R}{st:List (α×α)},PySem.Paired ((ae r).R K R) vs (st.map tw2)->PySem.Paired ((yj r).R K R) vs st
 | _,[],h=>by cases h;exact .nil
 | _,t::st,h=>by
   cases h with
   | cons a b=>exact .cons a (wD b)
theorem EV.two {st:List (α×α)}(h:EV X e Z (ae (ae r)) (st.map tw2) Γ1):EV X e Z (ae (yj r)) st Γ1:=h.re λK R v ⟨a,vs,e,q,p,z⟩=>⟨a,vs,e,q,wD p,by rwa [RS] at z⟩
noncomputable def L5:Rr->Rt->Prop
 | [],[]=>True
 | e::es,x::xs=>(∃k1 p1 k2 p2 k p,e= .Tuple [.Constant (.int x.1) k1 p1,.Constant (.int x.2) k2 p2] k p)/\L5 es xs
 | _,_=>False
theorem Ct:∀{es:Rr}{xs:Rt},L5 es xs->EA X es Z (cz ag ag) xs Z
 | [],[],_=>aK
 | _::_,_::_,⟨⟨_,_,_,_,_,_,e⟩,h⟩=>by
   subst e;exact ak (gX (ah ev_int (ah ev_int ax))) (Ct h)
theorem J6 {xs:Rt}(h:L5 es xs)(hz:xs.length<=UZ):IV X tg (.List es pos) Z (cz ag ag) xs Z:=bI (aZ.im (aN (Ct h) hz))
theorem Ks {tg iter:Expr}{body:List Stmt}{pos:Pos}{r:Rep α}{xs:`u}{bf:α->Ga->Ga}{I:Ga->Prop}(hit:IV X tg iter Z r xs Γ1)(hb:BG X tg r bf)(h0:I Γ1)(Yk:∀x∈xs,∀Z:Ga,I Z->WS X body (bf x Z) I T)(YB:∀Z:Ga,I Z->N Z)(hc:X.calm=true:=by rfl)(hp:VR `f X.A X.env X.xe:=by exact VR.never)(hs:∀x,Va iter X.env x=pure x:=by intro _;rfl):W1 X (.For tg iter body [] pos) Z N T:=
 bN (λ_=>I) hit hb h0 (λ_ x Z h=>Yk x (R7 h) Z) YB hc hp hs
end Fc
namespace K1
open PySem L2 Fc
open PySem.Spec hiding Row
open PyProof.Rows hiding St
open PySem.Builtin.Int (intBits)
variable {P:U4}{w:World}{K:W7}{mg:Rj}{base:Heap}{f:Addr}{fd:U8}
abbrev ON (v:Rl×List Fc.Row):Ent:=.im (cz (ae ag) (ae dU)) v
abbrev aA (x:Int):Ent:=.im ag x
abbrev dR (x:Rl):Ent:=.im (ae ag) x
theorem ot {x y:Int}(h0:0<=x)(h1:x<4294967296):Wa x y:=.of_left (VT `a `a)
variable {n:Nat}{i:Int}
theorem xU (h0:0<=i)(h1:i<n):fO n i∣i.toNat:=by unfold fO;rw[Xv h0,Xv h1]
abbrev js:Rep (Int×Int):=cz ag ag
theorem aM (h:n<=1000000):n<=UZ:=Um h `c
variable {α:Type}{xs:`u}
theorem a7 (d:α)(h0:0<=i)(h1:i<xs.length):bP xs i∣xs.getD i.toNat d:=by
 rw[gm h0 h1,RQ `a,RR,RQ `a];rfl
theorem kX {y:α}(h:xs[xs.length-1]?∣y):bP xs (-1)∣y:=by
 let hl:0<xs.length:=by
  have:=(RP.mp h).1;cbv
 unfold bP fO;rw[Xu `a,Xv `a];show xs[((-1:Int)+(xs.length:Int)).toNat]?=_;rw[show((-1:Int)+(xs.length:Int)).toNat=xs.length-1 by cbv];exact h
end K1
namespace K1
open PySem
variable {P:U4}{w:World}{K:W7}{mg:Rj}{base:Heap}{f:Addr}{fd:U8}
abbrev top (i:Nat):Stmt:=PySem.Challenge.pw_fewcounters_k74_whole_two_programs_by_tu.main.body.getD i (.Pass ⟨0,0,0,0⟩)
abbrev yv:Nat:=12
abbrev xM:Nat:=13
abbrev tL:Nat:=14
abbrev yC:Nat:=15
abbrev Ni:Nat:=16
abbrev IX:Nat:=25
abbrev EI:Nat:=26
abbrev IF:Nat:=27
abbrev wN:Nat:=28
abbrev ug:Nat:=29
abbrev A5:Nat:=30
abbrev qU:Nat:=31
abbrev yB:Nat:=32
abbrev yA:Nat:=33
abbrev vt:Nat:=34
abbrev C8:Nat:=35
abbrev yp:Nat:=36
abbrev Az:Nat:=37
abbrev AE:Nat:=38
abbrev wg:Nat:=39
abbrev tD:Nat:=42
abbrev vh:Nat:=43
abbrev vo:Nat:=44
abbrev uk:Nat:=45
abbrev rK:Nat:=46
abbrev A4:Nat:=47
abbrev tZ:Nat:=48
abbrev vk:Nat:=49
abbrev qh:Nat:=50
abbrev uH:Nat:=51
abbrev qI:Nat:=52
abbrev sO:Nat:=53
abbrev Dk:Nat:=55
abbrev Cq:Nat:=61
abbrev sf:Nat:=62
abbrev vj:Nat:=64
abbrev vR:Nat:=65
abbrev wX:Nat:=66
abbrev uz:Nat:=67
abbrev vm:Nat:=68
abbrev wK:Nat:=69
abbrev vf:Nat:=70
abbrev vp:Nat:=71
abbrev xv:Nat:=72
abbrev qQ:Nat:=73
abbrev vi:Nat:=74
abbrev wY:Nat:=75
abbrev uh:Nat:=76
abbrev yt:Nat:=77
abbrev wL:Nat:=78
abbrev vT:Nat:=79
abbrev sU:Nat:=80
abbrev JU:Nat:=81
end K1
namespace K1
open PySem L2 Fc
open PySem.Spec hiding Row
open PyProof.Rows hiding St
open PySem.Builtin.Int (intBits)
variable {P:U4}{w:World}{K:W7}{mg:Rj}{base:Heap}{f:Addr}{fd:U8}
structure cb (K:W7)(mg:Rj):Prop where
 len:mg "len"=none
 min:mg "min"=none
 range:mg "range"=none
 int:mg "int"=none
 list:mg "list"=none
 zip:mg "zip"=none
 enumerate:mg "enumerate"=none
 reversed:mg "reversed"=none
 any:mg "any"=none
 all:mg "all"=none
noncomputable def A0 (c:Int):Nat->Int
 | 0=>c
 | n+1=>A0 c n/2147483587
def jv (d k:Int):Int:=d%10 ^ 18+48271*(k+1)
def rh (u k:Int):Int:=u*u%2147483629+69621*k
def wO (d k:Int):Int:=rh (jv d k) k*rh (jv d k) k%2147483587
def wa (ns:Rl)(k:Int):Int:=A0 (ns.getD (k/8%63).toNat 0/10 ^ 18) (k%8).toNat
def vB (ns:Rl)(k:Int):Bool:=decide (k/8%63<(ns.length:Int))&&decide (10 ^ 18<=ns.getD (k/8%63).toNat 0)
noncomputable def XG (ns:Rl)(k:Int):Int:=
 if vB ns k=true/\0<wa ns k then wa ns k%2147483587
 else wO `aB k
theorem uo (ns:Rl)(k:Int):0<=XG ns k/\XG ns k<2147483587:=by
 unfold XG;split
 ·exact⟨RK _ `c,RJ _ `c⟩
 ·unfold wO;exact⟨RK _ `c,RJ _ `c⟩
abbrev G0:Stmt:=top vj
abbrev Pc:Rm:=["_law_script","_law_k","_law_at","_law_cell","_law_j","_law_number"]
structure zt (ns:Rl):Prop where
 l:ns.length<=63
 b:∀n∈ns,intBits n<=2 ^ 20
def Gy:dc:=λK ps T=>∃(ns:Rl)(k:Int),ps=[⟨cO,ns⟩,⟨ag,k⟩]/\zt ns/\0<=k/\k<=1000000/\T=cP K ag (· =XG ns k)
theorem MI (M:cb K mg)(Df:Def K mg "_law_mixed" G0 ["_law_script","_law_k"]):aE P w K mg base "_law_mixed" 1 (aQ Gy K):=by
 refine bO (N:=Pc) Df `n;let⟨ns,k,rfl,hs,k0,k1,rfl⟩:=hS;let h63:=hs.l;let a0:=RK (k/8) (show(63:Int)≠0 by decide);refine ai (ba 2 (cU (ni `g ev_int ⟨`c,`c⟩) ev_int `c) ?_);let rest:∀e3 e4:Ent,¬(vB ns k=true/\0<wa ns k)->WS (eK eo P w K mg base Pc "_law_mixed" (ao G0) f XH A outer s H E).gF ((bD G0).drop 2) [.im cO ns,aA k,aA (k/8%63),e3,e4,.no] (λ_=>False) (cP K ag (· =XG ns k)):=by
  intro e3 e4 hn;refine ai (ba 3 ev_int ?_);change WS _ _ [.im cO ns,aA k,aA (k/8%63),aA 0,e4,.no] _ _;refine bA (N1:=λZ=>Z=[.im cO ns,aA k,aA (k/8%63),aA `aB,e4,.no]) (a9 (ay iJ (ud M.len `e) ev_int) (λh=>?_) `J) ?_
  ·let hl:(0:Int)<ns.length:=Xw h;let hmin:(if(ns.length:Int)<63 then(ns.length:Int) else 63)=ns.length:=by
    by_cases q:(ns.length:Int)<63
    ·rw[Xv q]
    ·rw[Xu q];cbv
   let q0:=RK k (show(ns.length:Int)≠0 by cbv);let q1:=RJ k hl;refine aj (ba 3 (xZ `e (cU `g (EV.cast (II M.min (ah ev_int (ah (ud M.len `e) ax))) hmin) hl) (a7 0 q0 q1)) ?_);rw[Xv (by cbv:0<ns.length)];rfl
  ·let hl:¬(0:Int)<ns.length:=Xx h;rw[Xu `a]
  rintro _ rfl;let e:XG ns k=wO `aB k:=by unfold XG;rw[Xu hn]
  rw[e];generalize `aB=d;let u0:=RK d (show(10:Int) ^ 18≠0 by decide);let u1:=RJ d (show(0:Int)<10 ^ 18 by decide);refine ai (ba 5 (y:=jv d k) (bY (cU `p (xY ev_int ev_int ⟨`c,`c,`c⟩) `c) (mM ev_int (bY `g ev_int) (ot `c `c))) ?_);let n0:0<=jv d k:=by unfold jv;cbv
  let n1:jv d k<2 ^ 63:=by unfold jv;cbv
  let m0:=RK (jv d k*jv d k) (show(2147483629:Int)≠0 by decide);let m1:=RJ (jv d k*jv d k) (show(0:Int)<2147483629 by decide);refine ai (ba 5 (y:=rh (jv d k) k) (bY (cU (mM `aa `aa (GV n0 n1)) ev_int `c) (mM ev_int `g (ot `c `c))) ?_);let v0:0<=rh (jv d k) k:=by unfold rh;cbv
  let v1:rh (jv d k) k<2 ^ 63:=by unfold rh;cbv
  exact aj (aU (cU (mM `aa `aa (GV v0 v1)) ev_int `c) rfl)
 refine ai (a9 (TW.tv (cZ (ay n5 `r (ud M.len `e)) (λh=>eL (ay K8 (xZ `e `r (a7 0 a0 (Xw h))) (xY ev_int ev_int ⟨`c,`c,`c⟩))))) (λh=>?_) (λh=>aF (rest _ _ (λ⟨q,_⟩=>by rw[show vB ns k=false from h] at q;cases q))))
 let hbig:vB ns k=true:=h;let⟨hl,_⟩:=Bool.and_eq_true_iff.mp hbig;let hl:=Xw hl;refine ai (ba 3 (qK (xZ `e `r (a7 0 a0 hl)) (xY ev_int ev_int ⟨`c,`c,`c⟩) ⟨`c,`c⟩) ?_);let j0:=RK k (show(8:Int)≠0 by decide);let j1:=RJ k (show(0:Int)<8 by decide);refine bA (N1:=λZ=>∃e4,Z=[.im cO ns,aA k,aA (k/8%63),aA (wa ns k),e4,.no]) (bN (λi Z=>∃e4,Z=[.im cO ns,aA k,aA (k/8%63),aA (A0 (ns.getD (k/8%63).toNat 0/10 ^ 18) i),e4,.no]) (dy M.range (cU `g ev_int `c) ⟨`a,`a⟩) (aY 4) ⟨_,rfl⟩ (λi j Z _ hΓ=>?_) `W) ?_
 ·let⟨e4,rfl⟩:=hΓ;exact aj (ba 3 (qK `p ev_int ⟨`c,`c⟩) ⟨_,rfl⟩)
 ·let⟨e4,rfl⟩:=hΓ;rw[bp];exact⟨e4,rfl⟩
 rintro _ ⟨e4,rfl⟩;refine aj (a9 (ay iJ `p ev_int) (λh=>?_) (λh=>aF (rest _ _ (λ⟨_,q⟩=>Xt q (Xx h)))));let h:0<wa ns k:=Xw h;exact aj (aU (cU `p ev_int `c) (by unfold XG;rw[Xv ⟨hbig,h⟩]))
abbrev c8:Rep (Rl ⊕ Int):=xJ cO ag
abbrev cg (ns:Rl)(k c:Int):List (Rl ⊕ Int):=[.inl ns,.inr k,.inr c]
abbrev Pj:Stmt:=top vR
def yQ:ma (Rl ⊕ Int):=λK xs ps T=>∃(ns:Rl)(k c:Int),xs=cg ns k c/\ps=[]/\zt ns/\0<=k/\k<1000000/\T=λxs'=>cP K ag λz=>xs'=cg ns (k+1) c/\z=XG ns (k+1)
theorem MR (CM:aE P w K mg base "_law_mixed" 1 (aQ Gy K))(Df:Def K mg "_law_pull" Pj ["_law_pen"]):aE P w K mg base "_law_pull" 2 (gI c8 yQ K):=by
 refine Ih (N:=["_law_pen"]) Df (λf XH A outer s H E a xs qs T nd hr hS=>?_);let⟨ns,k,c,rfl,rfl,hs,k0,k1,rfl⟩:=hS;refine ai (eN 0 (j:=1) (EV.inr (bY (EV.qu (dH 0 ev_int rfl (y:=(Sum.inr k:Rl ⊕ Int)) rfl)) ev_int)) ev_int rfl rfl rfl ?_);exact aj (Lq 0 (aJ CM hr (ah (EV.ofl (dH 0 ev_int rfl (y:=(Sum.inl ns:Rl ⊕ Int)) rfl)) (ah (EV.qu (dH 0 ev_int rfl (y:=(Sum.inr (k+1):Rl ⊕ Int)) rfl)) ax)) ⟨ns,k+1,rfl,hs,`a,`a,rfl⟩) rfl ⟨rfl,rfl⟩)
abbrev jN:Str:="abcdefghijklmnopqrstuvwxyz"
abbrev jG:Rm:=["part","end","do","call","if","else","while","leave","back"]
noncomputable def qo (m:Int):Nat->Str
 | 0=>""
 | n+1=>qo m n++mz jN ((m/8+(n:Int)*(m/88))%26).toNat
noncomputable def XZ (n:Int):Str:=
 if n%4=0 then jG.getD (n/4%9).toNat ""
 else if n%4=1 then jG.getD (n/4%9).toNat ""++mz jN (n/4/9%26).toNat
 else qo (n/4) (1+n/4%8).toNat
structure cW (x:Str):Prop where
 l1:1<=x.length
 l8:x.length<=8
 az:∀c∈x.cps.toList,97<=c/\c<=122
theorem len_app (x y:Str):(x++y).length=x.length+y.length:=by
 show(x.cps++y.cps).size=_;rw[Array.size_append];rfl
theorem uc {x y:Str}{c:Nat}(h:c∈(x++y).cps.toList):c∈x.cps.toList∨c∈y.cps.toList:=by
 let e:(x++y).cps.toList=x.cps.toList++y.cps.toList:=by show(x.cps++y.cps).toList=_;simp
 rw[e] at h;exact Se.mp h
theorem Lk (i:Nat)(h:i<26):97<=jN.cps.getD i 0/\jN.cps.getD i 0<=122:=by
 have:∀j:Fin 26,97<=jN.cps.getD j.val 0/\jN.cps.getD j.val 0<=122:=`b
 exact this ⟨i,h⟩
variable {i:Nat}
theorem B0 (h:i<26):∀c∈(mz jN i).cps.toList,97<=c/\c<=122:=by
 intro c hc;have:c=jN.cps.getD i 0:=by simpa[mz] using hc
 rw[this];exact Lk i h
theorem Qc (x:Int):(x%26).toNat<26:=by
 have:=RK x (show(26:Int)≠0 by decide);have:=RJ x (show(0:Int)<26 by decide);cbv
theorem pP (m:Int):∀n,(qo m n).length=n
 | 0=>rfl
 | n+1=>by rw[qo,len_app,pP m n];rfl
theorem DQ (m:Int):∀n,∀c∈(qo m n).cps.toList,97<=c/\c<=122
 | 0,c,h=>by
   let e:(qo m 0).cps.toList=[]:=rfl;rw[e] at h;cases h
 | n+1,c,h=>by
   obtain z | z:=uc h
   ·exact DQ m n c z
   ·exact B0 (Qc _) c z
theorem Cc (i:Nat)(h:i<9):cW (jG.getD i "")/\(jG.getD i "").length<=5:=by
 have:∀j:Fin 9,(1<=(jG.getD j.val "").length/\(jG.getD j.val "").length<=5)/\∀c∈(jG.getD j.val "").cps.toList,97<=c/\c<=122:=`b
 let⟨⟨a,b⟩,c⟩:=this ⟨i,h⟩;exact⟨⟨a,Um b `c,c⟩,b⟩
theorem jF (n:Int):cW (XZ n):=by
 let q0:=RK (n/4) (show(9:Int)≠0 by decide);let q1:=RJ (n/4) (show(0:Int)<9 by decide);let r0:=RK (n/4) (show(8:Int)≠0 by decide);let r1:=RJ (n/4) (show(0:Int)<8 by decide);let⟨w1,w2⟩:=Cc (n/4%9).toNat `a;unfold XZ;split
 ·exact w1
 split
 ·refine⟨?_,?_,λc hc=>?_⟩
  ·rw[len_app];have:=w1.l1;cbv
  ·rw[len_app];show _+1<=8;cbv
  ·obtain z | z:=uc hc
   ·exact w1.az c z
   ·exact B0 (Qc _) c z
 ·exact⟨by rw[pP];cbv,by rw[pP];cbv,DQ _ _⟩
abbrev Py:Stmt:=top wX
abbrev nNM:Rm:=["_law_number","_law_letters","_law_words_here","_law_way","_law_name_here","_law_k"]
def GY:dc:=λK ps T=>∃n:Int,ps=[⟨ag,n⟩]/\0<=n/\n<2147483587/\T=cP K aq (· =XZ n)
theorem Od (M:cb K mg)(Df:Def K mg "_law_name" Py ["_law_number"]):aE P w K mg base "_law_name" 1 (aQ GY K):=by
 refine bO (N:=nNM) Df `n;let⟨n,rfl,n0,n1,rfl⟩:=hS;let q0:=RK (n/4) (show(9:Int)≠0 by decide);let q1:=RJ (n/4) (show(0:Int)<9 by decide);let r0:=RK (n/4) (show(8:Int)≠0 by decide);let r1:=RJ (n/4) (show(0:Int)<8 by decide);let ll:jN.length=26:=`b
 let lz:jN.length<=UZ:=by rw[ll];decide
 refine ai (ba 1 (y:=jN) aB ?_);refine ai (ba 2 (y:=jG) (aZ.im (aN (r:=aq) (ak aB (ak aB (ak aB (ak aB (ak aB (ak aB (ak aB (ak aB (ak aB aK))))))))) (by show 9<=UZ;decide))) ?_);refine ai (ba 3 (cU `e ev_int `c) ?_);refine ai (ba 0 (ni `e ev_int ⟨`c,`c⟩) ?_);let hw:bP jG (n/4%9)∣(jG.getD (n/4%9).toNat ""):=a7 (xs:=jG) "" q0 (by show _<((9:Nat):Int);cbv);refine ai (a9 (ay gi `p ev_int) (λh=>?_) `J)
 ·let h:n%4=0:=Xw h;exact aj (aU (aL `r (cU `e ev_int `c) hw) (by unfold XZ;rw[Xv h]))
 let h0:¬n%4=0:=Xx h;let wl:=(Cc (n/4%9).toNat `a).2;let s0:=RK (n/4/9) (show(26:Int)≠0 by decide);let s1:=RJ (n/4/9) (show(0:Int)<26 by decide);refine ai (a9 (ay gi `p ev_int) (λh=>?_) `J)
 ·let h:n%4=1:=Xw h;exact aj (aU (t7 (aL `r (cU `e ev_int `c) hw) (B8 `g (cU (ni `e ev_int ⟨`c,`c⟩) ev_int `c) s0 (by rw[ll];exact s1) lz) (Um (show _<=6 by show _+1<=6;cbv) `c)) (by unfold XZ;rw[Xu h0,Xv h]))
 let h1:¬n%4=1:=Xx h;refine ai (ba 4 (y:=qo (n/4) 0) aB ?_);refine bA (N1:=λZ=>∃e5,Z=[aA (n/4),.im aq jN,.im (ae aq) jG,aA (n%4),.im aq (XZ n),e5]) (bN (λi Z=>∃e5,Z=[aA (n/4),.im aq jN,.im (ae aq) jG,aA (n%4),.im aq (qo (n/4) i),e5]) (dy M.range (bY ev_int (cU `e ev_int `c)) ⟨`a,`a⟩) (aY 5) ⟨_,rfl⟩ (λi j Z hj hΓ=>?_) `W) ?_
 ·let⟨e5,rfl⟩:=hΓ;let⟨jl,ej⟩:=eQ hj;obtain rfl:j=(i:Int):=`a
  let t0:=RK (n/4/8+(i:Int)*(n/4/88)) (show(26:Int)≠0 by decide);let t1:=RJ (n/4/8+(i:Int)*(n/4/88)) (show(0:Int)<26 by decide);exact aj (ba 4 (y:=qo (n/4) (i+1)) (t7 `T (B8 `g (cU (bY (ni `e ev_int ⟨`c,`c⟩) (mM `aa (ni `e ev_int ⟨`c,`c⟩) (ot `a `a))) ev_int `c) t0 (by rw[ll];exact t1) lz) (by rw[pP];exact Um (show _<=20 by show _+1<=20;cbv) `c)) ⟨_,rfl⟩)
 ·let⟨e5,rfl⟩:=hΓ;rw[bp];refine⟨e5,?_⟩;let e:XZ n=qo (n/4) (1+n/4%8).toNat:=by unfold XZ;rw[Xu h0,Xu h1]
  rw[e]
 rintro _ ⟨e5,rfl⟩;exact aj (aU `T rfl)
inductive Th
 | X6 (x:Str)
 | call (j:Int)
 | ifs (x:Str) (a b:`Z)
 | XR (x:Str) (a:`Z)
 | leave
 | back
mutual
noncomputable def g7:Th->PV
 | .X6 x=>.lst [.str "do",.str x]
 | .call j=>.lst [.str "call",.int j]
 | .ifs x a b=>.lst [.str "if",.str x,.lst (bF a),.lst (bF b)]
 | .XR x a=>.lst [.str "while",.str x,.lst (bF a)]
 | .leave=>.lst [.str "leave"]
 | .back=>.lst [.str "back"]
noncomputable def bF:List Th->List PV
 | []=>[]
 | t::ts=>g7 t::bF ts
end
theorem fu:∀ts:List Th,bF ts=ts.map g7
 | []=>by rw[bF];rfl
 | t::ts=>by rw[bF,fu ts];rfl
mutual
noncomputable def fE:Th->Bool
 | .leave=>false
 | .back=>false
 | .ifs _ a b=>dD a ||dD b
 | _=>true
noncomputable def dD:List Th->Bool
 | []=>true
 | t::ts=>fE t&&dD ts
end
mutual
noncomputable def gp:Th->Nat
 | .ifs _ a b=>1+max (dG a) (dG b)
 | .XR _ a=>1+dG a
 | _=>0
noncomputable def dG:List Th->Nat
 | []=>0
 | t::ts=>max (gp t) (dG ts)
end
mutual
noncomputable def cn:Th->Nat
 | .X6 _=>1
 | .call _=>1
 | .ifs _ a b=>2+bW a+bW b
 | .XR _ a=>2+bW a
 | _=>0
noncomputable def bW:List Th->Nat
 | []=>0
 | t::ts=>cn t+bW ts
end
variable {ns:Rl}{XC:Int}
section
variable {XB:Rl}{n b:Nat}
theorem kT:∀a b:List Th,bW (a++b)=bW a+bW b
 | [],b=>by rw[bW];simp
 | t::a,b=>by rw[Te,bW,bW,kT a b];cbv
theorem ng:∀a b:List Th,dG (a++b)=max (dG a) (dG b)
 | [],b=>by rw[dG];simp
 | t::a,b=>by rw[Te,dG,dG,ng a b];cbv
abbrev Pn:=Int×Int
noncomputable def X9 (ns XB:Rl)(sub:Option (Int->Pn->List Th×Pn))(XC:Int)(s:Pn):Th×Pn:=
 if XG ns (s.1+1)%12=0/\0<XC then(.leave,(s.1+2,s.2))
 else if XG ns (s.1+1)%12=1 then(.back,(s.1+2,s.2))
 else if 9<XG ns (s.1+1)%12/\0<XB.length then(.call (XB.getD (XG ns (s.1+3)%(XB.length:Int)).toNat 0),(s.1+3,s.2-1))
 else match sub with
  | some L=>
    if(3<XG ns (s.1+1)%12/\XG ns (s.1+1)%12<7)/\1<s.2 then(.ifs (XZ (XG ns (s.1+2))) (L XC (s.1+2,s.2-2)).1 (L XC (L XC (s.1+2,s.2-2)).2).1,(L XC (L XC (s.1+2,s.2-2)).2).2)
    else if(6<XG ns (s.1+1)%12/\XG ns (s.1+1)%12<10)/\1<s.2 then(.XR (XZ (XG ns (s.1+2))) (L (XC+1) (s.1+2,s.2-2)).1,(L (XC+1) (s.1+2,s.2-2)).2)
    else(.X6 (XZ (XG ns (s.1+2))),(s.1+2,s.2-1))
  | none=>(.X6 (XZ (XG ns (s.1+2))),(s.1+2,s.2-1))
noncomputable def qS:Th->Bool
 | .back=>true
 | _=>false
noncomputable def i8 (ns XB:Rl)(sub:Option (Int->Pn->List Th×Pn))(tp:Bool)(XC:Int)(x:List Th×Pn):List Th×Pn:=
 if 0<x.2.2/\dD x.1=true then
  if tp=true/\x.1.length=0/\qS (X9 ns XB sub XC x.2).1=true then(x.1++[.X6 "back"],((X9 ns XB sub XC x.2).2.1,(X9 ns XB sub XC x.2).2.2-1))
  else(x.1++[(X9 ns XB sub XC x.2).1],(X9 ns XB sub XC x.2).2)
 else x
noncomputable def X8 {α:Type}(f:α->α):Nat->α->α
 | 0,x=>x
 | n+1,x=>f (X8 f n x)
noncomputable def gg (ns:Rl)(tp:Bool)(k:Int):Nat:=(XG ns (k+1)%4+2*(if tp then 1 else 0)).toNat
noncomputable def XY (ns XB:Rl):Nat->Bool->Int->Pn->List Th×Pn
 | 0,tp,XC,s=>X8 (i8 ns XB none tp XC) (gg ns tp s.1) ([],(s.1+1,s.2))
 | n+1,tp,XC,s=>X8 (i8 ns XB (some (XY ns XB n false)) tp XC) (gg ns tp s.1) ([],(s.1+1,s.2))
structure G1 (n b:Nat)(s:Pn)(r:List Th×Pn):Prop where
 dp:dG r.1<=n
 c:(bW r.1:Int)+r.2.2=s.2/\0<=r.2.2
 k:s.1<=r.2.1/\r.2.1<=s.1+b
 l:r.1.length<=5
def Hc (n b:Nat)(L:Int->Pn->List Th×Pn):Prop:=∀lp s,0<=s.2->G1 n b s (L lp s)
theorem yI (ns:Rl)(tp:Bool)(k:Int):gg ns tp k<=5:=by
 unfold gg;let a:=RK (XG ns (k+1)) (show(4:Int)≠0 by decide);let b:=RJ (XG ns (k+1)) (show(0:Int)<4 by decide);cases tp<;>simp<;>cbv
structure t8 (n:Nat)(b:Nat)(s:Pn)(r:Th×Pn):Prop where
 dp:gp r.1<=n
 c:(cn r.1:Int)+r.2.2=s.2/\0<=r.2.2
 k:s.1<=r.2.1/\r.2.1<=s.1+b
theorem xB (ns XB:Rl)(XC:Int)(s:Pn)(h:0<s.2):t8 0 3 s (X9 ns XB none XC s):=by
 unfold X9;split
 ·exact⟨by simp[gp],⟨by simp[cn],by show 0<=s.2;cbv⟩,by constructor<;>simp<;>cbv⟩
 split
 ·exact⟨by simp[gp],⟨by simp[cn],by show 0<=s.2;cbv⟩,by constructor<;>simp<;>cbv⟩
 split
 ·exact⟨by simp[gp],⟨by simp[cn];cbv,by show 0<=s.2-1;cbv⟩,by constructor<;>simp<;>cbv⟩
 ·exact⟨by simp[gp],⟨by simp[cn];cbv,by show 0<=s.2-1;cbv⟩,by constructor<;>simp<;>cbv⟩
theorem yd {L:Int->Pn->List Th×Pn}(hL:Hc n b L)(XC:Int)(s:Pn)(h:0<s.2):t8 (n+1) (3+2*b) s (X9 ns XB (some L) XC s):=by
 unfold X9;split
 ·exact⟨by simp[gp],⟨by simp[cn],by show 0<=s.2;cbv⟩,by constructor<;>simp<;>cbv⟩
 split
 ·exact⟨by simp[gp],⟨by simp[cn],by show 0<=s.2;cbv⟩,by constructor<;>simp<;>cbv⟩
 split
 ·exact⟨by simp[gp],⟨by simp[cn];cbv,by show 0<=s.2-1;cbv⟩,by constructor<;>simp<;>cbv⟩
 dsimp only;split
 ·rename_i hh;let c2:1<s.2:=hh.2;let⟨d1,⟨a1,a2⟩,k1,_⟩:=hL XC (s.1+2,s.2-2) (by show 0<=s.2-2;cbv);let⟨d2,⟨a3,a4⟩,k2,_⟩:=hL XC (L XC (s.1+2,s.2-2)).2 a2;dsimp only at a1 k1;refine⟨by simp only[gp];cbv,⟨by simp only[cn];push_cast;cbv,a4⟩,?_⟩;constructor
  ·exact RN `a (RN k1.1 k2.1)
  ·show(L XC (L XC (s.1+2,s.2-2)).2).2.1<=s.1+((3+2*b:Nat):Int);have:=k2.2;have:=k1.2;push_cast;cbv
 split
 ·rename_i _ hh;let c2:1<s.2:=hh.2;let⟨d1,⟨a1,a2⟩,k1,_⟩:=hL (XC+1) (s.1+2,s.2-2) (by show 0<=s.2-2;cbv);dsimp only at a1 k1;refine⟨by simp only[gp];cbv,⟨by simp only[cn];push_cast;cbv,a2⟩,?_⟩;constructor
  ·exact RN `a k1.1
  ·show(L (XC+1) (s.1+2,s.2-2)).2.1<=s.1+((3+2*b:Nat):Int);have:=k1.2;push_cast;cbv
 ·exact⟨by simp[gp],⟨by simp[cn];cbv,by show 0<=s.2-1;cbv⟩,by constructor<;>simp<;>cbv⟩
structure sJ (n b i:Nat)(k0 c0:Int)(x:List Th×Pn):Prop where
 dp:dG x.1<=n
 c:(bW x.1:Int)+x.2.2=c0/\0<=x.2.2
 k:k0<=x.2.1/\x.2.1<=k0+b*i
 l:x.1.length<=i
theorem sJ.step {k0 c0:Int}{x:List Th×Pn}{sub:Option (Int->Pn->List Th×Pn)}{tp:Bool}(h:sJ n b i k0 c0 x)(ht:0<x.2.2->t8 n b x.2 (X9 ns XB sub XC x.2))(hb:1<=b):sJ n b (i+1) k0 c0 (i8 ns XB sub tp XC x):=by
 let hm:((b*(i+1):Nat):Int)=(b*i:Nat)+b:=by push_cast;rw[Int.mul_add];cbv
 let hk:=h.k;let hc:=h.c;let hl:=h.l;let hd:=h.dp;unfold i8;split
 ·rename_i hh;let t:=ht hh.1;let tk:=t.k;let tc:=t.c;split
  ·rename_i h2;let hbk:(X9 ns XB sub XC x.2).1= .back:=by
    have:=h2.2.2;cases e:(X9 ns XB sub XC x.2).1<;>rw[e] at this<;>first | rfl | cases this
   rw[hbk] at tc;let hrw:(cn .back:Int)=0:=by simp[cn]
   rw[hrw] at tc;refine⟨?_,⟨?_,?_⟩,⟨?_,?_⟩,?_⟩
   ·rw[ng];simp[dG,gp];exact hd
   ·rw[kT];simp[bW,cn];cbv
   ·show 0<=(X9 ns XB sub XC x.2).2.2-1;have:=hh.1;cbv
   ·exact RN hk.1 tk.1
   ·show(X9 ns XB sub XC x.2).2.1<=k0+((b*(i+1):Nat):Int);have:=tk.2;have:=hk.2;rw[hm];push_cast at *;cbv
   ·simp;cbv
  ·refine⟨?_,⟨?_,tc.2⟩,⟨?_,?_⟩,?_⟩
   ·rw[ng];have:=t.dp;simp[dG];cbv
   ·rw[kT];simp[bW];cbv
   ·exact RN hk.1 tk.1
   ·show(X9 ns XB sub XC x.2).2.1<=k0+((b*(i+1):Nat):Int);have:=tk.2;have:=hk.2;rw[hm];push_cast at *;cbv
   ·simp;cbv
 ·refine⟨hd,hc,⟨hk.1,?_⟩,`a⟩;have:=hk.2;show x.2.1<=k0+((b*(i+1):Nat):Int);rw[hm];push_cast at *;cbv
noncomputable def nD:Nat->Nat
 | 0=>16
 | n+1=>1+5*(3+2*nD n)
theorem ye {ns XB:Rl}{sub:Option (Int->Pn->List Th×Pn)}{n b:Nat}(hb:1<=b)(hT:∀(lp:Int)(s:Pn),0<s.2->t8 n b s (X9 ns XB sub lp s))(tp:Bool)(lp:Int)(s:Pn)(hs:0<=s.2):∀m,sJ n b m (s.1+1) s.2 (X8 (i8 ns XB sub tp lp) m ([],(s.1+1,s.2)))
 | 0=>⟨by simp[X8,dG],⟨by simp[X8,bW],hs⟩,⟨RM _,by simp[X8]⟩,by simp[X8]⟩
 | m+1=>sJ.step (ye hb hT tp lp s hs m) (λh=>hT lp _ h) hb
theorem Cr {sub:Option (Int->Pn->List Th×Pn)}(hb:1<=b)(hT:∀(lp:Int)(s:Pn),0<s.2->t8 n b s (X9 ns XB sub lp s))(tp:Bool)(lp:Int)(s:Pn)(hs:0<=s.2):G1 n (1+5*b) s (X8 (i8 ns XB sub tp lp) (gg ns tp s.1) ([],(s.1+1,s.2))):=by
 let h:=ye hb hT tp lp s hs (gg ns tp s.1);let hm:=yI ns tp s.1;let hmul:b*gg ns tp s.1<=b*5:=Nat.mul_le_mul_left b hm;refine⟨h.dp,h.c,⟨by have:=h.k.1;cbv,?_⟩,Um h.l hm⟩;have:=h.k.2;cbv
theorem mT (ns XB:Rl):∀(n:Nat)(tp:Bool),Hc n (nD n) (XY ns XB n tp)
 | 0,tp=>λlp s hs=>Cr (b:=3) `c (λlp s h=>xB ns XB lp s h) tp lp s hs
 | n+1,tp=>λlp s hs=>Cr (b:=3+2*nD n) `a (λlp s h=>yd (mT ns XB n false) lp s h) tp lp s hs
noncomputable def eT:Th->Str
 | .X6 _=>"do"
 | .call _=>"call"
 | .ifs _ _ _=>"if"
 | .XR _ _=>"while"
 | .leave=>"leave"
 | .back=>"back"
noncomputable def fh:Th->List PV
 | .X6 x=>[.str "do",.str x]
 | .call j=>[.str "call",.int j]
 | .ifs x a b=>[.str "if",.str x,.lst (bF a),.lst (bF b)]
 | .XR x a=>[.str "while",.str x,.lst (bF a)]
 | .leave=>[.str "leave"]
 | .back=>[.str "back"]
theorem eI (t:Th):g7 t= .lst (fh t):=by cases t<;>rw[g7]<;>rfl
theorem Mw (t:Th):bP (fh t) 0∣(.str (eT t)):=by cases t<;>rfl
end
variable {a:Expr}{j:Nat}{t:Th}
section
variable {X:Cx}{Z Γ1:Ga}
theorem jO {p1 pos:Pos}(h:EV X a Z au (g7 t) Γ1):EV X (.Subscript a (.Constant (.int 0) j p1) pos) Z aq (eT t) Γ1:=EV.sP (aL (EV.lP (by rw[eI] at h;exact h)) ev_int (Mw t))
theorem oZ {p1 pos:Pos}{i:Int}{xs:List PV}(h:EV X a Z au (g7 t) Γ1)(hx:bP (fh t) i∣.lst xs):EV X (.Subscript a (.Constant (.int i) j p1) pos) Z (ae au) xs Γ1:=EV.lP (aL (EV.lP (by rw[eI] at h;exact h)) ev_int hx)
end
abbrev L4:Stmt:=top uz
abbrev nPA:Rm:=["_law_items","_law_one"]
theorem En:bE nPA ["_law_items"] (ao L4):=YV
def GA (n:Nat):dc:=λK ps T=>∃ts:List Th,ps=[⟨ae au,bF ts⟩]/\dG ts<n/\T=cP K c7 (· =dD ts)
theorem Fu (t:Th):(eT t="leave"∨eT t="back")->fE t=false:=by
 intro h;cases t<;>simp[eT] at h<;>first | (exfalso;revert h;decide) | simp[fE]
theorem oS {t:Th}:∀{ts:`Z},t∈ts->gp t<=dG ts
 | s::ts,h=>by
   rw[dG];obtain rfl | h:=R9.mp h
   ·cbv
   ·have:=oS h;cbv
theorem Om (F:dI K "_law_passes" "_law_passes" L4 f fd)(hm:mg "_law_passes"∣.ref f)(hb:Binds K fd ["_law_items"] []):∀n:Nat,aE P w K mg base "_law_passes" (n+1) (aQ (GA n) K):=by
 intro n;let nd:=En.nd
 induction n with
 | zero=>
   refine gW F En hm hb (λqs T ⟨_,e,_⟩=>by rw[e];rfl) `ac;let⟨ts,_,h,_⟩:=hS;exact Xt h (Nat.not_lt_zero _)
 | succ n ih=>
   refine gW F En hm hb (λqs T ⟨_,e,_⟩=>by rw[e];rfl) `ac;let⟨ts,rfl,hd,rfl⟩:=hS;refine ai (bN (r:=au) (λi Z=>∃e1,Z=[.im (ae au) (bF ts),e1]/\dD ts=dD (ts.drop i)) (bI `e) (aY 1) ⟨_,rfl,rfl⟩ (λi x Z hx hΓ=>?_) `W)
   ·let⟨e1,rfl,hp⟩:=hΓ;rw[fu,R6] at hx;let⟨t,ht,rfl⟩:=UK.mp hx;let hdr:ts.drop i=t::ts.drop (i+1):=by
     let⟨h1,h2⟩:=RP.mp ht;rw[S7 h1,h2]
    rw[hdr,dD] at hp;let hdt:=oS (R7 ht);refine ai (a9 (TW.tv (jb (ay cq (jO `g) aB) (λ_=>jt (ay cq (jO `g) aB)))) (λh=>?_) `J)
    ·let h:eT t="leave"∨eT t="back":= ~~~h
     exact aj (aU jH (by rw[hp,Fu t h];rfl))
    ·let h:¬(eT t="leave"∨eT t="back"):= ~~~h
     by_cases hif:∃x a b,t= .ifs x a b
     ·let⟨x,a,b,rfl⟩:=hif;let hab:dG a<n/\dG b<n:=by rw[gp] at hdt;cbv
      refine aj (a9 (TW.tv (cZ (ay cq (jO `g) aB) (λ_=>cZ (gu (bU (aJ ih hr (ah (oZ `g (xs:=bF a) rfl) ax) ⟨a,rfl,hab.1,rfl⟩))) (λ_=>eL (gu (bU (aJ ih hr (ah (oZ `g (xs:=bF b) rfl) ax) ⟨b,rfl,hab.2,rfl⟩))))))) (λh=>?_) (λh=>aF ⟨_,rfl,?_⟩))
      ·let h:dD a=false/\dD b=false:=by simpa[eT] using h
       exact aj (aU jH (by rw[hp,fE,h.1,h.2];rfl))
      ·let h:dD a=false->dD b=true:=by simpa[eT] using h
       rw[hp,fE];cases ea:dD a with
       | true=>simp
       | false=>rw[h ea];simp
     ·let hk:decide (eT t="if")=false:=by cases t<;>first | rfl | exact Xt ⟨_,_,_,rfl⟩ hif
      let hpt:fE t=true:=by cases t<;>first | (simp[fE];done) | exact Xt ⟨_,_,_,rfl⟩ hif | exact Xt (.inl rfl) h | exact Xt (.inr rfl) h
      refine aj (a9 (TW.tv (cZ (y:=true) (ay cq (jO `g) aB) (λh=>Xt (hk.symm.trans h) `c))) (λh=>?_) (λh=>aF ⟨_,rfl,?_⟩))
      ·rw[hk] at h;cases h
      ·rw[hp,hpt];rfl
   ·let⟨e1,rfl,hp⟩:=hΓ;rw[show(bF ts).length=ts.length by rw[fu,RS],drop_length,dD] at hp;exact aj (aU jH hp.symm)
noncomputable def eG (ns XB:Rl):Nat->Option (Int->Pn->List Th×Pn)
 | 0=>none
 | n+1=>some (XY ns XB n false)
theorem nA (ns XB:Rl)(n:Nat)(tp:Bool)(XC:Int)(s:Pn):XY ns XB n tp XC s=X8 (i8 ns XB `as tp XC) (gg ns tp s.1) ([],(s.1+1,s.2)):=by cases n<;>rfl
noncomputable def bT:Nat->Nat
 | 0=>3
 | n+1=>3+2*nD n
theorem Gr (n:Nat):3<=bT n:=by cases n<;>simp[bT]
structure pN (ns XB:Rl)(n b:Nat)(k c:Int):Prop where
 s:zt ns
 k0:0<=k
 k1:k+(b:Int)<=900000
 c0:0<=c
 c1:c<=100
 l:XB.length<=100
 n4:n<=4
abbrev Qa (n:Nat)(XC:Int)(XB:Rl):List Pk:=[⟨ag,4-(n:Int)⟩,⟨ag,XC⟩,⟨ae ag,XB⟩]
def J7 (n:Nat):ma (Rl ⊕ Int):=λK xs ps T=>∃(ns XB:Rl)(k c XC:Int),xs=cg ns k c/\ps=Qa n XC XB/\pN ns XB n (bT n) k c/\0<c/\T=λxs'=>Bh λy=>xs'=cg ns (X9 ns XB `as XC (k,c)).2.1 (X9 ns XB `as XC (k,c)).2.2/\y=g7 (X9 ns XB `as XC (k,c)).1
def F6 (n:Nat):ma (Rl ⊕ Int):=λK xs ps T=>∃(ns XB:Rl)(k c XC:Int),xs=cg ns k c/\ps=Qa n XC XB/\pN ns XB n (nD n) k c/\T=λxs'=>Bh λy=>xs'=cg ns (XY ns XB n (decide (n=4)) XC (k,c)).2.1 (XY ns XB n (decide (n=4)) XC (k,c)).2.2/\y= .lst (bF (XY ns XB n (decide (n=4)) XC (k,c)).1)
variable {L:Int->Pn->List Th×Pn}
section
variable {XB:Rl}{sub:Option (Int->Pn->List Th×Pn)}{k c:Int}
abbrev gL (ns:Rl)(k:Int):Int:=XG ns (k+1)%12
abbrev C0 (ns:Rl)(k XC:Int):Prop:=gL ns k=0/\0<XC
abbrev C2 (ns XB:Rl)(k:Int):Prop:=9<gL ns k/\0<XB.length
abbrev C3 (ns:Rl)(k c:Int):Prop:=(3<gL ns k/\gL ns k<7)/\1<c
abbrev C4 (ns:Rl)(k c:Int):Prop:=(6<gL ns k/\gL ns k<10)/\1<c
theorem B3 (h:C0 ns k XC):X9 ns XB sub XC (k,c)=(.leave,(k+2,c)):=Xv h
theorem Fz (h0:¬C0 ns k XC)(h:gL ns k=1):X9 ns XB sub XC (k,c)=(.back,(k+2,c)):=by
 unfold X9;rw[Xu h0,Xv h]
theorem FZ (h0:¬C0 ns k XC)(h1:¬gL ns k=1)(h:C2 ns XB k):X9 ns XB sub XC (k,c)=(.call (XB.getD (XG ns (k+3)%(XB.length:Int)).toNat 0),(k+3,c-1)):=by
 unfold X9;rw[Xu h0,Xu h1,Xv h]
theorem Kn (h0:¬C0 ns k XC)(h1:¬gL ns k=1)(h2:¬C2 ns XB k)(h:C3 ns k c):X9 ns XB (some L) XC (k,c)=(.ifs (XZ (XG ns (k+2))) (L XC (k+2,c-2)).1 (L XC (L XC (k+2,c-2)).2).1,(L XC (L XC (k+2,c-2)).2).2):=by
 unfold X9;rw[Xu h0,Xu h1,Xu h2];dsimp only;rw[Xv h]
theorem Mv (h0:¬C0 ns k XC)(h1:¬gL ns k=1)(h2:¬C2 ns XB k)(h3:¬C3 ns k c)(h:C4 ns k c):X9 ns XB (some L) XC (k,c)=(.XR (XZ (XG ns (k+2))) (L (XC+1) (k+2,c-2)).1,(L (XC+1) (k+2,c-2)).2):=by
 unfold X9;rw[Xu h0,Xu h1,Xu h2];dsimp only;rw[Xu h3,Xv h]
theorem La (h0:¬C0 ns k XC)(h1:¬gL ns k=1)(h2:¬C2 ns XB k)(h:∀L,sub∣L->¬C3 ns k c/\¬C4 ns k c):X9 ns XB sub XC (k,c)=(.X6 (XZ (XG ns (k+2))),(k+2,c-1)):=by
 unfold X9;rw[Xu h0,Xu h1,Xu h2];cases sub with
 | none=>rfl
 | some L=>dsimp only;rw[Xu (h L rfl).1,Xu (h L rfl).2]
end
theorem yg:∀ts:List Th,D5 (bF ts)=false
 | []=>by rw[bF];rfl
 | [t]=>by rw[bF,bF,eI];rfl
 | t::u::ts=>by rw[bF,bF,eI,eI];rfl
mutual
theorem Gj:∀t:Th,noMix (g7 t)=true
 | .X6 x=>by rw[eI];rfl
 | .call x=>by rw[eI];rfl
 | .leave=>by rw[eI];rfl
 | .back=>by rw[eI];rfl
 | .ifs x A B=>by
   let hA:=oI A;let hB:=oI B;rw[eI];simp only[fh,noMix,iq,yg,hA,hB,Bool.not_false,Bool.true_and,RF];rfl
 | .XR x A=>by
   let hA:=oI A;rw[eI];simp only[fh,noMix,iq,yg,hA,Bool.not_false,Bool.true_and,RF];rfl
theorem oI:∀ts:List Th,iq (bF ts)=true
 | []=>by rw[bF,iq]
 | t::ts=>by rw[bF,iq,Gj t,oI ts];rfl
end
theorem vz (ts:`Z):noMix (.lst (bF ts))=true:=by rw[noMix,yg,oI];rfl
theorem oX {k c:Int}(R:Hp)(ws:`R)(h:PySem.Paired (c8.R K R) ws (cg ns k c)):∃s k' rest,ws= .ref s:: .int k'::rest:=by
 cases h with
 | cons a1 t1=>cases t1 with
   | cons a2 t2=>
     let⟨s,e,_⟩:=(a1:cO.R K R _ ns);let e2:_=V.int k:=a2;exact⟨s,k,_,by rw[e,e2]⟩
abbrev Gz:Stmt:=top vm
abbrev nTH:Rm:=["_law_pen","_law_depth","_law_loops","_law_calls","_law_way","_law_name_here","_law_first"]
abbrev zY:Rm:=["_law_pen","_law_depth","_law_loops","_law_calls"]
theorem Ly:bE nTH zY (ao Gz):=YV
theorem GR (M:cb K mg)(CP:aE P w K mg base "_law_pull" 2 (gI c8 yQ K))(CN:aE P w K mg base "_law_name" 1 (aQ GY K))(n:Nat)(CL:∀m,n=m+1->aE P w K mg base "_law_list" (2*m+8) (gI c8 (F6 m) K))(F:dI K "_law_thing" "_law_thing" Gz f fd)(hm:mg "_law_thing"∣.ref f)(hb:Binds K fd zY []):aE P w K mg base "_law_thing" (2*n+7) (gI c8 (J7 n) K):=by
 let nd:=Ly.nd;let CP:=CP.mono (show 2<=2*n+6 by cbv);let CN:=CN.mono (show 1<=2*n+6 by cbv);refine vP (k:=2*n+6) F Ly hm hb (λxs qs T ⟨_,_,_,_,_,_,e,_⟩=>by rw[e];rfl) (λXH A outer s H E a xs qs T hr hS=>?_);let⟨ns,XB,k,c,XC,rfl,rfl,hp,c0,rfl⟩:=hS;let hb16:=Gr n;let k0:=hp.k0;let k1:=hp.k1;let cl:=hp.l;let c1:=hp.c1;refine ai (ba 4 (cU (f9 0 (st:=cg ns (k+1) c) (z:=XG ns (k+1)) CP hr ax rfl ⟨ns,k,c,rfl,rfl,hp.s,k0,`a,rfl⟩) ev_int `c) ?_);let m2:=uo ns (k+2);let e2:k+1+1=k+2:=`a
 refine ai (ba 5 (y:=XZ (XG ns (k+2))) (aJ CN hr (ah (f9 0 (st:=cg ns (k+2) c) (z:=XG ns (k+2)) CP hr ax rfl ⟨ns,k+1,c,rfl,rfl,hp.s,`a,`a,by rw[e2]⟩) ax) ⟨_,rfl,m2.1,m2.2,rfl⟩) ?_);let fin:∀(k' c':Int)(t:Th)(r:Th×Pn),X9 ns XB `as XC (k,c)=(t,(k',c'))->(λxs' (y:PV)=>xs'=cg ns (X9 ns XB `as XC (k,c)).2.1 (X9 ns XB `as XC (k,c)).2.2/\y=g7 (X9 ns XB `as XC (k,c)).1) (cg ns k' c') (.lst (fh t)):=λk' c' t r h=>by rw[h];exact⟨rfl,(eI t).symm⟩
 refine ai (a9 (TW.tv (cZ (ay gi `T ev_int) (λ_=>eL (ay iJ `r ev_int)))) (λh=>?_) `J)
 ·let h:C0 ns k XC:= ~~~h
  exact aj (jB 0 (aZ.w6 (aN (r:=au) (ak (EV.pS aB) aK) (by show 1<=UZ;decide)) rfl) rfl (fin _ _ .leave (.leave,(k,c)) (B3 h)))
 let h0:¬C0 ns k XC:= ~~~h
 refine ai (a9 (ay gi `T ev_int) (λh=>?_) `J)
 ·let h:gL ns k=1:=Xw h;exact aj (jB 0 (aZ.w6 (aN (r:=au) (ak (EV.pS aB) aK) (by show 1<=UZ;decide)) rfl) rfl (fin _ _ .back (.leave,(k,c)) (Fz h0 h)))
 let h1:¬gL ns k=1:=Xx h;refine ai (a9 (TW.tv (cZ (ay iJ `T ev_int) (λ_=>eL (ay iJ (da M.len `p) ev_int)))) (λh=>?_) `J)
 ·let h:C2 ns XB k:=by
   let h:9<gL ns k/\(0:Int)<(XB.length:Int):= ~~~h
   exact⟨h.1,`a⟩
  let hl:(0:Int)<(XB.length:Int):=by have:=h.2;cbv
  refine ai `L;let e3:k+2+1=k+3:=`a
  let q0:=RK (XG ns (k+3)) (show(XB.length:Int)≠0 by cbv);let q1:=RJ (XG ns (k+3)) hl;exact aj (jB 0 (aZ.w6 (aN (r:=au) (ak (EV.pS aB) (ak (EV.pI (aL `p (cU (f9 0 (st:=cg ns (k+3) (c-1)) (z:=XG ns (k+3)) CP hr ax rfl ⟨ns,k+2,c-1,rfl,rfl,hp.s,`a,`a,by rw[e3]⟩) (da M.len `p) hl) (a7 0 q0 q1))) aK)) (by show 2<=UZ;decide)) rfl) rfl (fin _ _ (.call _) (.leave,(k,c)) (FZ h0 h1 h)))
 let h2:¬C2 ns XB k:=by
  let h:9<gL ns k->¬(0:Int)<(XB.length:Int):= ~~~h
  exact λ⟨x,y⟩=>h x `a
 refine ai (a9 (TW.tv (cZ (ay iJ `T ev_int) (λ_=>cZ (ay n5 `T ev_int) (λ_=>cZ (ay n5 `g ev_int) (λ_=>eL (ay iJ (EV.qu (dH 0 ev_int rfl (y:=(Sum.inr c:Rl ⊕ Int)) rfl)) ev_int)))))) (λh=>?_) `J)
 ·let h:3<gL ns k/\gL ns k<7/\4-(n:Int)<4/\1<c:= ~~~h
  let h3:C3 ns k c:=⟨⟨h.1,h.2.1⟩,h.2.2.2⟩;let hc:=h.2.2.2;let hn:=h.2.2.1;obtain⟨m,rfl⟩:∃m,n=m+1:=⟨n-1,`a⟩;let CL:=(CL m rfl).mono (show 2*m+8<=2*(m+1)+6 by cbv);let n4:=hp.n4;let hf:decide (m=4)=false:=Xz `a;let hbd:bT (m+1)=3+2*nD m:=rfl;refine ai `L;change WS _ _ [.ob (aP a c8 (cg ns (k+2) (c-2))),aA (4-((m+1:Nat):Int)),aA XC,dR XB,aA (XG ns (k+1)%12),.im aq (XZ (XG ns (k+2))),.no] _ _;let p1:pN ns XB m (nD m) (k+2) (c-2):=⟨hp.s,`a,`a,`a,`a,hp.l,`a⟩;let⟨g1,g2,g3,g4⟩:=mT ns XB m false XC (k+2,c-2) (by show 0<=c-2;cbv);let e1:=Kn (L:=XY ns XB m false) h0 h1 h2 h3;generalize hr1:XY ns XB m false XC (k+2,c-2)=r1 at g1 g2 g3 g4 e1;dsimp only at g2 g3;refine ai (sE 6 (jo 0 (st:=cg ns (XY ns XB m false XC (k+2,c-2)).2.1 (XY ns XB m false XC (k+2,c-2)).2.2) (z:=.lst (bF (XY ns XB m false XC (k+2,c-2)).1)) CL hr (ah (EV.cast (y':=4-(m:Int)) (bY `g ev_int) `a) (ah `r (ah `p ax))) rfl ⟨ns,XB,_,_,XC,rfl,rfl,p1,by rw[hf]⟩ oX (vz _)) λf6=>?_);rw[hr1];change WS _ _ [.ob (aP a c8 (cg ns r1.2.1 r1.2.2)),aA (4-((m+1:Nat):Int)),aA XC,dR XB,aA (XG ns (k+1)%12),.im aq (XZ (XG ns (k+2))),.ob (h8 (.lst (bF r1.1)) f6)] _ _;let p2:pN ns XB m (nD m) r1.2.1 r1.2.2:=⟨hp.s,`a,`a,`a,`a,hp.l,`a⟩;exact aj (jB 0 (JG 6 (EV.pS aB) (EV.pS `aa) (jo 0 (st:=cg ns (XY ns XB m false XC r1.2).2.1 (XY ns XB m false XC r1.2).2.2) (z:=.lst (bF (XY ns XB m false XC r1.2).1)) CL hr (ah (EV.cast (y':=4-(m:Int)) (bY `g ev_int) `a) (ah `r (ah `p ax))) rfl ⟨ns,XB,_,_,XC,rfl,rfl,p2,by rw[hf]⟩ oX (vz _)) rfl rfl rfl rfl) rfl (fin _ _ (.ifs _ _ _) (.leave,(k,c)) e1))
 let h3:n=0∨¬C3 ns k c:=by
  let h:3<gL ns k->gL ns k<7->4-(n:Int)<4->¬1<c:= ~~~h
  by_cases z:n=0
  ·exact .inl z
  ·exact .inr λ⟨⟨x,y⟩,u⟩=>h x y `a u
 refine ai (a9 (TW.tv (cZ (ay iJ `T ev_int) (λ_=>cZ (ay n5 `T ev_int) (λ_=>cZ (ay n5 `g ev_int) (λ_=>eL (ay iJ (EV.qu (dH 0 ev_int rfl (y:=(Sum.inr c:Rl ⊕ Int)) rfl)) ev_int)))))) (λh=>?_) `J)
 ·let h:6<gL ns k/\gL ns k<10/\4-(n:Int)<4/\1<c:= ~~~h
  let h4:C4 ns k c:=⟨⟨h.1,h.2.1⟩,h.2.2.2⟩;let hc:=h.2.2.2;let hn:=h.2.2.1;let h3x:¬C3 ns k c:=h3.resolve_left `a;obtain⟨m,rfl⟩:∃m,n=m+1:=⟨n-1,`a⟩;let CL:=(CL m rfl).mono (show 2*m+8<=2*(m+1)+6 by cbv);let n4:=hp.n4;let hf:decide (m=4)=false:=Xz `a;let hbd:bT (m+1)=3+2*nD m:=rfl;refine ai `L;change WS _ _ [.ob (aP a c8 (cg ns (k+2) (c-2))),aA (4-((m+1:Nat):Int)),aA XC,dR XB,aA (XG ns (k+1)%12),.im aq (XZ (XG ns (k+2))),.no] _ _;let p1:pN ns XB m (nD m) (k+2) (c-2):=⟨hp.s,`a,`a,`a,`a,hp.l,`a⟩;let e1:=Mv (L:=XY ns XB m false) h0 h1 h2 h3x h4;exact aj (jB 0 (JB (EV.pS aB) (EV.pS `aa) (jo 0 (st:=cg ns (XY ns XB m false (XC+1) (k+2,c-2)).2.1 (XY ns XB m false (XC+1) (k+2,c-2)).2.2) (z:=.lst (bF (XY ns XB m false (XC+1) (k+2,c-2)).1)) CL hr (ah (EV.cast (y':=4-(m:Int)) (bY `g ev_int) `a) (ah (bY `r ev_int) (ah `p ax))) rfl ⟨ns,XB,_,_,XC+1,rfl,rfl,p1,by rw[hf]⟩ oX (vz _)) rfl rfl) rfl (fin _ _ (.XR _ _) (.leave,(k,c)) e1))
 let h4:n=0∨¬C4 ns k c:=by
  let h:6<gL ns k->gL ns k<10->4-(n:Int)<4->¬1<c:= ~~~h
  by_cases z:n=0
  ·exact .inl z
  ·exact .inr λ⟨⟨x,y⟩,u⟩=>h x y `a u
 refine ai `L;refine aj (jB 0 (aZ.w6 (aN (r:=au) (ak (EV.pS aB) (ak (EV.pS `aa) aK)) (by show 2<=UZ;decide)) rfl) rfl (fin _ _ (.X6 _) (.leave,(k,c)) (La h0 h1 h2 λL e=>?_)));cases n with
 | zero=>cases e
 | succ m=>exact⟨h3.resolve_left `a,h4.resolve_left `a⟩
mutual
noncomputable def bC:Th->Int->List PV×Int
 | .X6 x,k=>([.str "do",.str x,.int k],k+1)
 | .call j,k=>([.str "call",.int j,.int k],k+1)
 | .ifs x A B,k=>([.str "if",.str x,.lst ((aR A (k+1)).1.map PV.lst),.lst ((aR B (aR A (k+1)).2).1.map PV.lst),.int k],(aR B (aR A (k+1)).2).2)
 | .XR x A,k=>([.str "while",.str x,.lst ((aR A (k+1)).1.map PV.lst),.int k],(aR A (k+1)).2)
 | .leave,k=>([.str "leave"],k)
 | .back,k=>([.str "back"],k)
noncomputable def aR:List Th->Int->List (List PV)×Int
 | [],k=>([],k)
 | t::ts,k=>((bC t k).1::(aR ts (bC t k).2).1,(aR ts (bC t k).2).2)
end
theorem Cd (ts:`Z):bF ts=(ts.map fh).map PV.lst:=by
 rw[fu,S0];exact Tj λt _=>eI t
theorem nP:∀(ts:`Z)(k:Int),(aR ts k).1.length=ts.length
 | [],k=>by rw[aR];rfl
 | t::ts,k=>by rw[aR,Sb,Sb,nP ts]
noncomputable def mv (n:Nat):Sp:=λvs H Q _=>∃(R:Hp)(b c:Addr)(g:Ro)(ts:`Z)(k:Int),vs=[.ref b,.ref c]/\av R H/\cX H (.ref b) (.lst (bF ts)) (b::g)/\(b::g).Nodup/\(∀d∈b::g,R d=none)/\c∉b::g/\R c=none/\H c∣(.lst [.int k])/\dG ts<=n/\
 ∀H' R',Ext (gf H (c::b::g)) R H' R'->cX H' (.ref b) (.lst ((aR ts k).1.map PV.lst)) (b::g)->H' c∣(.lst [.int (aR ts k).2])->(∀d∈c::b::g,R' d=none)->Q .XT H'
end K1
namespace Fc
open PySem PySem.Spec PySem.W PySem.Calls L2
open PyProof.Rows hiding St
open PySem PySem.Spec L2 K1
section
variable {X:Cx}{Z Γ1 Γ2 Γ3:Ga}{α β γ δ:Type}{N:Ga->Prop}{T:RT}
variable {x:Str}{n':Nat}{a c:Addr}{ps:List PT}{q0:PT}{ts:`Z}
theorem yE {x:Str}{n d:Nat}{es:Rr}{σ:St}{H0 R0 H R:Hp}{i l:Nat}{b:Addr}{g:Ro}{k:Int}{Q:VK}{Ex:XK}{ys:List PV}(E:`aF)(hil:i≠l)(hΓ:`X)(hl:Z[l]?∣(.ob (aP c ag [k])))(hq:ps[n']?∣q0)(Ya:∀e∈b::g,e∈cR q0)(t:cX H (.ref b) (.lst (bF ts)) (b::g))(nd:(b::g).Nodup)(hd:dG ts<=d)(hys:∀H':Hp,(∀e∈cR q0,e∉b::g->H' e=H e)->cX H' (.ref b) (.lst ((aR ts k).1.map PV.lst)) (b::g)->cX H' (.ref q0.2.1) (.lst ys) (cR q0))(hQ:∀H' R',ar X.K σ H0 R0 H' R' ((Z.set i (.ob (bB a (ps.set n' (ys,q0.2.1,q0.2.2))))).set l (.ob (aP c ag [(aR ts k).2])))->av R R'->Q .XT H'):mv d [.ref b,.ref c] H Q Ex:=by
 let⟨⟨v,ea,rfl,kk⟩,hR⟩:=E.ent i _ hΓ;let⟨ec,⟨ws,hc,pc⟩,hRc⟩:=dg (E.ent l _ hl);let ews:ws=[.int k]:=by
  cases pc with
  | cons a1 t1=>cases t1;have:_=V.int k:=a1;rw[this]
 subst ews;let inB:∀e∈b::g,e∈(bB a ps).fp:=λe he=>RX _ (bQ.mpr ⟨n',q0,hq,Ya e he⟩);let cB:∀e∈(bB a ps).fp,e≠c:=λe he z=>hil (E.ds i l _ _ e hΓ hl he (by rw[z];exact RU.mpr rfl));refine⟨R,b,c,g,ts,k,rfl,E.sub,t,nd,λe he=>hR e (inB e he),λw=>cB c (inB c w) rfl,hRc,hc,hd,λH' R' xx t' hc' YK=>?_⟩;let keep:∀e∈(bB a ps).fp,e∉b::g->H' e=H e:=λe he hn=>xx.keep (λw=>(R9.mp w).elim (cB e he) hn) ((bB a ps).has (K:=X.K) (R0:=R) ⟨rfl,kk⟩ e he);let tq:=hys H' (λe he hn=>keep e (RX _ (bQ.mpr ⟨n',q0,hq,he⟩)) hn) t';let nR:∀e∈(bB a ps).fp,R' e=none:=λe he=>by
  by_cases w:e∈c::b::g
  ·exact YK e w
  ·exact(xx.old e (by rw[eP w];exact(bB a ps).has (K:=X.K) (R0:=R) ⟨rfl,kk⟩ e he)).trans (hR e he)
 refine hQ H' R' (E.ML hil hΓ hl (D:=c::b::g) (λe he=>?_) xx ?_ ?_ (z3 hq) λe he=>he) xx.r
 ·obtain rfl | he:=R9.mp he
  ·exact .inr (RU.mpr rfl)
  ·exact .inl (inB e he)
 ·rw[ea];refine⟨⟨_,rfl,rfl,kk.put hq (λe he hn=>keep e he λw=>hn (Ya e w)) tq⟩,λe he=>nR e (z3 hq e he)⟩
 ·rw[ec];exact⟨⟨_,rfl,rfl,[.int (aR ts k).2],hc',.cons rfl .nil⟩,λe he=>by rw[RU.mp he];exact YK c RZ⟩
theorem QS (i j l:Nat){y z:Str}{d m0:Nat}{p p1 p2 cp pos:Pos}{k:Int}(C:aE X.prog X.w X.K X.mg X.base x m0 (mv d))(hr:bG m0 X.A)(hil:i≠l)(hΓ:`X)(hj:Z[j]?∣.im dE q0.2.1)(hl:Z[l]?∣(.ob (aP c ag [k])))(hq:ps[n']?∣q0)(hts:q0.1=bF ts)(hd:dG ts<=d)(h:N ((Z.set i (.ob (bB a (ps.set n' ((aR ts k).1.map PV.lst,q0.2.1,q0.2.2))))).set l (.ob (aP c ag [(aR ts k).2]))))(hg:Gl X x:=by rfl)(Yd:Yz x:=by decide)(he:U5 [.Name y p1,.Name z p2] X.env=(false,eval (.Name y p1) X.env)::U5 [.Name z p2] X.env:=by rfl)(he2:dh X (.Name z p2) []:=by rfl)(X1:fo X cp [.Name z p2]:=by rfl)(hNj:autoParam (At X j y) bZ)(hNl:autoParam (At X l z) bZ)(Yc:U7 (.Call `ao [.Name y p1,.Name z p2] [] cp) none pos.line X.env=pure false:=by rfl):W1 X (.Expr (.Call `ao [.Name y p1,.Name z p2] [] cp) pos) Z N T:=λσ H0 R0 H R E D dn dr=>by
 let⟨f,fd,pn,F,hm,hk,hb⟩:=C.ex;let⟨⟨v,ea,rfl,kk⟩,hR⟩:=E.ent i _ hΓ;let⟨v0,e0,Y7⟩:=E.ent j _ hj;cases Y7
 let⟨ec,_,_⟩:=dg (E.ent l _ hl);let⟨t,nd,_⟩:=kk.pt n' q0 hq;rw[hts] at t;refine sS (dO (iU F hr hg hm hk hb .nil kH (aI (aV hNj) (aI (aV hNl) bq he2) he) Yd he X1) Yc) ⟨.ref q0.2.1,at_of e0,.ref c,at_of ec,?_⟩;show mv d [.ref q0.2.1,.ref c] H (λ_ H1=>D.nx σ H1) E0;refine yE (x:=x) (n:=0) (es:=[]) (Q:=λ_ H'=>D.nx σ H') (g:=q0.2.2) (ys:=(aR ts k).1.map PV.lst) E hil hΓ hl hq (λe he=>he) t nd hd (λH' _ t'=>t') λH' R' E' s'=>dn σ H' R' _ E' s' h
theorem uG (i j l:Nat){y z:Str}{d m0 m jc:Nat}{p p1 p2 p3 p4 cp pos:Pos}{k:Int}(C:aE X.prog X.w X.K X.mg X.base x m0 (mv d))(hr:bG m0 X.A)(hil:i≠l)(hΓ:`X)(hj:Z[j]?∣.im dE q0.2.1)(hl:Z[l]?∣(.ob (aP c ag [k])))(hq:ps[n']?∣q0)(hts:q0.1[m]?∣(.lst (bF ts)))(hd:dG ts<=d)(h:N ((Z.set i (.ob (bB a (ps.set n' (q0.1.set m (.lst ((aR ts k).1.map PV.lst)),q0.2.1,q0.2.2))))).set l (.ob (aP c ag [(aR ts k).2]))))(hg:Gl X x:=by rfl)(Yd:Yz x:=by decide)(he:U5 [.Subscript (.Name y p1) (.Constant (.int (m:Int)) jc p3) p4,.Name z p2] X.env=(false,eval (.Subscript (.Name y p1) (.Constant (.int (m:Int)) jc p3) p4) X.env)::U5 [.Name z p2] X.env:=by rfl)(he2:dh X (.Name z p2) []:=by rfl)(X1:fo X cp [.Name z p2]:=by rfl)(hNj:autoParam (At X j y) bZ)(hNl:autoParam (At X l z) bZ)(hpi:dN (.Constant (.int (m:Int)) jc p3):=by exact λ_ _=>rfl)(Yc:U7 (.Call `ao [.Subscript (.Name y p1) (.Constant (.int (m:Int)) jc p3) p4,.Name z p2] [] cp) none pos.line X.env=pure false:=by rfl):W1 X (.Expr (.Call `ao [.Subscript (.Name y p1) (.Constant (.int (m:Int)) jc p3) p4,.Name z p2] [] cp) pos) Z N T:=λσ H0 R0 H R E D dn dr=>by
 let⟨f,fd,pn,F,hm,hk,hb⟩:=C.ex;let⟨v0,e0,Y7⟩:=E.ent j _ hj;cases Y7
 refine sS (dO (iU F hr hg hm hk hb .nil kH (aI (ir gU (aV hNj) (aO (e:=.Constant (.int (m:Int)) jc p3)) hpi) (aI (aV hNl) bq he2) he) Yd he X1) Yc) ⟨.ref q0.2.1,at_of e0,(ev_int (i:=(m:Int)) (X:=X) (Z:=Z)) σ H0 R0 H R E _ λu H2 R2 E2 s2 e2=>?_⟩;let⟨⟨v,ea,rfl,kk⟩,hR⟩:=E2.ent i _ hΓ;let⟨ec,_,_⟩:=dg (E2.ent l _ hl);let⟨t0,nd,_⟩:=kk.pt n' q0 hq;cases t0 with
 | @lst _ vs _ _ hb2 tt zz=>
 let⟨b,g,f1,f2,hv,ef,t,ZH⟩:=tt.sub hts;let⟨n1,n2⟩:=Sn.mp nd;rw[ef] at n2;let⟨m1,m2,m3⟩:=SO.mp n2;let⟨m4,m5,m6⟩:=SO.mp m2;let ml:=(RP.mp hv).1;refine⟨q0.2.1,vs,(m:Int),.ref b,rfl,e2,bt.of hb2,by rw[gm `a `a,show((m:Nat):Int).toNat=m by cbv];exact hv,.ref c,at_of ec,?_⟩;let sub:∀e∈b::g,e∈q0.2.2:=λe he=>by rw[ef];exact Sa _ (Sg _ he)
 show mv d [.ref b,.ref c] H2 (λ_ H1=>D.nx σ H1) E0;refine yE (x:=x) (n:=0) (es:=[]) (Q:=λ_ H'=>D.nx σ H') (ys:=q0.1.set m (.lst ((aR ts k).1.map PV.lst))) E2 hil hΓ hl hq (λe he=>RX _ (sub e he)) t m4 hd (λH' hk2 t'=>?_) λH' R' E' s'=>dn σ H' R' _ E' (s2.trans s') h;refine .lst ((hk2 _ RZ λw=>n1 (sub _ w)).trans hb2) (ZH H' _ (λe he=>hk2 e ?_ ?_) t') (by rw[SF];exact zz)
 ·refine RX _ ?_;rw[ef];obtain w | w:=Se.mp he
  ·exact Sg _ w
  ·exact Sa _ (Sa _ w)
 ·intro w;obtain z | z:=Se.mp he
  ·exact m3 e z e (Sg _ w) rfl
  ·exact m6 e w e z rfl
end
end Fc
namespace K1
open PySem L2 Fc
open PySem.Spec hiding Row
open PyProof.Rows hiding St
open PySem.Builtin.Int (intBits)
variable {P:U4}{w:World}{K:W7}{mg:Rj}{base:Heap}{f:Addr}{fd:U8}
theorem oJ:∀(ts:`Z)(t:Th)(k:Int),aR (ts++[t]) k=((aR ts k).1++[(bC t (aR ts k).2).1],(bC t (aR ts k).2).2)
 | [],t,k=>by rw[SX,aR,aR,aR];rfl
 | u::ts,t,k=>by rw[Te,aR,oJ ts t,aR];rfl
variable {H:Hp}{b:Addr}
theorem Kb {R:Hp}{c:Addr}{ps:List PT}{k:Int}{N:Rm}(hN:N.length=3)(s:av R H)(kk:lJ H b ps)(hR:∀d∈b::eM ps,R d=none)(hc:c∉b::eM ps)(hRc:R c=none)(hHc:H c∣(.lst [.int k])):
 ar K (L2.start N [.ref b,.ref c]) (gf H (c::b::eM ps)) R H R [.ob (bB b ps),.ob (aP c ag [k]),.no]:=by
 let es:L2.start N [.ref b,.ref c]=[some (.ref b),some (.ref c),none]:=by unfold L2.start;rw[hN];rfl
 rw[es];let at_:∀(i:Nat)(e:Ent),([.ob (bB b ps),.ob (aP c ag [k]),.no]:Ga)[i]?∣e->(i=0/\e= .ob (bB b ps))∨(i=1/\e= .ob (aP c ag [k]))∨(i=2/\e= .no):=λi e q=>by
  match i with
  | 0=>exact .inl ⟨rfl,by simpa using q.symm⟩
  | 1=>exact .inr (.inl ⟨rfl,by simpa using q.symm⟩)
  | 2=>exact .inr (.inr ⟨rfl,by simpa using q.symm⟩)
  | i+3=>simp at q
 refine⟨⟨rM,av.refl _,s,λ_ _=>rfl⟩,λi e q=>?_,λi e d q w=>?_,λi j e e' d q q' w w'=>?_,rfl⟩
 ·obtain⟨rfl,rfl⟩ | ⟨rfl,rfl⟩ | ⟨rfl,rfl⟩:=at_ i e q
  ·exact⟨⟨_,rfl,rfl,kk⟩,hR⟩
  ·exact⟨⟨_,rfl,rfl,_,hHc,.cons rfl .nil⟩,λd hd=>by rw[RU.mp hd];exact hRc⟩
  ·trivial
 ·obtain⟨rfl,rfl⟩ | ⟨rfl,rfl⟩ | ⟨rfl,rfl⟩:=at_ i e q
  ·exact kM (RX _ w)
  ·rw[RU.mp w];exact kM RZ
  ·cases w
 ·obtain⟨rfl,rfl⟩ | ⟨rfl,rfl⟩ | ⟨rfl,rfl⟩:=at_ i e q
  ·obtain⟨rfl,rfl⟩ | ⟨rfl,rfl⟩ | ⟨rfl,rfl⟩:=at_ j e' q'
   ·rfl
   ·exact Xt w (by rw[RU.mp w'];exact hc)
   ·cases w'
  ·obtain⟨rfl,rfl⟩ | ⟨rfl,rfl⟩ | ⟨rfl,rfl⟩:=at_ j e' q'
   ·exact Xt w' (by rw[RU.mp w];exact hc)
   ·rfl
   ·cases w'
  ·cases w
variable {α:Type}{i:Nat}
theorem mi {l:`u}{x:α}(h:l[i]?∣x):l.set i x=l:=by
 let⟨hl,rfl⟩:=RP.mp h;exact List.set_getElem_self hl
variable {N:Ga->Prop}{X:Cx}{g:Addr×Ro}{qs:List PT}{p1 pos:Pos}{Z:Ga}{T:RT}{n:Nat}{XH:`aM}{A:U6}{outer:List Env}{E:XK}{t:Th}
abbrev sD:Stmt:=top qQ
abbrev Gm:Rm:=["_law_items","_law_keys","_law_one"]
abbrev Gg:Rm:=["_law_items","_law_keys"]
theorem ES:bE Gm Gg (ao sD):=YV
section
variable {cs:List PV}{e:Ent}{k s s':Str}{y z:Bool}{j1 j2 j3 j4:Nat}{p2 p3 p4 p5 p6 p7 p8 p9 p10:Pos}
theorem cy {c:Expr}{bd Yx:List Stmt}(h:TV X c Z false Z)(k:WS X Yx Z N T):WS X (.If c bd [] pos::Yx) Z N T:=ai (a9 h (λh=>by cases h) (λ_=>aF k))
theorem ie {c:Expr}{bd Yx:List Stmt}(h:TV X c Z true Z)(k:WS X bd Z (λZ=>WS X Yx Z N T) T):WS X (.If c bd [] pos::Yx) Z N T:=ai (a9 h (λ_=>k) (λh=>by cases h))
theorem kf (hq:qs[i]?∣(cs,g))(h0:cs[0]?∣.str k)(hb:decide (k=s)=y)(hN:autoParam (At X 2 "_law_one") bZ):TV X (.Compare (.Subscript (.Name "_law_one" p1) (.Constant (.int 0) j1 p2) p3) [.Eq] [.Constant (.str s) j2 p4] pos) [.ob (bB b qs),e,.im dE g.1] y [.ob (bB b qs),e,.im dE g.1]:=
 TV.cast (ay cq (EV.sP (x:=k) (oN 0 2 (m:=0) rfl rfl hq h0 rfl hN)) aB) hb
theorem uD (hq:qs[i]?∣(cs,g))(h0:cs[0]?∣.str k)(hb:(!decide (k=s)&& !decide (k=s'))=y)(hN:autoParam (At X 2 "_law_one") bZ):TV X (.BoolOp .And [.Compare (.Subscript (.Name "_law_one" p1) (.Constant (.int 0) j1 p2) p3) [.NotEq] [.Constant (.str s) j2 p4] p5,.Compare (.Subscript (.Name "_law_one" p6) (.Constant (.int 0) j4 p9) p10) [.NotEq] [.Constant (.str s') j3 p7] p8] pos) [.ob (bB b qs),e,.im dE g.1] y [.ob (bB b qs),e,.im dE g.1]:=
 TV.cast (TW.tv (cZ (ay vC (EV.sP (x:=k) (oN 0 2 (m:=0) rfl rfl hq h0 rfl hN)) aB) (λ_=>eL (ay vC (EV.sP (x:=k) (oN 0 2 (m:=0) rfl rfl hq h0 rfl hN)) aB)))) hb
end
theorem Ja (CN:∀m,n=m+1->aE P w K mg base "_law_numbered" (m+1) (mv m)){s:U0}(hr:bG n (A.deeper (UT "_law_numbered" (ao sD) ⇑s f XH))){c:Addr}{k:Int}(hd:gp t<=n)(hq:qs[i]?∣(fh t,g))(hN:N [.ob (bB b (qs.set i ((bC t k).1,g))),.ob (aP c ag [(bC t k).2]),.im dE g.1]):
 WS (eK eo P w K mg base Gm "_law_numbered" (ao sD) f XH A outer s H E).gF (match bD sD with | .For _ _ bd _ _::_=>bd | _=>[]) [.ob (bB b qs),.ob (aP c ag [k]),.im dE g.1] N T:=by
 let nd:=ES.nd;let il:=(RP.mp hq).1;let ZV:∀y:List PV,(qs.set i (y,g))[i]?∣(y,g):=λy=>R8 il;cases t with
 | leave=>
   have:qs.set i ((bC (.leave) k).1,g)=qs:=by rw[bC];exact mi hq
   rw[this,bC] at hN;exact cy (uD hq rfl rfl) (cy (kf hq rfl rfl) (cy (kf hq rfl rfl) (aF hN)))
 | back=>
   have:qs.set i ((bC (.back) k).1,g)=qs:=by rw[bC];exact mi hq
   rw[this,bC] at hN;exact cy (uD hq rfl rfl) (cy (kf hq rfl rfl) (cy (kf hq rfl rfl) (aF hN)))
 | X6 x=>
   rw[bC] at hN;exact ie (uD hq rfl rfl) (ai (pj 0 2 (y:=.int k) (EV.pI `aI) rfl rfl rfl hq rfl (by show 2<UZ;decide) (aj (eN 1 (j:=0) (bY `aI ev_int) ev_int rfl rfl rfl (cy (kf (ZV _) rfl rfl) (cy (kf (ZV _) rfl rfl) (aF hN)))))))
 | call x=>
   rw[bC] at hN;exact ie (uD hq rfl rfl) (ai (pj 0 2 (y:=.int k) (EV.pI `aI) rfl rfl rfl hq rfl (by show 2<UZ;decide) (aj (eN 1 (j:=0) (bY `aI ev_int) ev_int rfl rfl rfl (cy (kf (ZV _) rfl rfl) (cy (kf (ZV _) rfl rfl) (aF hN)))))))
 | ifs x L M=>
   let hd:1+max (dG L) (dG M)<=n:=by rw[gp] at hd;exact hd
   obtain⟨m,rfl⟩:∃m,n=m+1:=⟨n-1,`a⟩;refine ie (uD hq rfl rfl) (ai (pj 0 2 (y:=.int k) (EV.pI `aI) rfl rfl rfl hq rfl (by show 4<UZ;decide) (aj (eN 1 (j:=0) (bY `aI ev_int) ev_int rfl rfl rfl (ie (kf (ZV _) rfl rfl) ?_)))));refine ai (uG 0 2 1 (m:=2) (ts:=L) (CN m rfl) hr `c rfl rfl rfl (ZV ([.str "if",.str x,.lst (bF L),.lst (bF M)]++[.int k])) rfl `a ?_);rw[Tb];generalize hA:aR L (k+1)=RA;refine aj (uG 0 2 1 (m:=3) (ts:=M) (CN m rfl) hr `c rfl rfl rfl (ZV [.str "if",.str x,.lst (RA.1.map PV.lst),.lst (bF M),.int k]) rfl `a ?_);rw[Tb];rw[bC,hA] at hN;exact cy (kf (ZV _) rfl rfl) (aF hN)
 | XR x L=>
   let hd:1+dG L<=n:=by rw[gp] at hd;exact hd
   obtain⟨m,rfl⟩:∃m,n=m+1:=⟨n-1,`a⟩;refine ie (uD hq rfl rfl) (ai (pj 0 2 (y:=.int k) (EV.pI `aI) rfl rfl rfl hq rfl (by show 3<UZ;decide) (aj (eN 1 (j:=0) (bY `aI ev_int) ev_int rfl rfl rfl (cy (kf (ZV _) rfl rfl) (ie (kf (ZV _) rfl rfl) ?_))))));refine aj (uG 0 2 1 (m:=2) (ts:=L) (CN m rfl) hr `c rfl rfl rfl (ZV ([.str "while",.str x,.lst (bF L)]++[.int k])) rfl `a (aF ?_));rw[Tb];rw[bC] at hN;exact hN
theorem Bo (CN:∀m,n=m+1->aE P w K mg base "_law_numbered" (m+1) (mv m))(F:dI K "_law_numbered" "_law_numbered" sD f fd)(hm:mg "_law_numbered"∣.ref f)(hb:Binds K fd Gg []):aE P w K mg base "_law_numbered" (n+1) (mv n):=by
 let nd:=ES.nd;refine⟨f,fd,Gg,?_,hm,F.kp,hb⟩;refine F.ok ES (λvs H Q E h=>?_) `af
 ·let⟨R,b,c,g,ts,k,rfl,_⟩:=h;rfl
 ·let⟨R,b,c,g,ts,k,rfl,sR,t,ndb,hR,hc,hRc,hHc,hd,q⟩:=h;let hz:ts.length<=UZ:=by
   cases t with
   | lst _ _ z=>rw[fu,RS] at z;exact z
  rw[Cd] at t;let⟨ps,kk,e1,rfl⟩:=t.pl ndb;let pl:ps.length=ts.length:=by
   have:=congrArg List.length e1;rwa [RS,RS] at this
  let body:WS (eK eo P w K mg base Gm "_law_numbered" (ao sD) f XH A outer s H E).gF (bD sD) [.ob (bB b ps),.ob (aP c ag [k]),.no] (λZ=>∃(qs:List PT)(e:Ent),Z=[.ob (bB b qs),.ob (aP c ag [(aR ts k).2]),e]/\qs.map (·.2)=ps.map (·.2)/\qs.map (·.1)=(aR ts k).1) (λ_ _ _ _=>False):=by
   refine aj (zM 0 (a:=b) (ps:=ps) (λi Z=>∃(qs:List PT)(e:Ent),Z=[.ob (bB b qs),.ob (aP c ag [(aR (ts.take i) k).2]),e]/\qs.map (·.2)=ps.map (·.2)/\qs.map (·.1)=(aR (ts.take i) k).1++(ts.drop i).map fh) rfl (aY 2) ⟨ps,.no,rfl,rfl,?_⟩ (λi Z ⟨qs,e,h1,h2,_⟩=>⟨qs,by rw[h1];rfl,h2⟩) (λi p Z hp hΓ=>?_) `W)
   ·rw[Tr,aR,drop_zero,e1];rfl
   ·let⟨qs,e,rfl,h2,h3⟩:=hΓ;let il:i<ts.length:=by rw[← pl];exact(RP.mp hp).1
    let ti:ts[i]?=some ts[i]:=RQ il;let lt:(aR (ts.take i) k).1.length=i:=by rw[nP,Sm];cbv
    let q1:(qs.map (·.1))[i]?∣(fh ts[i]):=by
     rw[h3,Su `a,lt,UE,R6,T6,UA,ti];rfl
    let q2:(qs.map (·.2))[i]?∣p.2:=by rw[h2,R6,hp];rfl
    rw[R6] at q1 q2;let⟨q0,ZE,e3⟩:=UK.mp q1;rw[ZE] at q2;let e4:q0.2=p.2:=Option.some.inj q2;let hq:qs[i]?∣(fh ts[i],p.2):=by rw[ZE];exact congrArg some (UO e3 e4)
    let nx:aR (ts.take (i+1)) k=((aR (ts.take i) k).1++[(bC ts[i] (aR (ts.take i) k).2).1],(bC ts[i] (aR (ts.take i) k).2).2):=by
     rw[SG,ti];exact oJ _ _ _
    refine Ja (t:=ts[i]) (i:=i) (qs:=qs) (g:=p.2) CN hr (Um (oS (SD il)) hd) hq ⟨qs.set i ((bC ts[i] (aR (ts.take i) k).2).1,p.2),.im dE p.2.1,by rw[nx],?_,?_⟩
    ·rw[List.map_set,h2];exact mi (by rw[R6,hp];rfl)
    ·rw[List.map_set,h3,nx,List.set_append_right _ _ `a,lt,UE,Sj];congr 1;rw[show ts.drop i=ts[i]::ts.drop (i+1) from S7 il];rfl
   ·let⟨qs,e,rfl,h2,h3⟩:=hΓ;rw[pl,SK] at h3 ⊢;rw[drop_length,TU,Sl] at h3;exact⟨qs,e,rfl,h2,h3⟩
  refine⟨_,iM,body (L2.start Gm [.ref b,.ref c]) (gf H (c::b::eM ps)) R H R (Kb rfl sR kk hR hc hRc hHc) {nx:=λ_ H'=>Q .XT H',rt:=Q} (λσ' H' R' Γ' E' _ ⟨qs,e,hΓ,h2,h3⟩=>?_) λv H' R' xx t=>t.elim⟩;subst hΓ;let⟨⟨v,ea,rfl,k2⟩,Zu⟩:=E'.ent 0 _ rfl;let⟨ec,⟨ws,hwc,pw⟩,hRc2⟩:=dg (E'.ent 1 _ rfl);let ews:ws=[.int (aR ts k).2]:=by
   cases pw with
   | cons a1 t1=>cases t1;have:_=V.int (aR ts k).2:=a1;rw[this]
  subst ews;let fe:eM qs=eM ps:=by
   have:=congrArg (λl:List (Addr×Ro)=>l.flatMap λz=>z.1::z.2) h2;simpa only[List.flatMap_map] using this
  let ql:qs.length<=UZ:=by
   have:=congrArg List.length h2;rw[RS,RS] at this;cbv
  let⟨t2,_⟩:=k2.tpv ql;rw[h3,fe] at t2;refine q H' R' E'.ext t2 hwc λd hd=>?_;obtain rfl | hd:=R9.mp hd
  ·exact hRc2
  ·exact Zu d (by show d∈b::eM qs;rw[fe];exact hd)
theorem GZ (F:dI K "_law_numbered" "_law_numbered" sD f fd)(hm:mg "_law_numbered"∣.ref f)(hb:Binds K fd Gg []):∀n,aE P w K mg base "_law_numbered" (n+1) (mv n)
 | 0=>Bo (λm h=>Xt h `a) F hm hb
 | n+1=>Bo (λm h=>by cases h;exact GZ F hm hb n) F hm hb
noncomputable def lu (ts:`Z)(k:Int)(bh lp:PV):PV:=match ts with
 | []=>bh
 | .leave::_=>lp
 | .back::_=>.int (-1)
 | _::_=>.int k
mutual
noncomputable def eZ:Th->Int->PV->PV->List PV
 | .X6 x,k,af,lp=>[.tup [.str "do",.str x,.int k,af,.int (-1)]]
 | .call j,k,af,lp=>[.tup [.str "call",.str "",.int k,af,.int j]]
 | .ifs x A B,k,af,lp=>[.tup [.str "yes",.str x,.int k,lu A (k+1) af lp,.int (-1)],.tup [.str "no",.str x,.int k,lu B (aR A (k+1)).2 af lp,.int (-1)]]++(ft A (k+1) af lp++ft B (aR A (k+1)).2 af lp)
 | .XR x A,k,af,lp=>[.tup [.str "yes",.str x,.int k,lu A (k+1) (.int k) af,.int (-1)],.tup [.str "no",.str x,.int k,af,.int (-1)]]++ft A (k+1) (.int k) af
 | .leave,_,_,_=>[]
 | .back,_,_,_=>[]
noncomputable def ft:List Th->Int->PV->PV->List PV
 | [],_,_,_=>[]
 | t::ts,k,bh,lp=>eZ t k (lu ts (bC t k).2 bh lp) lp++ft ts (bC t k).2 bh lp
end
mutual
theorem wA:∀(t:Th)(k:Int)(af lp:PV),(eZ t k af lp).length=cn t
 | .X6 x,k,af,lp=>by rw[eZ,cn];rfl
 | .call j,k,af,lp=>by rw[eZ,cn];rfl
 | .ifs x A B,k,af,lp=>by rw[eZ,cn,RY,RY,iE A,iE B];show 2+_=_;cbv
 | .XR x A,k,af,lp=>by rw[eZ,cn,RY,iE A];rfl
 | .leave,k,af,lp=>by simp only[eZ,cn];rfl
 | .back,k,af,lp=>by simp only[eZ,cn];rfl
theorem iE:∀(ts:`Z)(k:Int)(bh lp:PV),(ft ts k bh lp).length=bW ts
 | [],k,bh,lp=>by rw[ft,bW];rfl
 | t::ts,k,bh,lp=>by rw[ft,bW,RY,wA t,iE ts]
end
theorem zm (t:Th)(k:Int):bP (bC t k).1 0∣(.str (eT t)):=by cases t<;>rw[bC]<;>rfl
theorem uf:∀{ts:`Z}{j:Nat}{t:Th}(k:Int),ts[j]?∣t->(aR ts k).1[j]?=some (bC t (aR (ts.take j) k).2).1
 | u::ts,0,t,k,h=>by
   let e:u=t:= ~~~h
   rw[aR,Tr,aR,e];rfl
 | u::ts,j+1,t,k,h=>by
   rw[aR,SQ,aR];exact uf (bC u k).2 (~~~h)
theorem CU:∀(ts:`Z)(j:Nat){t:Th}(k:Int)(bh lp:PV),ts[j]?∣t->ft (ts.drop j) (aR (ts.take j) k).2 bh lp=eZ t (aR (ts.take j) k).2 (lu (ts.drop (j+1)) (aR (ts.take (j+1)) k).2 bh lp) lp++ft (ts.drop (j+1)) (aR (ts.take (j+1)) k).2 bh lp
 | ts,j,t,k,bh,lp,h=>by
   let jl:=(RP.mp h).1;let e:ts.drop j=t::ts.drop (j+1):=by
    rw[S7 jl];congr 1;exact Option.some.inj ((RQ jl).symm.trans h)
   let e2:(aR (ts.take (j+1)) k).2=(bC t (aR (ts.take j) k).2).2:=by
    rw[SG,h];show(aR (ts.take j++[t]) k).2=_;rw[oJ]
   rw[e,ft,e2]
abbrev gv (ts:`Z)(k:Int):List PV:=(aR ts k).1.map PV.lst
abbrev Qe:Stmt:=top vi
abbrev O3:Rm:=["_law_items","_law_j","_law_behind","_law_loop"]
def Ds:dc:=λK ps T=>∃(ts:`Z)(k:Int)(j:Nat)(bh lp:PV),ps=[⟨ae au,gv ts k⟩,⟨ag,(j:Int)⟩,⟨au,bh⟩,⟨au,lp⟩]/\j<=ts.length/\T=cP K au (· =lu (ts.drop j) (aR (ts.take j) k).2 bh lp)
theorem NY (M:cb K mg)(Df:Def K mg "_law_entry" Qe O3):aE P w K mg base "_law_entry" 1 (aQ Ds K):=by
 refine bO (N:=O3) (k:=0) Df `n;let⟨ts,k,j,bh,lp,rfl,hj,rfl⟩:=hS;let ln:(gv ts k).length=ts.length:=by rw[RS,nP]
 refine ai (a9 (ay gi `g (da M.len `e)) (λh=>?_) `J)
 ·let h:(j:Int)=((gv ts k).length:Int):=Xw h;refine aj (aU `r ?_);rw[Tt `a];rfl
 let h:¬(j:Int)=((gv ts k).length:Int):=Xx h;let jl:j<ts.length:=`a
 let tj:ts[j]?=some ts[j]:=RQ jl;let ed:ts.drop j=ts[j]::ts.drop (j+1):=S7 jl;let at_:bP (gv ts k) (j:Int)∣(.lst (bC ts[j] (aR (ts.take j) k).2).1):=by
  rw[gm `a `a,show((j:Nat):Int).toNat=j by cbv,R6,uf k tj];rfl
 rw[ed];generalize ts[j]=t at at_;generalize (aR (ts.take j) k).2=kk at at_;refine ai (a9 (ay cq (EV.sP (aL (EV.lP (aL `e `g at_)) ev_int (zm t kk))) aB) (λh=>?_) `J)
 ·let h:eT t="leave":=Xw h;refine aj (aU `p ?_);cases t with
  | leave=>rfl
  | _=>simp only[eT] at h;exact Xt h `b
 let h1:eT t≠"leave":=Xx h;refine ai (a9 (ay cq (EV.sP (aL (EV.lP (aL `e `g at_)) ev_int (zm t kk))) aB) (λh=>?_) `J)
 ·let h:eT t="back":=Xw h;refine aj (aU (EV.pI `ag) ?_);cases t with
  | back=>rfl
  | _=>simp only[eT] at h;exact Xt h `b
 let h2:eT t≠"back":=Xx h;let lst:bP (bC t kk).1 (-1)∣.int kk/\lu (t::ts.drop (j+1)) kk bh lp= .int kk:=by
  cases t with
  | leave=>exact Xt rfl h1
  | back=>exact Xt rfl h2
  | _=>exact⟨by rw[bC];rfl,rfl⟩
 exact aj (aU (aL (EV.lP (aL `e `g at_)) `ag lst.1) lst.2.symm)
def nJ (n:Nat)(K:W7):Sp:=λvs H Q _=>∃(R:Hp)(a:Addr)(ws:`R)(xs:List PV)(v0 v1 v2:V)(ts:`Z)(k:Int)(bh lp:PV),vs=[v0,v1,v2,.ref a]/\av R H/\R a=none/\H a∣.lst ws/\PySem.Paired (au.R K R) ws xs/\(ae au).R K R v0 (gv ts k)/\au.R K R v1 bh/\au.R K R v2 lp/\dG ts<=n/\xs.length+bW ts<=1000/\
 ∀H' R' YH,Ext (del H a) R H' R'->H' a∣.lst YH->R' a=none->PySem.Paired (au.R K R') YH (xs++ft ts k bh lp)->Q .XT H'
variable {x:Str}{xs:List PV}{e:Expr}{es:Rr}{a:Addr}{y:Str}{ts:`Z}
theorem fL (i:Nat){n:Int}{y:PV}(hΓ:Z[i]?∣(.im au (.lst xs)))(he:EV X e Z ag n Z)(hy:bP xs n∣y)(hN:`o)(hs:dN e:=by exact λ_ _=>rfl):EV X (.Subscript `h e pos) Z au y Z:=
 aL (EV.lP (aa i hΓ hN)) he hy hs
theorem eV (i:Nat){k s:Str}{jc:Nat}{p2 p3:Pos}{b:Bool}(hΓ:Z[i]?∣(.im au (.lst (.str k::xs))))(he:EV X e Z ag 0 Z)(hb:decide (k=s)=b)(hN:`o)(hs:dN e:=by exact λ_ _=>rfl):TV X (.Compare (.Subscript `h e p2) [.Eq] [.Constant (.str s) jc p3] pos) Z b Z:=
 TV.cast (ay cq (EV.sP (fL i hΓ he (by rw[gm `a `d];rfl) hN hs)) aB) hb
theorem tQ (i:Nat){k:Nat}{tp ap cp:Pos}{ys:List PV}(he:EA X es (Z.set i (.mu au xs)) au ys (Z.set i (.mu au xs)))(hΓ:Z[i]?∣(.ob (aP a au xs)))(hz:xs.length<=1100)(h:N (Z.set i (.ob (aP a au (xs++[.tup ys])))))(hy:ys.length<=UZ:=by show 5<=UZ;decide)(hN:`o)(Yc:U7 (.Call (.Attribute `h "append" ap) [.Tuple es k tp] [] cp) none pos.line X.env=pure false:=by rfl)(XN:eX X `h "append":=by rfl)(X4:((VQ cp (U5 [.Tuple es k tp] X.env)).all (λx=> !x.1)&&(backToKw cp (keywordEach [] X.env)).all (λx=>x.1.isSome)
  &&decide ([(.Tuple es k tp:Expr)].length+([]:List VW).length+(if([]:List VW).isEmpty then 0 else 1)<30))=true:=by rfl)(XM:`Y=true:=by rfl)(hs:U5 [.Tuple es k tp] X.env=(false,eval (.Tuple es k tp) X.env)::U5 [] X.env:=by rfl):W1 X (.Expr (.Call (.Attribute `h "append" ap) [.Tuple es k tp] [] cp) pos) Z N T:=by
 let hl:i<Z.length:=(RP.mp hΓ).1;refine oR (EV.box i (vb i (r:=au) (fR he hy) (R8 hl) (R8 hl) (Uo hz `c) hN XN X4 XM hs) hΓ (R8 (by rw[SF];exact hl))) ?_ Yc;rw[Tb,Tb];exact h
theorem FG (i:Nat){m:Nat}{e0 e1 e2:Expr}{p cp:Pos}{k:Int}{bh lp:PV}(C:aE X.prog X.w X.K X.mg X.base x m (nJ n X.K))(hr:bG m X.A)(h0:EV X e0 Z (ae au) (gv ts k) Z)(h1:EV X e1 Z au bh Z)(h2:EV X e2 Z au lp Z)(hΓ:Z[i]?∣(.ob (aP a au xs)))(hd:dG ts<=n)(hz:xs.length+bW ts<=1000)(h:N (Z.set i (.ob (aP a au (xs++ft ts k bh lp)))))(hg:Gl X x:=by rfl)(Yd:Yz x:=by decide)(s0:U5 [e0,e1,e2,.Name y p1] X.env=(false,eval e0 X.env)::U5 [e1,e2,.Name y p1] X.env:=by rfl)(s1:U5 [e1,e2,.Name y p1] X.env=(false,eval e1 X.env)::U5 [e2,.Name y p1] X.env:=by rfl)(s2:U5 [e2,.Name y p1] X.env=(false,eval e2 X.env)::U5 [.Name y p1] X.env:=by rfl)(s3:dh X (.Name y p1) []:=by rfl)(X1:fo X cp [e1,e2,.Name y p1]:=by rfl)(hN:autoParam (At X i y) bZ)(Yc:U7 (.Call `ao [e0,e1,e2,.Name y p1] [] cp) none pos.line X.env=pure false:=by rfl):W1 X (.Expr (.Call `ao [e0,e1,e2,.Name y p1] [] cp) pos) Z N T:=λσ H0 R0 H R E D dn dr=>by
 let⟨f,fd,pn,F,hm,hk,hb⟩:=C.ex;refine sS (dO (iU F hr hg hm hk hb .nil kH (aI aO (aI aO (aI aO (aI (aV hN) bq s3) s2) s1) s0) Yd s0 X1) Yc) ?_;refine h0 σ H0 R0 H R E _ λv0 H1 R1 E1 q1 g0=>h1 σ H0 R0 H1 R1 E1 _ λv1 H2 R2 E2 q2 g1=>h2 σ H0 R0 H2 R2 E2 _ λv2 H3 R3 E3 q3 g2=>?_;let⟨ea,⟨ws,ha,pp⟩,hR⟩:=dg (E3.ent i _ hΓ);refine⟨.ref a,at_of ea,?_⟩;show nJ n X.K [v0,v1,v2,.ref a] H3 (λ_ H1=>D.nx σ H1) E0;refine⟨R3,a,ws,xs,v0,v1,v2,ts,k,bh,lp,rfl,E3.sub,hR,ha,pp,(ae au).mono (q2.trans q3) g0,au.mono (K:=X.K) q3 g1,g2,hd,hz,λH' R' YH xx h1 h2 pq=>?_⟩;let hl:i<Z.length:=(RP.mp hΓ).1;let E4:ar X.K σ H0 R0 H' R' (Z.set i (.ob (aP a au (xs++ft ts k bh lp)))):=E3.A6 hΓ (B:=aP a au xs) (by
  have:gf H3 (aP a au xs).fp=del H3 a:=by funext b;show(if b∈[a] then none else H3 b)=_;unfold del;simp only[RU]
  rw[this];exact xx) (by rw[ea];exact⟨⟨_,rfl,rfl,YH,h1,pq⟩,λb hb=>by rw[RU.mp hb];exact h2⟩) λc hc=>hc
 exact dn σ H' R' _ E4 (q1.trans (q2.trans (q3.trans xx.r))) h
abbrev rX:Stmt:=top wY
abbrev GB:Rm:=["_law_items","_law_behind","_law_loop","_law_rows_here","_law_j","_law_one","_law_after"]
abbrev Gp:Rm:=["_law_items","_law_behind","_law_loop","_law_rows_here"]
theorem Ej:bE GB Gp (ao rX):=YV
theorem JI {R:Hp}{ws:`R}{items:List PV}{bh lp:PV}{u0 u1 u2:V}{N:Rm}(hN:N.length=7)(s:av R H)(hR:R a=none)(ha:H a∣.lst ws)(pp:PySem.Paired (au.R K R) ws xs)(g0:(ae au).R K R u0 items)(g1:au.R K R u1 bh)(g2:au.R K R u2 lp):
 ar K (L2.start N [u0,u1,u2,.ref a]) (del H a) R H R [.im (ae au) items,.im au bh,.im au lp,.ob (aP a au xs),.no,.no,.no]:=by
 let es:L2.start N [u0,u1,u2,.ref a]=[some u0,some u1,some u2,some (.ref a),none,none,none]:=by unfold L2.start;rw[hN];rfl
 rw[es];let key:∀(i:Nat)(e:Ent),([Ent.im (ae au) items,.im au bh,.im au lp,.ob (aP a au xs),.no,.no,.no]:Ga)[i]?∣e->(i=0/\e= .im (ae au) items)∨(i=1/\e= .im au bh)∨(i=2/\e= .im au lp)∨(i=3/\e= .ob (aP a au xs))∨e= .no:=by
  intro i e q
  match i,q with
  | 0,q=>simp at q;exact .inl ⟨rfl,q.symm⟩
  | 1,q=>simp at q;exact .inr (.inl ⟨rfl,q.symm⟩)
  | 2,q=>simp at q;exact .inr (.inr (.inl ⟨rfl,q.symm⟩))
  | 3,q=>simp at q;exact .inr (.inr (.inr (.inl ⟨rfl,q.symm⟩)))
  | 4,q=>simp at q;exact .inr (.inr (.inr (.inr q.symm)))
  | 5,q=>simp at q;exact .inr (.inr (.inr (.inr q.symm)))
  | 6,q=>simp at q;exact .inr (.inr (.inr (.inr q.symm)))
  | i+7,q=>simp at q
 let dsub:av (del H a) H:=λb o q=>by
  unfold del at q;by_cases h:b=a
  ·rw[Xv h] at q;cases q
  ·rwa [Xu h] at q
 refine⟨⟨dsub,av.refl _,s,λ_ _=>rfl⟩,λi e q=>?_,λi e d q w=>?_,λi j e e' d q q' w w'=>?_,rfl⟩
 ·obtain⟨rfl,rfl⟩ | ⟨rfl,rfl⟩ | ⟨rfl,rfl⟩ | ⟨rfl,rfl⟩ | rfl:=key i e q
  ·exact⟨u0,rfl,g0⟩
  ·exact⟨u1,rfl,g1⟩
  ·exact⟨u2,rfl,g2⟩
  ·exact⟨⟨_,rfl,rfl,ws,ha,pp⟩,λb hb=>by rw[RU.mp hb];exact hR⟩
  ·trivial
 ·obtain⟨rfl,rfl⟩ | ⟨rfl,rfl⟩ | ⟨rfl,rfl⟩ | ⟨rfl,rfl⟩ | rfl:=key i e q
  ·cases w
  ·cases w
  ·cases w
  ·rw[RU.mp w];unfold del;rw[Xv rfl]
  ·cases w
 ·obtain⟨rfl,rfl⟩ | ⟨rfl,rfl⟩ | ⟨rfl,rfl⟩ | ⟨rfl,rfl⟩ | rfl:=key i e q
  ·cases w
  ·cases w
  ·cases w
  ·obtain⟨rfl,rfl⟩ | ⟨rfl,rfl⟩ | ⟨rfl,rfl⟩ | ⟨rfl,rfl⟩ | rfl:=key j e' q'
   ·cases w'
   ·cases w'
   ·cases w'
   ·rfl
   ·cases w'
  ·cases w
theorem Iz (CE:aE P w K mg base "_law_entry" 1 (aQ Ds K))(CR:∀m,n=m+1->aE P w K mg base "_law_rows" (m+2) (nJ m K)){s:U0}(hr:bG (n+1) (A.deeper (UT "_law_rows" (ao rX) ⇑s f XH))){items:List PV}{bh lp af:PV}{k:Int}{e4:Ent}(hd:gp t<=n)(hz:xs.length+cn t<=1000)(hN:N [.im (ae au) items,.im au bh,.im au lp,.ob (aP a au (xs++eZ t k af lp)),e4,.im au (.lst (bC t k).1),.im au af]):
 WS (eK eo P w K mg base GB "_law_rows" (ao rX) f XH A outer s H E).gF (match bD rX with | .For _ _ bd _ _::_=>bd.drop 1 | _=>[]) [.im (ae au) items,.im au bh,.im au lp,.ob (aP a au xs),e4,.im au (.lst (bC t k).1),.im au af] N T:=by
 let nd:=Ej.nd;let CE:=CE.mono (show 1<=n+1 by cbv);let hzl:∀m:Nat,m<=1100->m<UZ:=λm h=>Uo h `c;cases t with
 | leave=>
   rw[bC,eZ,Sl] at hN;rw[bC];exact cy `w (cy `w (cy `w (cy `w (aF hN))))
 | back=>
   rw[bC,eZ,Sl] at hN;rw[bC];exact cy `w (cy `w (cy `w (cy `w (aF hN))))
 | X6 x=>
   rw[bC,eZ] at hN;simp only[cn] at hz;rw[bC];refine ie `w (aj (tQ 3 (ak (EV.pS aB) (ak `az (ak (fL 5 rfl `ag rfl) (ak `aw (ak (EV.pI `ag) aK))))) rfl `a ?_));exact cy `w (cy `w (cy `w (aF hN)))
 | call x=>
   rw[bC,eZ] at hN;simp only[cn] at hz;rw[bC];refine cy `w (ie `w (aj (tQ 3 (ak (EV.pS aB) (ak (EV.pS aB) (ak (fL 5 rfl `ag rfl) (ak `aw (ak `az aK))))) rfl `a ?_)));exact cy `w (cy `w (aF hN))
 | ifs x L M=>
   rw[bC,eZ] at hN;simp only[cn] at hz;rw[bC];let hd:1+max (dG L) (dG M)<=n:=by rw[gp] at hd;exact hd
   obtain⟨m,rfl⟩:∃m,n=m+1:=⟨n-1,`a⟩;refine cy `w (cy `w (ie `w ?_));refine ai (tQ 3 (ak (EV.pS aB) (ak `az (ak (fL 5 rfl `ag rfl) (ak (aJ CE hr (ah (EV.lP `az) (ah ev_int (ah `aw (ah `r ax)))) ⟨L,k+1,0,af,lp,rfl,Ul _,rfl⟩) (ak (EV.pI `ag) aK))))) rfl `a ?_);refine ai (tQ 3 (ak (EV.pS aB) (ak `az (ak (fL 5 rfl `ag rfl) (ak (aJ CE hr (ah (EV.lP `az) (ah ev_int (ah `aw (ah `r ax)))) ⟨M,(aR L (k+1)).2,0,af,lp,rfl,Ul _,rfl⟩) (ak (EV.pI `ag) aK))))) rfl (by simp only[RY,Sb,Sv];cbv) ?_);refine ai (FG 3 (ts:=L) (k:=k+1) (CR m rfl) hr (EV.lP `az) `aw `r rfl `a (by simp only[RY,Sb,Sv];cbv) ?_);refine aj (FG 3 (ts:=M) (k:=(aR L (k+1)).2) (CR m rfl) hr (EV.lP `az) `aw `r rfl `a (by simp only[RY,Sb,Sv,iE];cbv) ?_);refine cy `w (aF ?_);simp only[Sj,Te,SX] at hN ⊢;exact hN
 | XR x L=>
   rw[bC,eZ] at hN;simp only[cn] at hz;rw[bC];let hd:1+dG L<=n:=by rw[gp] at hd;exact hd
   obtain⟨m,rfl⟩:∃m,n=m+1:=⟨n-1,`a⟩;refine cy `w (cy `w (cy `w (ie `w ?_)));refine ai (tQ 3 (ak (EV.pS aB) (ak `az (ak (fL 5 rfl `ag rfl) (ak (aJ CE hr (ah (EV.lP `az) (ah ev_int (ah (fL 5 rfl `ag rfl) (ah `aw ax)))) ⟨L,k+1,0,.int k,af,rfl,Ul _,rfl⟩) (ak (EV.pI `ag) aK))))) rfl `a ?_);refine ai (tQ 3 (ak (EV.pS aB) (ak `az (ak (fL 5 rfl `ag rfl) (ak `aw (ak (EV.pI `ag) aK))))) rfl (by simp only[RY,Sb,Sv];cbv) ?_);refine aj (FG 3 (ts:=L) (k:=k+1) (CR m rfl) hr (EV.lP `az) (fL 5 rfl `ag rfl) `aw rfl `a (by simp only[RY,Sb,Sv];cbv) (aF ?_));simp only[Sj,Te,SX] at hN ⊢;exact hN
theorem BH (M:cb K mg)(CE:aE P w K mg base "_law_entry" 1 (aQ Ds K))(CR:∀m,n=m+1->aE P w K mg base "_law_rows" (m+2) (nJ m K))(F:dI K "_law_rows" "_law_rows" rX f fd)(hm:mg "_law_rows"∣.ref f)(hb:Binds K fd Gp []):aE P w K mg base "_law_rows" (n+2) (nJ n K):=by
 let nd:=Ej.nd;refine⟨f,fd,Gp,?_,hm,F.kp,hb⟩;refine F.ok (k:=n+1) Ej (λvs H Q E h=>?_) `af
 ·let⟨R,a,ws,xs,v0,v1,v2,ts,k,bh,lp,rfl,_⟩:=h;rfl
 ·let⟨R,a,ws,xs,v0,v1,v2,ts,k,bh,lp,rfl,sR,hR,ha,pp,g0,g1,g2,hd,hz,q⟩:=h;let CE':=CE.mono (show 1<=n+1 by cbv);let ln:(gv ts k).length=ts.length:=by rw[RS,nP]
  let body:WS (eK eo P w K mg base GB "_law_rows" (ao rX) f XH A outer s H E).gF (bD rX) [.im (ae au) (gv ts k),.im au bh,.im au lp,.ob (aP a au xs),.no,.no,.no] (λZ=>∃e4 e5 e6,Z=[.im (ae au) (gv ts k),.im au bh,.im au lp,.ob (aP a au (xs++ft ts k bh lp)),e4,e5,e6]) (λ_ _ _ _=>False):=by
   refine aj (bN (r:=cz ag au) (λi Z=>∃ys e4 e5 e6,Z=[.im (ae au) (gv ts k),.im au bh,.im au lp,.ob (aP a au ys),e4,e5,e6]/\ys++ft (ts.drop i) (aR (ts.take i) k).2 bh lp=xs++ft ts k bh lp) (i6 M.enumerate `e) (d9 4 5) ⟨xs,_,_,_,rfl,?_⟩ (λi z Z ZY hΓ=>?_) `W)
   ·rw[drop_zero,Tr,aR]
   ·let⟨ys,e4,e5,e6,rfl,he⟩:=hΓ;let⟨z1,z2⟩:=fD ZY;let il:i<ts.length:=by rw[← ln];exact(RP.mp z2).1
    let ti:ts[i]?=some ts[i]:=RQ il;let ez:z.2= .lst (bC ts[i] (aR (ts.take i) k).2).1:=by
     rw[R6,uf k ti] at z2;exact(Option.some.inj z2).symm
    rw[CU ts i k bh lp ti] at he;let hlen:ys.length+(cn ts[i]+bW (ts.drop (i+1)))=xs.length+bW ts:=by
     have:=congrArg List.length he;simpa only[RY,wA,iE] using this
    let⟨zi,zp⟩:=z;dsimp only at z1 ez;subst z1 ez;refine ai (ba 6 (r:=au) (y:=lu (ts.drop (i+1)) (aR (ts.take (i+1)) k).2 bh lp) (aJ CE' hr (ah `e (ah (EV.cast (y':=((i+1:Nat):Int)) (bY `T ev_int) (by push_cast;rfl)) (ah `g (ah `r ax)))) ⟨ts,k,i+1,bh,lp,rfl,il,rfl⟩) ?_);refine Iz CE CR hr (Um (oS (SD il)) hd) `a ⟨_,_,_,_,rfl,?_⟩;rw[Sj];exact he
   ·let⟨ys,e4,e5,e6,rfl,he⟩:=hΓ;rw[cL,ln,drop_length,ft,Sl] at he;rw[← he];exact⟨_,_,_,rfl⟩
  refine⟨_,iM,body (L2.start GB [v0,v1,v2,.ref a]) (del H a) R H R (JI rfl sR hR ha pp g0 g1 g2) {nx:=λ_ H'=>Q .XT H',rt:=Q} (λσ' H' R' Γ' E' _ ⟨e4,e5,e6,hΓ⟩=>?_) λv H' R' xx t=>t.elim⟩;subst hΓ;let⟨ea,⟨YH,Yv,YD⟩,Yj⟩:=dg (E'.ent 3 _ rfl);exact q H' R' YH E'.ext Yv Yj YD
theorem F8 (M:cb K mg)(CE:aE P w K mg base "_law_entry" 1 (aQ Ds K))(F:dI K "_law_rows" "_law_rows" rX f fd)(hm:mg "_law_rows"∣.ref f)(hb:Binds K fd Gp []):∀n,aE P w K mg base "_law_rows" (n+2) (nJ n K)
 | 0=>BH M CE (λm h=>Xt h `a) F hm hb
 | n+1=>BH M CE (λm h=>by cases h;exact F8 M CE F hm hb n) F hm hb
theorem Lo (n:Nat):nD n=1+5*bT n:=by cases n<;>rfl
theorem F9 (ns XB:Rl):∀(n:Nat)(lp:Int)(s:Pn),0<s.2->t8 n (bT n) s (X9 ns XB `as lp s)
 | 0,lp,s,h=>xB ns XB lp s h
 | n+1,lp,s,h=>yd (mT ns XB n false) lp s h
theorem NS (K:W7)(H H':Hp)(v:V)(y:Int)(h:ag.R K H v y):ag.R K H' v y:=h
theorem OK (K:W7)(H H':Hp)(v:V)(y:Str)(h:aq.R K H v y):aq.R K H' v y:=h
theorem zA (t:Th):qS t=decide (eT t="back"):=by cases t<;>rfl
theorem Iu (a b:`Z):bF (a++b)=bF a++bF b:=by rw[fu,fu,fu,Sf]
theorem kR (a:`Z):(bF a).length=a.length:=by rw[fu,RS]
abbrev rS:Stmt:=top wK
abbrev J0:Rm:=["_law_pen","_law_depth","_law_loops","_law_calls","_law_items","_law_k","_law_one"]
theorem D8:bE J0 zY (ao rS):=YV
theorem ls_run (M:cb K mg)(CP:aE P w K mg base "_law_pull" 2 (gI c8 yQ K))(CA:aE P w K mg base "_law_passes" 6 (aQ (GA 5) K))(CT:aE P w K mg base "_law_thing" (2*n+7) (gI c8 (J7 n) K)){s:U0}{ns XB:Rl}{k c XC:Int}(hr:bG (2*n+7) (A.deeper (UT "_law_list" (ao rS) ⇑s f XH)))(hp:pN ns XB n (nD n) k c)(Zn:∀(e5 e6:Ent)(fp:Ro),WS (eK eo P w K mg base J0 "_law_list" (ao rS) f XH A outer s H E).gF ((bD rS).drop 2) [.ob (aP a c8 (cg ns (XY ns XB n (decide (n=4)) XC (k,c)).2.1 (XY ns XB n (decide (n=4)) XC (k,c)).2.2)),aA (4-(n:Int)),aA XC,dR XB,.ob (h8 (.lst (bF (XY ns XB n (decide (n=4)) XC (k,c)).1)) fp),e5,e6] N T):
 WS (eK eo P w K mg base J0 "_law_list" (ao rS) f XH A outer s H E).gF (bD rS) [.ob (aP a c8 (cg ns k c)),aA (4-(n:Int)),aA XC,dR XB,.no,.no,.no] N T:=by
 let nd:=D8.nd;let CP:=CP.mono (show 2<=2*n+7 by cbv);let CA:=CA.mono (show 6<=2*n+7 by cbv);let k0:=hp.k0;let k1:=hp.k1;let c0:=hp.c0;let c1:=hp.c1;let n4:=hp.n4;let hbd:=Lo n;let b3:=Gr n;rw[nA] at Zn;generalize htp:decide (n=4)=tp at Zn;let hrun:=ye (ns:=ns) (XB:=XB) (sub:=eG ns XB n) (n:=n) (b:=bT n) `a (F9 ns XB n) tp XC (k,c) c0;dsimp only at hrun Zn;let hmany:=yI ns tp k;generalize hx:(λi=>X8 (i8 ns XB `as tp XC) i ([],(k+1,c)))=x at hrun;let hxi:∀i,X8 (i8 ns XB `as tp XC) i ([],(k+1,c))=x i:=λi=>by rw[← hx]
 let hxs:∀i,x (i+1)=i8 ns XB `as tp XC (x i):=λi=>by rw[← hx];rfl
 let hx0:x 0=([],(k+1,c)):=by rw[← hx];rfl
 simp only[hxi] at hrun Zn;refine ai (sE 4 (y:=.lst []) (aZ.w6 `aq rfl) λf4=>?_);let m0:=RK (XG ns (k+1)) (show(4:Int)≠0 by decide);let m1:=RJ (XG ns (k+1)) (show(0:Int)<4 by decide);let htp2:decide (4-(n:Int)=0)=tp:=by rw[← htp];exact decide_eq_decide.mpr ⟨λh=>`a,λh=>`a⟩
 let hman:(XG ns (k+1)%4+2*(if decide (4-(n:Int)=0)=true then 1 else 0)).toNat=gg ns tp k:=by rw[htp2];rfl
 let hb2:0<=(if decide (4-(n:Int)=0)=true then(1:Int) else 0)/\(if decide (4-(n:Int)=0)=true then(1:Int) else 0)<=1:=by split<;>decide
 refine ai (bN (r:=ag) (λi Z=>∃e5 e6 fp,Z=[.ob (aP a c8 (cg ns (x i).2.1 (x i).2.2)),aA (4-(n:Int)),aA XC,dR XB,.ob (h8 (.lst (bF (x i).1)) fp),e5,e6]) (dy M.range (bY (cU (f9 0 (st:=cg ns (k+1) c) (z:=XG ns (k+1)) CP hr ax rfl ⟨ns,k,c,rfl,rfl,hp.s,k0,`a,rfl⟩) ev_int `c) (Dc ev_int (zS M.int (jk gi `g ev_int)) (.inl `c))) ⟨`a,`a⟩) (aY 5) ⟨_,_,f4,by rw[hx0];rfl⟩ (λi j Z hj hΓ=>?_) `W)
 ·let⟨e5,e6,fp,rfl⟩:=hΓ;let il:=(eQ hj).1;rw[hman] at il;let⟨rd,⟨rc,rc0⟩,⟨rk0,rk1⟩,rll⟩:=hrun i;let hmul:bT n*i<=bT n*4:=Nat.mul_le_mul_left _ `a;let hs:=hxs i;generalize x i=xi at rd rc rc0 rk0 rk1 rll hs;let⟨XF,kk,cc⟩:=xi;dsimp only at rd rc rc0 rk0 rk1 rll ⊢;change WS _ _ [.ob (aP a c8 (cg ns kk cc)),aA (4-(n:Int)),aA XC,dR XB,.ob (h8 (.lst (bF XF)) fp),aA j,e6] _ _;let rkk:kk+(bT n:Int)<=900000:=by push_cast at rk1;cbv
  refine aj (a9 (TW.tv (cZ (ay iJ (EV.qu (dH 0 ev_int rfl (y:=(Sum.inr cc:Rl ⊕ Int)) rfl)) ev_int) (λ_=>eL (TV.Yu (Fv (i:=4) rfl) (bU (aJ CA hr (ah (EV.lP `T) ax) ⟨XF,rfl,`a,rfl⟩)))))) (λh=>?_) `J)
  ·let h:0<cc/\dD XF=true:= ~~~h
   let ht:=F9 ns XB n XC (kk,cc) h.1;let e1:i8 ns XB `as tp XC (XF,kk,cc)=if tp=true/\XF.length=0/\qS (X9 ns XB `as XC (kk,cc)).1=true then(XF++[.X6 "back"],((X9 ns XB `as XC (kk,cc)).2.1,(X9 ns XB `as XC (kk,cc)).2.2-1)) else(XF++[(X9 ns XB `as XC (kk,cc)).1],(X9 ns XB `as XC (kk,cc)).2):=Xv h;refine ai (sE 6 (jo 0 (st:=cg ns (X9 ns XB `as XC (kk,cc)).2.1 (X9 ns XB `as XC (kk,cc)).2.2) (z:=g7 (X9 ns XB `as XC (kk,cc)).1) CT hr (ah `g (ah `r (ah `p ax))) rfl ⟨ns,XB,kk,cc,XC,rfl,rfl,⟨hp.s,`a,rkk,`a,`a,hp.l,n4⟩,h.1,rfl⟩ oX (Gj _)) λf6=>?_);generalize X9 ns XB `as XC (kk,cc)=r at ht e1;let⟨tt,kr,cr⟩:=r;dsimp only at e1 ⊢;change WS _ _ [.ob (aP a c8 (cg ns kr cr)),aA (4-(n:Int)),aA XC,dR XB,.ob (h8 (.lst (bF XF)) fp),aA j,.ob (h8 (g7 tt) f6)] _ _;refine bA (N1:=λZ=>∃t' c' f',Z=[.ob (aP a c8 (cg ns kr c')),aA (4-(n:Int)),aA XC,dR XB,.ob (h8 (.lst (bF XF)) fp),aA j,.ob (h8 (g7 t') f')]/\i8 ns XB `as tp XC (XF,kk,cc)=(XF++[t'],(kr,c'))) (a9 (TW.tv (cZ (ay gi `g ev_int) (λ_=>cZ (ay gi (EV.Yu (Fv (i:=4) rfl) NS (da M.len (EV.lP `T))) ev_int) (λ_=>eL (ay cq (EV.Yu (Fv (i:=6) rfl) OK (jO `aw)) aB))))) (λh=>?_) (λh=>aF ⟨tt,cr,f6,rfl,?_⟩)) ?_
   ·let h:tp=true/\XF.length=0/\qS tt=true:=by
     rw[htp2,kR] at h;rw[zA];simpa using h
    refine ai (eN 0 (j:=2) (EV.inr (gP (EV.qu (dH 0 ev_int rfl (y:=(Sum.inr cr:Rl ⊕ Int)) rfl)) ev_int)) ev_int rfl rfl rfl ?_);change WS _ _ [.ob (aP a c8 (cg ns kr (cr-1))),aA (4-(n:Int)),aA XC,dR XB,.ob (h8 (.lst (bF XF)) fp),aA j,.ob (h8 (g7 tt) f6)] _ _;refine aj (sE 6 (y:=g7 (.X6 "back")) (j5.cast (x:=.lst (fh (.X6 "back"))) (aZ.w6 (aN (r:=au) (ak (EV.pS aB) (ak (EV.pS aB) aK)) (by show 2<=UZ;decide)) rfl) (eI _).symm) λf'=>⟨.X6 "back",cr-1,f',rfl,?_⟩);rw[e1,Xv h]
   ·let h:¬(tp=true/\XF.length=0/\qS tt=true):=by
     rw[htp2,kR] at h;rw[zA];simpa using h
    rw[e1,Xu h]
   rintro _ ⟨t',c',f',rfl,e2⟩;refine aj (KU 4 (z7 6 rfl) rfl rfl (Uo (show _<=10 by rw[kR];cbv) `c) λfp'=>⟨aA j,.no,fp',?_⟩);rw[hs,e2,Iu,bF,bF];rfl
  ·let h:¬(0<cc/\dD XF=true):= ~~~h
   refine⟨aA j,e6,fp,?_⟩;rw[hs,show i8 ns XB `as tp XC (XF,kk,cc)=(XF,kk,cc) from Xu h]
 ·let⟨e5,e6,fp,rfl⟩:=hΓ;rw[bp,hman];exact Zn e5 e6 fp
theorem BZ (M:cb K mg)(CP:aE P w K mg base "_law_pull" 2 (gI c8 yQ K))(CA:aE P w K mg base "_law_passes" 6 (aQ (GA 5) K))(CT:aE P w K mg base "_law_thing" (2*n+7) (gI c8 (J7 n) K))(F:dI K "_law_list" "_law_list" rS f fd)(hm:mg "_law_list"∣.ref f)(hb:Binds K fd zY []):aE P w K mg base "_law_list" (2*n+8) (gI c8 (F6 n) K):=by
 let nd:=D8.nd;refine vP (k:=2*n+7) F D8 hm hb (λxs qs T ⟨_,_,_,_,_,_,e,_⟩=>by rw[e];rfl) (λXH A outer s H E a xs qs T hr hS=>?_);let⟨ns,XB,k,c,XC,rfl,rfl,hp,rfl⟩:=hS;exact ls_run M CP CA CT hr hp λe5 e6 fp=>aj (jB 0 (z7 4 rfl) rfl ⟨rfl,rfl⟩)
theorem G5 (M:cb K mg)(CP:aE P w K mg base "_law_pull" 2 (gI c8 yQ K))(CN:aE P w K mg base "_law_name" 1 (aQ GY K))(CA:aE P w K mg base "_law_passes" 6 (aQ (GA 5) K)){f2:Addr}{fd2:U8}(F:dI K "_law_list" "_law_list" rS f fd)(hm:mg "_law_list"∣.ref f)(hb:Binds K fd zY [])(F2:dI K "_law_thing" "_law_thing" Gz f2 fd2)(Zy:mg "_law_thing"∣.ref f2)(hb2:Binds K fd2 zY []):∀n,aE P w K mg base "_law_list" (2*n+8) (gI c8 (F6 n) K)
 | 0=>BZ M CP CA (GR M CP CN 0 (λm h=>Xt h `a) F2 Zy hb2) F hm hb
 | n+1=>BZ M CP CA (GR M CP CN (n+1) (λm h=>by cases h;exact G5 M CP CN CA F hm hb F2 Zy hb2 n) F2 Zy hb2) F hm hb
variable {c:Str}{m:Int}{XA:Rm}
noncomputable def ki (XA:Rm)(x c:Str):Str:=if x∈XA then iH x++c else x
abbrev mE:Str:="qwer"
noncomputable def vO (XA:Rm)(x:Str):Str:=(iC mE).foldl (ki XA) x
noncomputable def dW (ns:Rl)(s:Int):Nat->Rm
 | 0=>[]
 | i+1=>dW ns s i++[vO (dW ns s i) (XZ (XG ns (s+2+(i:Int))))]
def Yp (ns:Rl)(s:Int):Int:=1+XG ns (s+1)%4
def dC (m:Int):Int:=([14,12,8,6]:Rl).getD (m-1).toNat 0
def fV (i:Nat)(m:Int):Rl:=ups ((i:Int)+1) (m-((i:Int)+1)).toNat
noncomputable def XW (ns:Rl)(m k:Int):Nat->List (List Th)×Int
 | 0=>([],k)
 | i+1=>((XW ns m k i).1++[(XY ns (fV i m) 4 true 0 ((XW ns m k i).2,dC m)).1],(XY ns (fV i m) 4 true 0 ((XW ns m k i).2,dC m)).2.1)
def ZU (ns:Rl)(k:Int)(j:Nat):Nat:=(XG ns (k+1)%(j:Int)).toNat
def qZ (ns:Rl)(x:List (List Th)×Int)(j:Nat):List (List Th)×Int:=
 (x.1.set (ZU ns x.2 j) (cv (XG ns (x.2+2)%((x.1.getD (ZU ns x.2 j) []).length:Int)).toNat (.call (j:Int)) (x.1.getD (ZU ns x.2 j) [])),x.2+2)
noncomputable def Yb (ns:Rl)(x:List (List Th)×Int):Nat->List (List Th)×Int
 | 0=>x
 | i+1=>qZ ns (Yb ns x i) (i+1)
def Ys (ns:Rl)(s:Int):Rm:=dW ns s (Yp ns s).toNat
def Yw (ns:Rl)(s:Int):List (List Th):=(Yb ns (XW ns (Yp ns s) (s+1+Yp ns s) (Yp ns s).toNat) (Yp ns s-1).toNat).1
theorem zG (ns:Rl)(s:Int):1<=Yp ns s/\Yp ns s<=4:=by
 unfold Yp;have:=RK (XG ns (s+1)) (show(4:Int)≠0 by decide);have:=RJ (XG ns (s+1)) (show(0:Int)<4 by decide);cbv
theorem D2 (h1:1<=m)(h4:m<=4):6<=dC m/\dC m<=14:=by
 have:∀j:Fin 4,6<=([14,12,8,6]:Rl).getD j.val 0/\([14,12,8,6]:Rl).getD j.val 0<=14:=`c
 exact this ⟨(m-1).toNat,`a⟩
theorem vZ (x:Str):(iH x).length<=7:=by
 unfold iH;show(List.take 7 x.cps.toList).toArray.size<=7;rw[Si,Sm];cbv
theorem Fo {c:Nat}(h:c∈(iH x).cps.toList):c∈x.cps.toList:=by
 unfold iH at h;have:c∈List.take 7 x.cps.toList:= ~~~h
 exact Uc this
theorem ur (h:c∈iC mE):cW c/\c.length=1:=by
 have:∀c∈iC mE,((1<=c.length/\c.length<=8)/\∀d∈c.cps.toList,97<=d/\d<=122)/\c.length=1:=`b
 let⟨⟨⟨a,b⟩,d⟩,e⟩:=this c h;exact⟨⟨a,b,d⟩,e⟩
theorem Mg (hx:cW x)(hc:cW c/\c.length=1):cW (ki XA x c):=by
 unfold ki;split
 ·refine⟨?_,?_,λd hd=>?_⟩
  ·rw[len_app,hc.2];cbv
  ·rw[len_app,hc.2];have:=vZ x;cbv
  ·obtain z | z:=uc hd
   ·exact hx.az d (Fo z)
   ·exact hc.1.az d z
 ·exact hx
theorem o8 {XA:Rm}:∀{cs:Rm}{x:Str},cW x->(∀c∈cs,cW c/\c.length=1)->cW (cs.foldl (ki XA) x)
 | [],_,hx,_=>hx
 | c::cs,x,hx,h=>o8 (cs:=cs) (x:=ki XA x c) (Mg hx (h c RZ)) λd hd=>h d (RX _ hd)
theorem Ju (hx:cW x):cW (vO XA x):=o8 hx λc hc=>ur hc
theorem mO (ns:Rl)(s:Int):∀i,(dW ns s i).length=i
 | 0=>rfl
 | i+1=>by rw[dW,RY,mO ns s i];rfl
theorem Dp (ns:Rl)(s:Int):∀i,∀x∈dW ns s i,cW x
 | 0,x,h=>by cases h
 | i+1,x,h=>by
   rw[dW] at h;obtain z | z:=Se.mp h
   ·exact Dp ns s i x z
   ·rw[RU.mp z];exact Ju (jF _)
theorem mZ (ns:Rl)(m k:Int):∀i,(XW ns m k i).1.length=i
 | 0=>rfl
 | i+1=>by rw[XW,RY,mZ ns m k i];rfl
theorem QN:nD 4=177776:=rfl
theorem GJ (ns:Rl)(m k:Int)(hb:0<=dC m):∀i:Nat,k<=(XW ns m k i).2/\(XW ns m k i).2<=k+177776*(i:Int)
 | 0=>⟨RM _,by show k<=_;cbv⟩
 | i+1=>by
   let⟨a,b⟩:=GJ ns m k hb i;let⟨c,d⟩:=(mT ns (fV i m) 4 true 0 ((XW ns m k i).2,dC m) hb).k;rw[QN] at d;dsimp only at c d;rw[XW];dsimp only;exact⟨`a,by push_cast;cbv⟩
theorem L9 (ns XB:Rl)(c k:Int)(hc:0<c):0<(XY ns XB 4 true 0 (k,c)).1.length:=by
 rw[nA];let hm:2<=gg ns true k:=by
  unfold gg;have:=RK (XG ns (k+1)) (show(4:Int)≠0 by decide);simp;cbv
 let key:∀(f:List Th×Pn->List Th×Pn)(x:List Th×Pn),(∀y,y.1.length<=(f y).1.length)->0<(f x).1.length->∀m,1<=m->0<(X8 f m x).1.length:=by
  intro f x h1 h2 m
  induction m with
  | zero=>intro h;cbv
  | succ m ih=>
    intro _;rw[X8];cases m with
    | zero=>exact h2
    | succ m=>exact Uq (ih `a) (h1 _)
 refine key _ _ (λy=>?_) ?_ _ (show 1<=gg ns true k by cbv)
 ·unfold i8;split
  ·split<;>simp
  ·exact Uk _
 ·unfold i8;rw[Xv ⟨hc,by simp[dD]⟩];split<;>simp
theorem DU (ns:Rl)(m k:Int)(hb:0<dC m):∀i,∀L∈(XW ns m k i).1,0<L.length/\L.length<=5
 | 0,L,h=>by cases h
 | i+1,L,h=>by
   rw[XW] at h;obtain z | z:=Se.mp h
   ·exact DU ns m k hb i L z
   ·rw[RU.mp z];exact⟨L9 ns _ _ _ hb,(mT ns (fV i m) 4 true 0 ((XW ns m k i).2,dC m) (Int.le_of_lt hb)).l⟩
theorem mn (k:Nat)(y:α)(xs:`u):(cv k y xs).length=xs.length+1:=by
 unfold cv;rw[RY,Sb,Sm,Ts];cbv
theorem mem_set {l:`u}{x y:α}(h:y∈l.set i x):y∈l∨y=x:=List.mem_or_eq_of_mem_set h
theorem yV (ns:Rl)(x:List (List Th)×Int)(hx:∀L∈x.1,0<L.length/\L.length<=5):∀i,(Yb ns x i).1.length=x.1.length/\(Yb ns x i).2=x.2+2*(i:Int)/\∀L∈(Yb ns x i).1,0<L.length/\L.length<=5+i
 | 0=>⟨rfl,by show x.2=_;cbv,λL h=>⟨(hx L h).1,(hx L h).2⟩⟩
 | i+1=>by
   let⟨a,b,c⟩:=yV ns x hx i;rw[Yb];refine⟨by unfold qZ;dsimp only;rw[SF];exact a,by unfold qZ;dsimp only;rw[b];push_cast;cbv,λL h=>?_⟩;unfold qZ at h;dsimp only at h;obtain z | z:=mem_set h
   ·have:=c L z;cbv
   ·rw[z,mn];generalize hn:ZU ns (Yb ns x i).2 (i+1)=n;refine⟨`a,?_⟩;rw[RR];cases e:(Yb ns x i).1[n]? with
    | none=>show 0+1<=_;cbv
    | some L'=>
      have:=(c L' (R7 e)).2;show L'.length+1<=_;cbv
abbrev PQ:Stmt:=top vf
abbrev nDR:Rm:=["_law_script","_law_start","_law_pen","_law_many","_law_names","_law_k","_law_name_here","_law_letter","_law_lists","_law_items"]
noncomputable def Pf:dc:=λK ps T=>∃(ns:Rl)(s:Int),ps=[⟨cO,ns⟩,⟨ag,s⟩]/\zt ns/\0<=s/\s<=1000/\T=E9 K (ae aq) λy L=>y=Ys ns s/\L=(Yw ns s).map bF
theorem OJ (M:cb K mg)(CP:aE P w K mg base "_law_pull" 2 (gI c8 yQ K))(CN:aE P w K mg base "_law_name" 1 (aQ GY K))(CL:aE P w K mg base "_law_list" 16 (gI c8 (F6 4) K))(Df:Def K mg "_law_drawn" PQ ["_law_script","_law_start"]):aE P w K mg base "_law_drawn" 17 (aQ Pf K):=by
 let CP:=CP.mono (show 2<=16 by decide);let CN:=CN.mono (show 1<=16 by decide);refine bO (N:=nDR) (k:=16) Df `z;let⟨ns,s,rfl,hs,s0,s1,rfl⟩:=hS;let⟨m1,m4⟩:=zG ns s;refine ai (cD 2 (r:=c8) (ys:=cg ns s 0) (aN (ak (EV.inl `e) (ak (EV.inr `g) (ak (EV.inr ev_int) aK))) (by show 3<=UZ;decide)) ?_);refine WS.box 2 rfl λa0=>?_;refine ai (ba 3 (y:=Yp ns s) (bY ev_int (cU (f9 2 (st:=cg ns (s+1) 0) (z:=XG ns (s+1)) CP hr ax rfl ⟨ns,s,0,rfl,rfl,hs,s0,`a,rfl⟩) ev_int `c)) ?_);generalize hM:Yp ns s=m at m1 m4;refine ai (cD 4 (r:=aq) (ys:=[]) `aq ?_);refine bA (N1:=λZ=>∃e5 e6 e7,Z=[.im cO ns,aA s,.ob (aP a0 c8 (cg ns (s+1+m) 0)),aA m,.mu aq (Ys ns s),e5,e6,e7,.no,.no]) (bN (λi Z=>∃e5 e6 e7,Z=[.im cO ns,aA s,.ob (aP a0 c8 (cg ns (s+1+(i:Int)) 0)),aA m,.mu aq (dW ns s i),e5,e6,e7,.no,.no]) (dy M.range `p ⟨`a,`a⟩) (aY 5) ⟨_,_,_,by rw[show s+1+((0:Nat):Int)=s+1 from Int.add_zero _];rfl⟩ (λi j Z hj hΓ=>?_) `W) ?_
 ·let⟨e5,e6,e7,rfl⟩:=hΓ;let⟨jl,ej⟩:=eQ hj;obtain rfl:j=(i:Int):=`a
  let b:=uo ns (s+1+(i:Int)+1);refine ai (ba 6 (y:=XZ (XG ns (s+1+(i:Int)+1))) (aJ CN hr (ah (f9 2 (st:=cg ns (s+1+(i:Int)+1) 0) (z:=XG ns (s+1+(i:Int)+1)) CP hr ax rfl ⟨ns,_,0,rfl,rfl,hs,`a,`a,rfl⟩) ax) ⟨_,rfl,b.1,b.2,rfl⟩) ?_);let hx:=jF (XG ns (s+1+(i:Int)+1));let he:s+1+(i:Int)+1=s+2+(i:Int):=`a
  let hnext:dW ns s (i+1)=dW ns s i++[vO (dW ns s i) (XZ (XG ns (s+1+(i:Int)+1)))]:=by rw[dW,he]
  generalize XZ (XG ns (s+1+(i:Int)+1))=x at hx hnext;let hlen:=mO ns s i;let hfold:∀n,cW (((iC mE).take n).foldl (ki (dW ns s i)) x):=λn=>o8 hx λc hc=>ur (Uc hc);refine bA (N1:=λZ=>∃e7,Z=[.im cO ns,aA s,.ob (aP a0 c8 (cg ns (s+1+(i:Int)+1) 0)),aA m,.mu aq (dW ns s i),aA (i:Int),.im aq (vO (dW ns s i) x),e7,.no,.no]) (bN (λn Z=>∃e7,Z=[.im cO ns,aA s,.ob (aP a0 c8 (cg ns (s+1+(i:Int)+1) 0)),aA m,.mu aq (dW ns s i),aA (i:Int),.im aq (((iC mE).take n).foldl (ki (dW ns s i)) x),e7,.no,.no]) (C6 (x:=mE) aB `b `b) (aY 7) ⟨_,rfl⟩ (λn c Z hc hΓ=>?_) `W) ?_
  ·let⟨e7,rfl⟩:=hΓ;let hf:=hfold n;let Yk:((iC mE).take (n+1)).foldl (ki (dW ns s i)) x=ki (dW ns s i) (((iC mE).take n).foldl (ki (dW ns s i)) x) c:=by
    rw[SG,hc,S8];rfl
   rw[Yk];generalize ((iC mE).take n).foldl (ki (dW ns s i)) x=z at hf;let cl:=(ur (R7 hc)).2;change WS _ _ [.im cO ns,aA s,.ob (aP a0 c8 (cg ns (s+1+(i:Int)+1) 0)),aA m,.mu aq (dW ns s i),aA (i:Int),.im aq z,.im aq c,.no,.no] _ _;refine aj (a9 (TV.Yu (Lj (i:=4) rfl (aM (by rw[hlen];cbv))) (ay x8 `aw `T)) (λh=>?_) (λh=>aF ⟨.im aq c,?_⟩))
   ·let h:z∈dW ns s i:=Xw h;refine aj (ba 6 (y:=ki (dW ns s i) z c) (EV.cast (t7 (Mx `aw hf.l8) (aa 7 rfl) (Um (show _<=8 by have:=vZ z;cbv) `c)) (by unfold ki;rw[Xv h])) ⟨.im aq c,rfl⟩)
   ·let h:¬z∈dW ns s i:=Xx h;unfold ki;rw[Xu h]
  ·let⟨e7,rfl⟩:=hΓ;refine⟨e7,?_⟩;rw[SK];rfl
  rintro _ ⟨e7,rfl⟩;refine aj (ee 4 `aw rfl rfl (Uo (show _<=10 by rw[hlen];cbv) `c) ⟨aA (i:Int),.im aq (vO (dW ns s i) x),e7,?_⟩);rw[hnext,show s+1+((i+1:Nat):Int)=s+1+(i:Int)+1 by push_cast;cbv];rfl
 ·let⟨e5,e6,e7,rfl⟩:=hΓ;rw[bp];refine⟨e5,e6,e7,?_⟩;unfold Ys;rw[hM,show((m.toNat:Nat):Int)=m by cbv]
 rintro _ ⟨e5,e6,e7,rfl⟩;let hdN:(Ys ns s).length<=4:=by unfold Ys;rw[mO,hM];cbv
 generalize hdn:Ys ns s=dn at hdN;let⟨b6,b14⟩:=D2 m1 m4;refine ai (cD 8 (r:=au) (ys:=[]) `aq ?_);refine WS.Ou 8 rfl λa=>?_;let kb:=GJ ns m (s+1+m) `a;refine bA (N1:=λZ=>∃e5 c ps,Z=[.im cO ns,aA s,.ob (aP a0 c8 (cg ns (XW ns m (s+1+m) m.toNat).2 c)),aA m,.mu aq dn,e5,e6,e7,.ob (bB a ps),.no]/\ps.map (·.1)=(XW ns m (s+1+m) m.toNat).1.map bF) (bN (λi Z=>∃e5 c ps,Z=[.im cO ns,aA s,.ob (aP a0 c8 (cg ns (XW ns m (s+1+m) i).2 c)),aA m,.mu aq dn,e5,e6,e7,.ob (bB a ps),.no]/\ps.map (·.1)=(XW ns m (s+1+m) i).1.map bF) (dy M.range `p ⟨`a,`a⟩) (aY 5) ⟨_,_,[],rfl,rfl⟩ (λi j Z hj hΓ=>?_) `W) ?_
 ·let⟨e5,c,ps,rfl,YA⟩:=hΓ;let⟨jl,ej⟩:=eQ hj;obtain rfl:j=(i:Int):=`a
  let⟨k0,k1⟩:=kb i;let hl:=mZ ns m (s+1+m) i;let YT:XW ns m (s+1+m) (i+1)=((XW ns m (s+1+m) i).1++[(XY ns (fV i m) 4 true 0 ((XW ns m (s+1+m) i).2,dC m)).1],(XY ns (fV i m) 4 true 0 ((XW ns m (s+1+m) i).2,dC m)).2.1):=rfl;generalize XW ns m (s+1+m) i=x at k0 k1 hl YT YA;rw[YT];let⟨Ls,k⟩:=x;dsimp only at k0 k1 hl ⊢;let hbud:bP ([14,12,8,6]:Rl) (m-1)∣dC m:=a7 0 `a (by show m-1<((4:Nat):Int);cbv);refine ai (eN 2 (j:=2) (EV.inr (aL (aZ.im (aN (r:=ag) (ak ev_int (ak ev_int (ak ev_int (ak ev_int aK)))) (by show 4<=UZ;decide))) (gP `p ev_int) hbud)) ev_int rfl rfl rfl ?_);let hcl:(fV i m).length<=100:=by unfold fV;rw[bp];cbv
  let X1:ps.length=i:=by
   have:=congrArg List.length YA;rw[RS,RS,hl] at this;exact this
  refine aj (Hu 8 (ys:=bF (XY ns (fV i m) 4 true 0 (k,dC m)).1) (jo 2 (st:=cg ns (XY ns (fV i m) 4 true 0 (k,dC m)).2.1 (XY ns (fV i m) 4 true 0 (k,dC m)).2.2) CL hr (ah ev_int (ah ev_int (ah (aZ.im (tW M.list M.range (ah (bY `aa ev_int) (ah `p ax)) ⟨`a,`a⟩ ⟨`a,`a⟩)) ax))) rfl ⟨ns,fV i m,k,dC m,0,rfl,rfl,⟨hs,`a,show k+((177776:Nat):Int)<=900000 by cbv,`a,`a,hcl,`c⟩,rfl⟩ oX (vz _)) rfl rfl (Uo (show _<=10 by cbv) `c) λb g=>⟨aA (i:Int),(XY ns (fV i m) 4 true 0 (k,dC m)).2.2,ps++[(bF (XY ns (fV i m) 4 true 0 (k,dC m)).1,b,g)],rfl,?_⟩);rw[Sf,Sf,YA];rfl
 ·let⟨e5,c,ps,rfl,YA⟩:=hΓ;rw[bp] at YA ⊢;exact⟨e5,c,ps,rfl,YA⟩
 rintro _ ⟨e5,c,ps,rfl,YA⟩;let XS:=DU ns m (s+1+m) `a m.toNat;let hxl:=mZ ns m (s+1+m) m.toNat;let⟨k0,k1⟩:=kb m.toNat;let hdl:Yw ns s=(Yb ns (XW ns m (s+1+m) m.toNat) (m-1).toNat).1:=by unfold Yw;rw[hM]
 generalize XW ns m (s+1+m) m.toNat=x at XS hxl k0 k1 hdl YA;let hinv:=yV ns x XS;refine bA (N1:=λZ=>∃e5 e9 k ps,Z=[.im cO ns,aA s,.ob (aP a0 c8 (cg ns k c)),aA m,.mu aq dn,e5,e6,e7,.ob (bB a ps),e9]/\ps.map (·.1)=(Yw ns s).map bF) (bN (λi Z=>∃e5 e9 ps,Z=[.im cO ns,aA s,.ob (aP a0 c8 (cg ns (Yb ns x i).2 c)),aA m,.mu aq dn,e5,e6,e7,.ob (bB a ps),e9]/\ps.map (·.1)=(Yb ns x i).1.map bF) (Cj M.range ev_int `p ⟨`a,`a,`a,`a⟩) (aY 5) ⟨_,_,ps,rfl,YA⟩ (λi j Z hj hΓ=>?_) `W) ?_
 ·let⟨e5,e9,ps,rfl,YA⟩:=hΓ;let⟨jl,ej⟩:=eQ hj;obtain rfl:j=((i+1:Nat):Int):=by push_cast;cbv
  let⟨i1,i2,i3⟩:=hinv i;let YT:Yb ns x (i+1)=qZ ns (Yb ns x i) (i+1):=rfl;rw[YT];generalize Yb ns x i=y at i1 i2 i3 YA;let⟨Ls,k⟩:=y;dsimp only at i1 i2 i3 YA;let X1:ps.length=Ls.length:=by
   have:=congrArg List.length YA;rwa [RS,RS] at this
  unfold qZ;dsimp only;let q0:=RK (XG ns (k+1)) (show((i+1:Nat):Int)≠0 by cbv);let q1:=RJ (XG ns (k+1)) (show(0:Int)<((i+1:Nat):Int) by cbv);let Ym:ZU ns k (i+1)<Ls.length:=by unfold ZU;cbv
  let hix:fO ps.length (XG ns (k+1)%((i+1:Nat):Int))∣(ZU ns k (i+1)):=xU q0 `a;generalize hatn:ZU ns k (i+1)=n at Ym hix;let hL:Ls[n]?∣(Ls.getD n []):=by rw[RR,RQ Ym];rfl
  let hq:ps[n]?∣(ps[n]'`a):=RQ `a;generalize (ps[n]'`a)=q at hq;let hq1:q.1=bF (Ls.getD n []):=by
   have:=congrArg (λl=>l[n]?) YA;simp only[R6,hq,hL] at this;exact Option.some.inj this
  refine ai (CY 8 9 (cU (f9 2 (st:=cg ns (k+1) c) (z:=XG ns (k+1)) CP hr ax rfl ⟨ns,k,c,rfl,rfl,hs,`a,`a,rfl⟩) `aa `a) rfl rfl hix hq ?_);let⟨l0,l5⟩:=i3 _ (R7 hL);generalize Ls.getD n []=L at hL l0 l5 hq1;let Z2:(q.1.length:Int)=(L.length:Int):=by rw[hq1,kR]
  let r0:=RK (XG ns (k+2)) (show(L.length:Int)≠0 by cbv);let r1:=RJ (XG ns (k+2)) (show(0:Int)<(L.length:Int) by cbv);let e3:k+1+1=k+2:=`a
  refine aj (Hn 8 9 (k:=XG ns (k+2)%(L.length:Int)) (y:=g7 (.call ((i+1:Nat):Int))) (cU (f9 2 (st:=cg ns (k+2) c) (z:=XG ns (k+2)) CP hr ax rfl ⟨ns,k+1,c,rfl,rfl,hs,`a,`a,by rw[e3]⟩) (EV.cast (Fs 8 9 M.len rfl rfl hq) Z2) `a) (j5.cast (x:=.lst (fh (.call ((i+1:Nat):Int)))) (aZ.w6 (aN (r:=au) (ak (EV.pS aB) (ak (EV.pI `aa) aK)) (by show 2<=UZ;decide)) rfl) (eI _).symm) rfl rfl hq rfl r0 `a (Uo (show _<=20 by rw[hq1,kR];cbv) `c) λg=>⟨aA ((i+1:Nat):Int),.im dE q.2.1,_,rfl,?_⟩);rw[List.map_set,YA];show(Ls.map bF).set n (cv _ _ q.1)=_;rw[hq1];rw[List.map_set,fu (cv _ _ _),B9,← fu]
 ·let⟨e5,e9,ps,rfl,YA⟩:=hΓ;rw[bp] at YA ⊢;exact⟨e5,e9,_,ps,rfl,by rw[hdl];exact YA⟩
 rintro _ ⟨e5,e9,k,ps,rfl,YA⟩;let⟨i1,i2,i3⟩:=hinv (m-1).toNat;rw[← hdl] at i1 i3;refine WS.freeze 4 rfl (aM `a) ?_;exact aj (IB 8 `T rfl ⟨rfl,YA⟩)
mutual
noncomputable def bX (lo m:Int):Bool->Th->Prop
 | _,.X6 x=>cW x
 | _,.call j=>lo<j/\j<m
 | lp,.ifs x a b=>cW x/\bJ lo m lp a/\bJ lo m lp b
 | _,.XR x a=>cW x/\bJ lo m true a
 | lp,.leave=>lp=true
 | _,.back=>True
noncomputable def bJ (lo m:Int):Bool->List Th->Prop
 | _,[]=>True
 | lp,t::ts=>bX lo m lp t/\(fE t=true∨ts=[])/\bJ lo m lp ts
end
variable {lo:Int}{lp:Bool}
theorem lS {t:Th}:∀{a:`Z},bJ lo m lp a->dD a=true->bX lo m lp t->bJ lo m lp (a++[t])
 | [],_,_,ht=>by rw[SX,bJ];exact⟨ht,.inr rfl,by rw[bJ];trivial⟩
 | x::a,h,hp,ht=>by
   rw[bJ] at h;rw[dD,Rx] at hp;rw[Te,bJ];exact⟨h.1,.inl hp.1,lS h.2.2 hp.2 ht⟩
theorem yP {t:Th}(ht:bX lo m lp t)(hp:fE t=true):∀{k:Nat}{L:`Z},bJ lo m lp L->k<L.length->bJ lo m lp (cv k t L)
 | 0,L,h,_=>by show bJ lo m lp (t::L);rw[bJ];exact⟨ht,.inl hp,h⟩
 | k+1,[],_,hk=>by cases hk
 | k+1,x::L,h,hk=>by
   rw[bJ] at h;let hk:k<L.length:= ~~~hk
   let hx:fE x=true:=h.2.1.resolve_right λe=>by rw[e] at hk;cases hk
   show bJ lo m lp (x::cv k t L);rw[bJ];exact⟨h.1,.inl hx,yP ht hp h.2.2 hk⟩
theorem zT {ns XB:Rl}{sub:Option (Int->Pn->List Th×Pn)}(hc:∀j∈XB,lo<j/\j<m)(Ya:∀L,sub∣L->∀lp s,0<=lp->bJ lo m (decide (0<lp)) (L lp s).1)(XC:Int)(s:Pn)(hl:0<=XC):bX lo m (decide (0<XC)) (X9 ns XB sub XC s).1:=by
 unfold X9;split
 ·rename_i h;simp only[bX];exact Xy h.2
 split
 ·simp only[bX]
 split
 ·rename_i h;simp only[bX];let hl:(0:Int)<(XB.length:Int):=by have:=h.2;cbv
  let q0:=RK (XG ns (s.1+3)) (show(XB.length:Int)≠0 by cbv);let q1:=RJ (XG ns (s.1+3)) hl;let hi:(XG ns (s.1+3)%(XB.length:Int)).toNat<XB.length:=`a
  rw[RR,RQ hi];exact hc _ (SD hi)
 cases sub with
 | none=>simp only[bX];exact jF _
 | some L=>
   dsimp only;split
   ·simp only[bX];exact⟨jF _,Ya L rfl _ _ hl,Ya L rfl _ _ hl⟩
   split
   ·simp only[bX];have:=Ya L rfl (XC+1) (s.1+2,s.2-2) `a;rw[Xy (show 0<XC+1 by cbv)] at this;exact⟨jF _,this⟩
   ·simp only[bX];exact jF _
theorem z5:cW "back":=⟨`b,`b,`b⟩
theorem tP {α:Type}{f:α->α}{P:α->Prop}(h:∀x,P x->P (f x)):∀n x,P x->P (X8 f n x)
 | 0,_,hx=>hx
 | n+1,x,hx=>h _ (tP h n x hx)
theorem Jc {ns XB:Rl}(hc:∀j∈XB,lo<j/\j<m):∀(n:Nat)(tp:Bool)(lp:Int)(s:Pn),0<=lp->bJ lo m (decide (0<lp)) (XY ns XB n tp lp s).1:=by
 intro n
 induction n with
 | zero=>
   intro tp lp s hl;rw[nA];refine tP (P:=λ(x:List Th×Pn)=>bJ lo m (decide (0<lp)) x.1) (λx hx=>?_) _ _ (by simp only[bJ]);unfold i8;split
   ·rename_i h;split
    ·exact lS hx h.2 (by simp only[bX];exact z5)
    ·exact lS hx h.2 (zT hc (λL e=>by cases e) lp x.2 hl)
   ·exact hx
 | succ n ih=>
   intro tp lp s hl;rw[nA];refine tP (P:=λ(x:List Th×Pn)=>bJ lo m (decide (0<lp)) x.1) (λx hx=>?_) _ _ (by simp only[bJ]);unfold i8;split
   ·rename_i h;split
    ·exact lS hx h.2 (by simp only[bX];exact z5)
    ·exact lS hx h.2 (zT hc (λL e lp' s' Y9=>by cases e;exact ih false lp' s' Y9) lp x.2 hl)
   ·exact hx
section
variable {L:`Z}
def iI (L:`Z):Prop:=∃t ts,L=t::ts/\qS t=false
theorem Jq (h:iI L)(t:Th):iI (L++[t]):=by
 let⟨x,ts,rfl,h⟩:=h;exact⟨x,ts++[t],rfl,h⟩
theorem Ka (ns XB:Rl)(c k:Int)(hc:0<c):iI (XY ns XB 4 true 0 (k,c)).1:=by
 rw[nA];let hm:2<=gg ns true k:=by
  unfold gg;have:=RK (XG ns (k+1)) (show(4:Int)≠0 by decide);simp;cbv
 let key:∀(f:List Th×Pn->List Th×Pn)(x:List Th×Pn),(∀y,iI y.1->iI (f y).1)->iI (f x).1->∀m,1<=m->iI (X8 f m x).1:=by
  intro f x h1 h2 m
  induction m with
  | zero=>intro h;cbv
  | succ m ih=>
    intro _;rw[X8];cases m with
    | zero=>exact h2
    | succ m=>exact h1 _ (ih `a)
 refine key _ _ (λy hy=>?_) ?_ _ (show 1<=gg ns true k by cbv)
 ·unfold i8;split
  ·split<;>exact Jq hy _
  ·exact hy
 ·unfold i8;rw[Xv ⟨hc,by simp[dD]⟩];split
  ·exact⟨_,[],rfl,rfl⟩
  ·rename_i h;refine⟨_,[],rfl,?_⟩;cases e:qS (X9 ns XB (eG ns XB 4) 0 ([],k+1,c).2).1 with
   | false=>rfl
   | true=>exact Xt ⟨rfl,rfl,e⟩ h
def lV (x:Str):Option Nat:=x.cps.toList.getLast?
theorem nM (x:Str)(c:Nat):lV (x++⟨#[c]⟩)∣c:=by
 unfold lV;let e:(x++(⟨#[c]⟩:Str)).cps.toList=x.cps.toList++[c]:=by show(x.cps++ #[c]).toList=_;simp
 rw[e];simp
theorem EU:iC mE=[⟨#[113]⟩,⟨#[119]⟩,⟨#[101]⟩,⟨#[114]⟩]:=`b
theorem HR (hl:XA.length<=3)(x:Str):vO XA x∉XA:=by
 unfold vO;rw[EU];simp only[List.foldl];let Yi:∀{y:Str},y∉XA->∀c,ki XA y c=y:=λh c=>Xu h;let go:∀{y:Str},y∈XA->∀c,ki XA y c=iH y++c:=λh c=>Xv h;by_cases h0:x∈XA;rotate_left
 ·rw[Yi h0,Yi h0,Yi h0,Yi h0];exact h0
 rw[go h0];generalize hx1:iH x++(⟨#[113]⟩:Str)=x1;let l1:lV x1∣113:=by rw[← hx1];exact nM _ _
 by_cases h1:x1∈XA;rotate_left
 ·rw[Yi h1,Yi h1,Yi h1];exact h1
 rw[go h1];generalize hx2:iH x1++(⟨#[119]⟩:Str)=x2;let l2:lV x2∣119:=by rw[← hx2];exact nM _ _
 by_cases h2:x2∈XA;rotate_left
 ·rw[Yi h2,Yi h2];exact h2
 rw[go h2];generalize hx3:iH x2++(⟨#[101]⟩:Str)=x3;let l3:lV x3∣101:=by rw[← hx3];exact nM _ _
 by_cases h3:x3∈XA;rotate_left
 ·rw[Yi h3];exact h3
 rw[go h3];generalize hx4:iH x3++(⟨#[114]⟩:Str)=x4;let l4:lV x4∣114:=by rw[← hx4];exact nM _ _
 intro h4;let⟨n1,b1,e1⟩:=Tz h1;let⟨n2,b2,e2⟩:=Tz h2;let⟨n3,b3,e3⟩:=Tz h3;let⟨n4,b4,e4⟩:=Tz h4;let ne:∀{i j:Nat}{hi:i<XA.length}{hj:j<XA.length}{y z:Str}{c d:Nat},XA[i]=y->XA[j]=z->lV y∣c->lV z∣d->c≠d->i≠j:=by
  intro i j hi hj y z c d e e' l l' Zz z;subst z;rw[← e] at l;rw[← e',l] at l';exact Zz (Option.some.inj l')
 have:=ne e1 e2 l1 l2 `c;have:=ne e1 e3 l1 l3 `c;have:=ne e1 e4 l1 l4 `c;have:=ne e2 e3 l2 l3 `c;have:=ne e2 e4 l2 l4 `c;have:=ne e3 e4 l3 l4 `c;cbv
theorem Bx (ns:Rl)(s:Int):∀i,i<=4->(dW ns s i).Nodup
 | 0,_=>Tx
 | i+1,h=>by
   rw[dW];exact iN (Bx ns s i `a) (HR (by rw[mO];cbv) _)
theorem J9 (i:Nat)(m:Int):∀j∈fV i m,(i:Int)<j/\j<m:=by
 intro j hj;unfold fV at hj;let⟨n,hn⟩:=Sh.mp hj;let⟨a,b⟩:=eQ hn;cbv
structure LsOk (m:Int)(b:Nat)(Ls:`H):Prop where
 ok:∀(p:Nat)(L:`Z),Ls[p]?∣L->bJ (p:Int) m false L
 dp:∀L∈Ls,dG L<=4
 hd:∀L∈Ls,iI L
 rw:∀L∈Ls,bW L<=b
theorem Cz (ns:Rl)(m k:Int)(hb:0<dC m):∀i,LsOk m (dC m).toNat (XW ns m k i).1/\((XW ns m k i).1.map bW).sum<=i*(dC m).toNat
 | 0=>⟨⟨(λp L h=>by simp[XW] at h),(λL h=>by simp[XW] at h),(λL h=>by simp[XW] at h),(λL h=>by simp[XW] at h)⟩,Ul _⟩
 | i+1=>by
   let⟨h,hs⟩:=Cz ns m k hb i;let hl:=mZ ns m k i;let g:=mT ns (fV i m) 4 true 0 ((XW ns m k i).2,dC m) (Int.le_of_lt hb);let go:=Jc (lo:=(i:Int)) (m:=m) (ns:=ns) (J9 i m) 4 true 0 ((XW ns m k i).2,dC m) (RM 0);let gh:=Ka ns (fV i m) (dC m) (XW ns m k i).2 hb;let gr:bW (XY ns (fV i m) 4 true 0 ((XW ns m k i).2,dC m)).1<=(dC m).toNat:=by
    have:=g.c;dsimp only at this;cbv
   rw[XW];dsimp only;generalize XY ns (fV i m) 4 true 0 ((XW ns m k i).2,dC m)=r at g go gh gr;generalize XW ns m k i=x at h hs hl;let mem:∀{L},L∈x.1++[r.1]->L∈x.1∨L=r.1:=λh=>(Se.mp h).imp id RU.mp;refine⟨⟨λp L hp=>?_,λL hL=>?_,λL hL=>?_,λL hL=>?_⟩,?_⟩
   ·obtain z | z:=Ut p x.1.length
    ·rw[So z] at hp;exact h.ok p L hp
    ·rw[Su z] at hp;let hz:p-x.1.length=0:=by
      have:=(RP.mp hp).1;simp at this;cbv
     rw[hz] at hp;let e:r.1=L:= ~~~hp
     let ep:p=i:=`a
     rw[← e,ep];exact go
   ·obtain z | rfl:=mem hL
    ·exact h.dp L z
    ·exact g.dp
   ·obtain z | rfl:=mem hL
    ·exact h.hd L z
    ·exact gh
   ·obtain z | rfl:=mem hL
    ·exact h.rw L z
    ·exact gr
   ·rw[Sf,Ui,Nat.add_mul];simp;cbv
theorem md (k:Nat)(y:α)(xs:`u):cv k y xs=xs.take k++y::xs.drop k:=rfl
theorem B1 (k:Nat)(j:Int)(L:`Z):bW (cv k (.call j) L)=bW L+1:=by
 rw[md,kT,bW,cn];have:=kT (L.take k) (L.drop k);rw[To] at this;cbv
theorem Kv (k:Nat)(j:Int)(L:`Z):dG (cv k (.call j) L)=dG L:=by
 rw[md,ng,dG,show gp (.call j)=0 by simp[gp]];have:=ng (L.take k) (L.drop k);rw[To] at this;cbv
theorem Jm {k:Nat}{y x:Th}(h:x∈L):x∈cv k y L:=by
 rw[md];rw[← To k L] at h;obtain z | z:=Se.mp h
 ·exact Sg _ z
 ·exact Sa _ (RX _ z)
theorem Ek {k:Nat}{y:Th}:y∈cv k y L:=by
 rw[md];exact Sa _ RZ
theorem Md {k:Nat}{j:Int}(h:iI L):iI (cv k (.call j) L):=by
 let⟨t,ts,rfl,h⟩:=h;cases k with
 | zero=>exact⟨_,_,rfl,rfl⟩
 | succ k=>exact⟨t,cv k (.call j) ts,rfl,h⟩
theorem sum_set:∀{l:List Nat}{n a b:Nat},l[n]?∣a->(l.set n b).sum+a=l.sum+b
 | x::l,0,a,b,h=>by
   let e:x=a:= ~~~h
   rw[List.set_cons_zero,TZ,TZ,e];cbv
 | x::l,n+1,a,b,h=>by
   have:=sum_set (l:=l) (n:=n) (a:=a) (b:=b) (~~~h);rw[T5,TZ,TZ];cbv
theorem Cv (ns:Rl)(x:List (List Th)×Int)(m:Int)(b:Nat)(hx:LsOk m b x.1)(hl:(x.1.length:Int)=m):∀i:Nat,(i:Int)<m->LsOk m (b+i) (Yb ns x i).1/\(Yb ns x i).1.length=x.1.length/\((Yb ns x i).1.map bW).sum=(x.1.map bW).sum+i/\∀j:Nat,1<=j->j<=i->∃L∈(Yb ns x i).1,Th.call (j:Int)∈L
 | 0,_=>⟨hx,rfl,rfl,λj h1 h2=>`a⟩
 | i+1,hi=>by
   let⟨h,Z2,hs,hc⟩:=Cv ns x m b hx hl i `a;rw[Yb];generalize Yb ns x i=y at h Z2 hs hc;unfold qZ;let q0:=RK (XG ns (y.2+1)) (show((i+1:Nat):Int)≠0 by cbv);let q1:=RJ (XG ns (y.2+1)) (show(0:Int)<((i+1:Nat):Int) by cbv);let Ym:ZU ns y.2 (i+1)<=i:=by unfold ZU;cbv
   generalize ZU ns y.2 (i+1)=n at Ym;let hn:n<y.1.length:=`a
   let hL:y.1[n]?∣(y.1.getD n []):=by rw[RR,RQ hn];rfl
   generalize y.1.getD n []=L at hL;let mL:=R7 hL;let l0:0<L.length:=by let⟨t,ts,rfl,_⟩:=h.hd L mL;simp
   let r0:=RK (XG ns (y.2+2)) (show(L.length:Int)≠0 by cbv);let r1:=RJ (XG ns (y.2+2)) (show(0:Int)<(L.length:Int) by cbv);let hk:(XG ns (y.2+2)%(L.length:Int)).toNat<L.length:=`a
   dsimp only;generalize (XG ns (y.2+2)%(L.length:Int)).toNat=k at hk;refine⟨⟨λp L' hp=>?_,λL' hL'=>?_,λL' hL'=>?_,λL' hL'=>?_⟩,by rw[SF];exact Z2,?_,λj h1 h2=>?_⟩
   ·by_cases e:p=n
    ·subst e;rw[R8 hn] at hp;cases hp
     exact yP (by simp only[bX];cbv) (by simp only[fE]) (h.ok p L hL) hk
    ·rw[Ss (UJ e)] at hp;exact h.ok p L' hp
   ·obtain z | rfl:=mem_set hL'
    ·exact h.dp L' z
    ·rw[Kv];exact h.dp L mL
   ·obtain z | rfl:=mem_set hL'
    ·exact h.hd L' z
    ·exact Md (h.hd L mL)
   ·obtain z | rfl:=mem_set hL'
    ·have:=h.rw L' z;cbv
    ·rw[B1];have:=h.rw L mL;cbv
   ·rw[List.map_set];have:=sum_set (l:=y.1.map bW) (n:=n) (a:=bW L) (b:=bW (cv k (.call ((i+1:Nat):Int)) L)) (by rw[R6,hL];rfl);rw[B1] at this ⊢;cbv
   ·let sets:∀{L':`Z},L'∈y.1->∃L2∈y.1.set n (cv k (.call ((i+1:Nat):Int)) L),∀t∈L',t∈L2:=λ{L'} hL'=>by
     let⟨q,hq⟩:=Sh.mp hL';by_cases e:q=n
     ·subst e;rw[hL] at hq;cases hq
      exact⟨_,R7 (R8 hn),λt ht=>Jm ht⟩
     ·exact⟨L',R7 ((Ss (UJ e)).trans hq),λt ht=>ht⟩
    by_cases e:j=i+1
    ·subst e;exact⟨_,R7 (R8 hn),Ek⟩
    ·let⟨L',hL',hj⟩:=hc j h1 `a;let⟨L2,m2,s2⟩:=sets hL';exact⟨L2,m2,s2 _ hj⟩
structure cj (xs:Rm)(Ls:`H):Prop where
 l:xs.length=Ls.length
 l1:1<=Ls.length
 l4:Ls.length<=4
 nm:∀x∈xs,cW x
 nd:xs.Nodup
 ok:∀(p:Nat)(L:`Z),Ls[p]?∣L->bJ (p:Int) (Ls.length:Int) false L
 dp:∀L∈Ls,dG L<=4
 hd:∀L∈Ls,iI L
 rw:∀L∈Ls,bW L<=14
 tot:(Ls.map bW).sum<=30
 cl:∀j:Nat,1<=j->j<Ls.length->∃L∈Ls,Th.call (j:Int)∈L
theorem zC (ns:Rl)(s:Int):cj (Ys ns s) (Yw ns s):=by
 let⟨m1,m4⟩:=zG ns s;unfold Ys Yw;generalize Yp ns s=m at m1 m4;let⟨b6,b14⟩:=D2 m1 m4;let⟨h,hs⟩:=Cz ns m (s+1+m) `a m.toNat;let hl:=mZ ns m (s+1+m) m.toNat;generalize XW ns m (s+1+m) m.toNat=x at h hs hl;let⟨o,oll,os,oc⟩:=Cv ns x m _ h `a (m-1).toNat `a;let bm:(dC m).toNat+(m-1).toNat<=14/\m.toNat*(dC m).toNat+(m-1).toNat<=30:=by
  have:∀j:Fin 4,(dC ((j.val:Int)+1)).toNat+j.val<=14/\(j.val+1)*(dC ((j.val:Int)+1)).toNat+j.val<=30:=`b
  have:=this ⟨(m-1).toNat,`a⟩;dsimp only at this;rw[show(((m-1).toNat:Nat):Int)+1=m by cbv,show(m-1).toNat+1=m.toNat by cbv] at this;exact this
 generalize Yb ns x (m-1).toNat=y at o oll os oc;let em:((y.1.length:Nat):Int)=m:=`a
 exact⟨by rw[mO];cbv,`a,`a,Dp ns s _,Bx ns s _ `a,by rw[em];exact o.ok,o.dp,o.hd,λL hL=>Um (o.rw L hL) bm.1,`a,λj h1 h2=>oc j h1 `a⟩
end
abbrev S1 (x:Str):Rm:=[x]
abbrev S2 (x y:Str):Rm:=[x,y]
mutual
noncomputable def c6 (XA:Rm):Th->Rm
 | .X6 x=>S2 "do" x
 | .call j=>S2 "call" (XA.getD j.toNat "")
 | .ifs x a b=>S2 "if" x++XU XA a++S1 "else"++(XU XA b++S1 "end")
 | .XR x a=>S2 "while" x++XU XA a++S1 "end"
 | .leave=>S1 "leave"
 | .back=>S1 "back"
noncomputable def XU (XA:Rm):List Th->Rm
 | []=>[]
 | t::ts=>c6 XA t++XU XA ts
end
theorem y8 (XA:Rm):∀a b:List Th,XU XA (a++b)=XU XA a++XU XA b
 | [],b=>by rw[XU];rfl
 | t::a,b=>by rw[Te,XU,XU,y8 XA a b,Sj]
theorem IS (XA:Rm)(t:Th):XU XA [t]=c6 XA t:=by rw[XU,XU,Sl]
mutual
theorem IJ {XA:Rm}{lo m:Int}:∀(t:Th)(lp:Bool),bX lo m lp t->(c6 XA t).length<=4*cn t+(if cn t=0 then 1 else 0)
 | .X6 x,_,_=>by simp[c6,cn]
 | .call j,_,_=>by simp[c6,cn]
 | .ifs x a b,lp,h=>by
   simp only[bX] at h;let h1:=fT (XA:=XA) a lp h.2.1;let h2:=fT (XA:=XA) b lp h.2.2;simp[c6,cn];cbv
 | .XR x a,lp,h=>by
   simp only[bX] at h;let h1:=fT (XA:=XA) a true h.2;simp[c6,cn];cbv
 | .leave,_,_=>by simp[c6,cn]
 | .back,_,_=>by simp[c6,cn]
theorem fT {XA:Rm}{lo m:Int}:∀(ts:`Z)(lp:Bool),bJ lo m lp ts->(XU XA ts).length<=4*bW ts+1
 | [],_,_=>by simp[XU]
 | t::ts,lp,h=>by
   simp only[bJ] at h;let h1:=IJ (XA:=XA) t lp h.1;let h2:=fT (XA:=XA) ts lp h.2.2;rw[XU,bW,RY];by_cases e:cn t=0
   ·rw[e,Xv rfl] at h1;let hp:fE t=false:=by cases t<;>simp[cn] at e<;>simp[fE]
    have:ts=[]:=h.2.1.resolve_left (by rw[hp];decide);subst this;simp[XU,bW];cbv
   ·rw[Xu e] at h1;cbv
end
theorem yN {lo m:Int}{lp:Bool}{t:Th}:∀{ts:`Z},bJ lo m lp ts->t∈ts->bX lo m lp t
 | s::ts,h,hm=>by
   simp only[bJ] at h;obtain rfl | hm:=R9.mp hm
   ·exact h.1
   ·exact yN h.2.2 hm
theorem Cy {t:Th}:∀{ts:`Z},t∈ts->cn t<=bW ts
 | s::ts,h=>by
   rw[bW];obtain rfl | h:=R9.mp h
   ·cbv
   ·have:=Cy h;cbv
theorem yf {lo m:Int}{lp:Bool}:∀{ts:`Z}(i:Nat),bJ lo m lp ts->bJ lo m lp (ts.take i)
 | [],i,h=>by rw[take_nil];exact h
 | t::ts,0,h=>by simp only[Tr,bJ]
 | t::ts,i+1,h=>by
   simp only[bJ] at h;rw[SQ,bJ];exact⟨h.1,h.2.1.imp id λe=>by rw[e,take_nil],yf i h.2.2⟩
theorem IT (ts:`Z)(i:Nat):bW (ts.take i)<=bW ts:=by
 have:=kT (ts.take i) (ts.drop i);rw[To] at this;cbv
variable {Γ1:Ga}{j:Nat}
theorem vN {a:Expr}{i:Int}(h:EV X a Z au (g7 t) Γ1)(hx:bP (fh t) i∣.str x):EV X (.Subscript a (.Constant (.int i) j p1) pos) Z aq x Γ1:=EV.sP (aL (EV.lP (by rw[eI] at h;exact h)) ev_int hx)
theorem L8 {a:Expr}{i:Int}{x:Int}(h:EV X a Z au (g7 t) Γ1)(hx:bP (fh t) i∣.int x):EV X (.Subscript a (.Constant (.int i) j p1) pos) Z ag x Γ1:=EV.iP (aL (EV.lP (by rw[eI] at h;exact h)) ev_int hx)
variable {Ls:`H}{z:Str×List Th}{ws:Rm}
abbrev Lx:Stmt:=top vp
abbrev nWD:Rm:=["_law_items","_law_names","_law_words_here","_law_one"]
theorem Ft:bE nWD ["_law_items","_law_names"] (ao Lx):=YV
def Pz (n:Nat):dc:=λK ps T=>∃(ts:`Z)(XA:Rm)(lo m:Int)(lp:Bool),ps=[⟨ae au,bF ts⟩,⟨ae aq,XA⟩]/\dG ts<n/\bJ lo m lp ts/\0<=lo/\m<=(XA.length:Int)/\bW ts<=100/\T=cP K (ae aq) (· =XU XA ts)
theorem l1 (x:Str):([x]:Rm).length<=UZ:=by show 1<=UZ;decide
theorem l2 (x y:Str):([x,y]:Rm).length<=UZ:=by show 2<=UZ;decide
theorem OE (F:dI K "_law_words" "_law_words" Lx f fd)(hm:mg "_law_words"∣.ref f)(hb:Binds K fd ["_law_items","_law_names"] []):∀n:Nat,aE P w K mg base "_law_words" (n+1) (aQ (Pz n) K):=by
 intro n;let nd:=Ft.nd
 induction n with
 | zero=>
   refine gW F Ft hm hb (λqs T ⟨_,_,_,_,_,e,_⟩=>by rw[e];rfl) `ac;let⟨ts,_,_,_,_,_,h,_⟩:=hS;exact Xt h (Nat.not_lt_zero _)
 | succ n ih=>
   refine gW F Ft hm hb (λqs T ⟨_,_,_,_,_,e,_⟩=>by rw[e];rfl) `ac;let⟨ts,XA,lo,m,lp,rfl,hd,XJ,lo0,hml,hrw,rfl⟩:=hS;refine ai (cD 2 (r:=aq) (ys:=[]) `aq ?_);refine bA (N1:=λZ=>∃e3,Z=[.im (ae au) (bF ts),.im (ae aq) XA,.mu aq (XU XA ts),e3]) (bN (r:=au) (λi Z=>∃e3,Z=[.im (ae au) (bF ts),.im (ae aq) XA,.mu aq (XU XA (ts.take i)),e3]) (bI `e) (aY 3) ⟨_,rfl⟩ (λi x Z hx hΓ=>?_) `W) ?_
   ·let⟨e3,rfl⟩:=hΓ;rw[fu,R6] at hx;let⟨t,ht,rfl⟩:=UK.mp hx;let tm:=R7 ht;let tok:=yN XJ tm;let tdp:=oS tm;let trw:=Cy tm;let wl:=fT (XA:=XA) (ts.take i) lp (yf i XJ);let wr:=IT ts i;let YT:XU XA (ts.take (i+1))=XU XA (ts.take i)++c6 XA t:=by rw[SG,ht,y8];rw[show(some t).toList=[t] from rfl,IS]
    rw[YT];generalize XU XA (ts.take i)=ws at wl;let wz:ws.length<=401:=`a
    refine aj (a9 (ay cq (jO `p) aB) (λh=>?_) (λh1=>?_))
    ·let h:eT t="do":=Xw h;cases t with
     | X6 x=>
       refine WS.freeze 2 rfl (aM `a) ?_;refine aj (cD 2 (ys:=ws++S2 "do" x) (cK `r (aZ.im (aN (r:=aq) (ak aB (ak (vN `p rfl) aK)) (l2 _ _))) `aA) ⟨.im au (g7 (.X6 x)),?_⟩);rw[c6];rfl
     | _=>exact Xt h (by simp only[eT];decide)
    let h1:¬eT t="do":=Xx h1;refine aj (a9 (ay cq (jO `p) aB) (λh=>?_) (λh2=>?_))
    ·let h:eT t="call":=Xw h;cases t with
     | call j=>
       simp only[bX] at tok;refine WS.freeze 2 rfl (aM `a) ?_;refine aj (cD 2 (ys:=ws++S2 "call" (XA.getD j.toNat "")) (cK `r (aZ.im (aN (r:=aq) (ak aB (ak (aL `g (L8 `p rfl) (a7 (xs:=XA) (i:=j) "" `a `a)) aK)) (l2 _ _))) `aA) ⟨.im au (g7 (.call j)),?_⟩);rw[c6];rfl
     | _=>exact Xt h (by simp only[eT];decide)
    let h2:¬eT t="call":=Xx h2;refine aj (a9 (ay cq (jO `p) aB) (λh=>?_) (λh3=>?_))
    ·let h:eT t="if":=Xw h;cases t with
     | ifs x a b=>
       simp only[bX] at tok;rw[gp] at tdp;rw[cn] at trw;let la:=fT (XA:=XA) a lp tok.2.1;let lb:=fT (XA:=XA) b lp tok.2.2;refine WS.freeze 2 rfl (aM `a) ?_;refine ai (cD 2 (ys:=ws++S2 "if" x++XU XA a++S1 "else") (cK (aZ.im (cK (aZ.im (cK `r (aZ.im (aN (r:=aq) (ak aB (ak (vN `p rfl) aK)) (l2 _ _))) `aA)) (aJ ih hr (ah (oZ `p rfl) (ah `g ax)) ⟨a,XA,lo,m,lp,rfl,`a,tok.2.1,lo0,hml,`a,rfl⟩) `aA)) (aZ.im (aN (r:=aq) (ak aB aK) (l1 _))) `aA) ?_);refine WS.freeze 2 rfl `aA ?_;refine aj (cD 2 (ys:=ws++S2 "if" x++XU XA a++S1 "else"++XU XA b++S1 "end") (cK (aZ.im (cK `r (aJ ih hr (ah (oZ `p rfl) (ah `g ax)) ⟨b,XA,lo,m,lp,rfl,`a,tok.2.2,lo0,hml,`a,rfl⟩) `aA)) (aZ.im (aN (r:=aq) (ak aB aK) (l1 _))) `aA) ⟨.im au (g7 (.ifs x a b)),?_⟩);rw[c6];simp only[Sj];rfl
     | _=>exact Xt h (by simp only[eT];decide)
    let h3:¬eT t="if":=Xx h3;refine aj (a9 (ay cq (jO `p) aB) (λh=>?_) (λh4=>?_))
    ·let h:eT t="while":=Xw h;cases t with
     | XR x a=>
       simp only[bX] at tok;rw[gp] at tdp;rw[cn] at trw;let la:=fT (XA:=XA) a true tok.2;refine WS.freeze 2 rfl (aM `a) ?_;refine aj (cD 2 (ys:=ws++S2 "while" x++XU XA a++S1 "end") (cK (aZ.im (cK (aZ.im (cK `r (aZ.im (aN (r:=aq) (ak aB (ak (vN `p rfl) aK)) (l2 _ _))) `aA)) (aJ ih hr (ah (oZ `p rfl) (ah `g ax)) ⟨a,XA,lo,m,true,rfl,`a,tok.2,lo0,hml,`a,rfl⟩) `aA)) (aZ.im (aN (r:=aq) (ak aB aK) (l1 _))) `aA) ⟨.im au (g7 (.XR x a)),?_⟩);rw[c6];simp only[Sj];rfl
     | _=>exact Xt h (by simp only[eT];decide)
    let h4:¬eT t="while":=Xx h4;let ew:c6 XA t=[eT t]:=by
     cases t with
     | X6 x=>exact Xt rfl h1
     | call x=>exact Xt rfl h2
     | ifs x a b=>exact Xt rfl h3
     | XR x a=>exact Xt rfl h4
     | leave=>rw[c6];rfl
     | back=>rw[c6];rfl
    rw[ew];exact aj (ee 2 (jO `p) rfl rfl (Uo wz `c) ⟨.im au (g7 t),rfl⟩)
   ·let⟨e3,rfl⟩:=hΓ;rw[kR,SK];exact⟨e3,rfl⟩
   rintro _ ⟨e3,rfl⟩;let wl:=fT (XA:=XA) ts lp XJ;refine WS.freeze 2 rfl (aM `a) ?_;exact aj (aU `r rfl)
def gq (XA:Rm)(z:Str×List Th):Rm:=S2 "part" (z.1)++XU XA z.2++S1 "end"
noncomputable def lA (XA:Rm)(Ls:`H):Rm:=(XA.zip Ls).flatMap (gq XA)
abbrev Pb:Stmt:=top xv
abbrev nTX:Rm:=["_law_names","_law_lists","_law_words_here","_law_name_here","_law_items"]
noncomputable def Pa:dc:=λK ps T=>∃(XA:Rm)(Ls:`H),ps=[⟨ae aq,XA⟩,⟨ae (ae au),Ls.map bF⟩]/\cj XA Ls/\T=cP K aq (· =WW " " (lA XA Ls))
structure g6 (w:Str):Prop where
 l:w.length<=8
 f:32∉w.cps.toList
theorem cW.wo (h:cW x):g6 x:=⟨h.l8,λz=>by have:=(h.az _ z).1;cbv⟩
theorem gw {w:Str}(h:(decide (w.length<=8)&&decide (32∉w.cps.toList))=true):g6 w:=by
 rw[Rx] at h;exact⟨Xw h.1,Xw h.2⟩
theorem IM (h:∀x∈XA,cW x)(i:Nat):g6 (XA.getD i ""):=by
 rw[RR];cases e:XA[i]? with
 | none=>exact gw `b
 | some x=>exact(h x (R7 e)).wo
theorem oY (hx:g6 x)(hy:g6 y):∀w∈S2 x y,g6 w:=λw hw=>by
 obtain rfl | hw:=R9.mp hw
 ·exact hx
 ·rw[RU.mp hw];exact hy
theorem nt (hx:g6 x):∀w∈S1 x,g6 w:=λw hw=>by rw[RU.mp hw];exact hx
theorem gz {a b:Rm}(ha:∀w∈a,g6 w)(hb:∀w∈b,g6 w):∀w∈a++b,g6 w:=λw hw=>(Se.mp hw).elim (ha w) (hb w)
mutual
theorem KY {XA:Rm}{lo m:Int}(hn:∀x∈XA,cW x):∀(t:Th)(lp:Bool),bX lo m lp t->∀w∈c6 XA t,g6 w
 | .X6 x,_,h=>by
   simp only[bX] at h;rw[c6];exact oY (gw `b) h.wo
 | .call j,_,_=>by rw[c6];exact oY (gw `b) (IM hn _)
 | .ifs x a b,lp,h=>by
   simp only[bX] at h;rw[c6];exact gz (gz (gz (oY (gw `b) h.1.wo) (pd hn a lp h.2.1)) (nt (gw `b))) (gz (pd hn b lp h.2.2) (nt (gw `b)))
 | .XR x a,lp,h=>by
   simp only[bX] at h;rw[c6];exact gz (gz (oY (gw `b) h.1.wo) (pd hn a true h.2)) (nt (gw `b))
 | .leave,_,_=>by rw[c6];exact nt (gw `b)
 | .back,_,_=>by rw[c6];exact nt (gw `b)
theorem pd {XA:Rm}{lo m:Int}(hn:∀x∈XA,cW x):∀(ts:`Z)(lp:Bool),bJ lo m lp ts->∀w∈XU XA ts,g6 w
 | [],_,_=>by rw[XU];intro w h;cases h
 | t::ts,lp,h=>by
   simp only[bJ] at h;rw[XU];exact gz (KY hn t lp h.1) (pd hn ts lp h.2.2)
end
theorem lB (h:(XA.zip Ls)[i]?∣z):XA[i]?∣z.1/\Ls[i]?∣z.2:=by
 rw[List.getElem?_zip_eq_some] at h;exact h
theorem Oi (h:`aK)(hz:z∈XA.zip Ls):(gq XA z).length<=60/\∀w∈gq XA z,g6 w:=by
 let⟨i,hi⟩:=Sh.mp hz;let⟨h1,h2⟩:=lB hi;let hk:=h.ok i z.2 h2;let hl:=fT (XA:=XA) z.2 false hk;let hr:=h.rw z.2 (R7 h2);unfold gq;refine⟨by simp;cbv,gz (gz (oY (gw `b) (h.nm z.1 (R7 h1)).wo) (pd h.nm z.2 false hk)) (nt (gw `b))⟩
theorem zr {XA:Rm}:∀{zs:List (Str×List Th)},(∀z∈zs,(gq XA z).length<=60/\∀w∈gq XA z,g6 w)->(zs.flatMap (gq XA)).length<=60*zs.length/\∀w∈zs.flatMap (gq XA),g6 w
 | [],_=>⟨Ul _,λw h=>by cases h⟩
 | z::zs,h=>by
   let⟨a,b⟩:=zr (zs:=zs) λy hy=>h y (RX _ hy);let⟨c,d⟩:=h z RZ;rw[S6];exact⟨by rw[RY,Sb];cbv,gz d b⟩
theorem zI (h:`aK)(i:Nat):(((XA.zip Ls).take i).flatMap (gq XA)).length<=240/\∀w∈((XA.zip Ls).take i).flatMap (gq XA),g6 w:=by
 let⟨a,b⟩:=zr (XA:=XA) (zs:=(XA.zip Ls).take i) λz hz=>Oi h (Uc hz);refine⟨?_,b⟩;have:=h.l;have:=h.l4;rw[Sm,Tv] at a;cbv
theorem vV (h:`aK):(lA XA Ls).length<=240/\∀w∈lA XA Ls,g6 w:=by
 have:=zI h (XA.zip Ls).length;rw[SK] at this;exact this
theorem zP (hl:ws.length<=240)(h:∀w∈ws,g6 w):JoinOk " " ws=true:=by
 unfold JoinOk;rw[StrLaws.joinFits (B:=8) (λy hy=>(h y hy).l) (by rw[show(" ":Str).length=1 by decide +kernel];cbv)];rfl
theorem M1 (M:cb K mg)(CW:aE P w K mg base "_law_words" 6 (aQ (Pz 5) K))(Df:Def K mg "_law_text" Pb ["_law_names","_law_lists"]):aE P w K mg base "_law_text" 7 (aQ Pa K):=by
 refine bO (N:=nTX) (k:=6) Df `n;let⟨XA,Ls,rfl,hP,rfl⟩:=hS;refine ai (ba 2 (y:=([]:Rm)) (aZ.im (aN (r:=aq) aK (Ul _))) ?_);refine bA (N1:=λZ=>∃e3 e4,Z=[.im (ae aq) XA,.im (ae (ae au)) (Ls.map bF),.im (ae aq) (lA XA Ls),e3,e4]) (bN (λi Z=>∃e3 e4,Z=[.im (ae aq) XA,.im (ae (ae au)) (Ls.map bF),.im (ae aq) (((XA.zip Ls).take i).flatMap (gq XA)),e3,e4]) (Ca M.zip `e `g) (d9 3 4) ⟨_,_,rfl⟩ (λi x Z hx hΓ=>?_) `W) ?_
 ·let⟨e3,e4,rfl⟩:=hΓ;rw[List.zip_map_right,R6] at hx;let⟨z,hz,rfl⟩:=UK.mp hx;let⟨h1,h2⟩:=lB hz;let⟨tl,_⟩:=zI hP i;let hk:=hP.ok i z.2 h2;let hl:=fT (XA:=XA) z.2 false hk;let hrw:=hP.rw z.2 (R7 h2);let hdp:=hP.dp z.2 (R7 h2);let Z2:=hP.l;let YT:((XA.zip Ls).take (i+1)).flatMap (gq XA)=((XA.zip Ls).take i).flatMap (gq XA)++gq XA z:=by
   rw[SG,hz,Tc];simp
  rw[YT];generalize ((XA.zip Ls).take i).flatMap (gq XA)=ws at tl;refine aj (ba 2 (y:=ws++S2 "part" z.1++XU XA z.2++S1 "end") (aZ.im (cK (aZ.im (cK (aZ.im (cK `r (aZ.im (aN (r:=aq) (ak aB (ak `p aK)) (l2 _ _))) `aA)) (aJ CW hr (ah `T (ah `e ax)) ⟨z.2,XA,(i:Int),(Ls.length:Int),false,rfl,`a,hk,`a,`a,`a,rfl⟩) `aA)) (aZ.im (aN (r:=aq) (ak aB aK) (l1 _))) `aA)) ⟨.im aq z.1,.im (ae au) (bF z.2),?_⟩);unfold gq;simp only[Sj];rfl
 ·let⟨e3,e4,rfl⟩:=hΓ;refine⟨e3,e4,?_⟩;rw[List.zip_map_right,RS,SK];rfl
 rintro _ ⟨e3,e4,rfl⟩;let⟨pl,po⟩:=vV hP;exact aj (aU (Ip aB `r (zP pl po)) (yF _ _))
structure aH where
 kind:Str
 name:Str
 word:Int
 within:Int
abbrev dA:aH:=⟨"","",0,0⟩
abbrev named:Rm:=["part","do","call","if","while"]
abbrev X5:Rm:=["do","call","if","while","leave","back"]
abbrev Ye:Rm:=["part","if","else","while"]
abbrev XI:Rm:=["else","end"]
structure f7 where
 S:List aH
 O:Rl
 w:Nat
def aT (S:`N)(o:Int):Str:=(S.getD o.toNat dA).kind
noncomputable def gD (k:Str)(ks:Rm):Bool:=
 if ks.isEmpty then decide (k="part")
 else if k="leave" then decide (("while":Str)∈ks)
 else if k="else" then decide (ks.getLast?.getD ""="if")
 else if k="end" then !decide (ks.getLast?.getD ""="if")
 else decide (k∈X5)
abbrev Aa (ws:Rm)(x:f7):Str:=ws.getD x.w ""
def rF (k:Str)(n:Str)(x:f7):aH:=⟨k,n,(x.w:Int),x.O.getLast?.getD (-1)⟩
noncomputable def Y0 (k n:Str)(x:f7):f7:=
 ⟨x.S++[rF k (if k∈named then n else "") x],(if k∈XI then x.O.dropLast else x.O)++(if k∈Ye then[(x.S.length:Int)] else[]),x.w+(if k∈named then 2 else 1)⟩
def kj (ws:Rm)(x:f7):f7:=Y0 (Aa ws x) (ws.getD (x.w+1) "") x
structure Kl (ws:Rm)(x:f7):Prop where
 w:x.w<ws.length
 may:gD (Aa ws x) (x.O.map (aT x.S))=true
 nm:Aa ws x∈named->x.w+1<ws.length/\cW (ws.getD (x.w+1) "")
 o:∀o∈x.O,0<=o/\o<(x.S.length:Int)
theorem pU {α:Type}(f:α->α)(m:Nat)(x:α):∀n,X8 f (m+n) x=X8 f n (X8 f m x)
 | 0=>rfl
 | n+1=>by rw[← UG,X8,X8,pU f m x n]
def ig (ws:Rm)(n:Nat)(x y:f7):Prop:=X8 (kj ws) n x=y/\∀i,i<n->Kl ws (X8 (kj ws) i x)
theorem ig.refl {x:f7}:ig ws 0 x x:=⟨rfl,λi h=>`a⟩
theorem ig.trans {m:Nat}{x y z:f7}(h:ig ws m x y)(h':ig ws n y z):ig ws (m+n) x z:=by
 refine⟨by rw[pU,h.1];exact h'.1,λi hi=>?_⟩;by_cases q:i<m
 ·exact h.2 i q
 ·let e:i=m+(i-m):=`a
  rw[e,pU,h.1];exact h'.2 (i-m) `a
theorem ig.cast {x y y':f7}(h:ig ws n x y)(e:y=y'):ig ws n x y':=e▸h
theorem ig.one {x y:f7}(h:Kl ws x)(e:kj ws x=y):ig ws 1 x y:=by
 refine⟨e,λi hi=>?_⟩;obtain rfl:i=0:=`a
 exact h
def sW (ws:Rm)(w:Nat)(vs:Rm):Prop:=∀(i:Nat)(v:Str),vs[i]?∣v->ws[w+i]?∣v
theorem sW.app {w:Nat}{a b:Rm}(h:sW ws w (a++b)):sW ws w a/\sW ws (w+a.length) b:=by
 refine⟨λi v hv=>h i v ?_,λi v hv=>?_⟩
 ·rw[So (RP.mp hv).1];exact hv
 ·have:=h (a.length+i) v (by rw[Su `a,show a.length+i-a.length=i by cbv];exact hv);rw[show w+a.length+i=w+(a.length+i) by cbv];exact this
theorem sW.d {w:Nat}{vs:Rm}(h:sW ws w vs){v:Str}(hv:vs[i]?∣v):ws.getD (w+i) ""=v/\w+i<ws.length:=by
 have:=h i v hv;exact⟨by rw[RR,this];rfl,(RP.mp this).1⟩
mutual
noncomputable def bw:Th->Nat
 | .ifs _ a b=>3+XE a+XE b
 | .XR _ a=>2+XE a
 | _=>1
noncomputable def XE:List Th->Nat
 | []=>0
 | t::ts=>bw t+XE ts
end
mutual
noncomputable def spT (XA:Rm)(a w u:Int):Th->List aH
 | .X6 x=>[⟨"do",x,w,u⟩]
 | .call j=>[⟨"call",XA.getD j.toNat "",w,u⟩]
 | .ifs x A B=>[⟨"if",x,w,u⟩]++cf XA (a+1) (w+2) a A++([⟨"else","",w+2+(XU XA A).length,a⟩]++(cf XA (a+2+XE A) (w+3+(XU XA A).length) (a+1+XE A) B++[⟨"end","",w+3+(XU XA A).length+(XU XA B).length,a+1+XE A⟩]))
 | .XR x A=>[⟨"while",x,w,u⟩]++(cf XA (a+1) (w+2) a A++[⟨"end","",w+2+(XU XA A).length,a⟩])
 | .leave=>[⟨"leave","",w,u⟩]
 | .back=>[⟨"back","",w,u⟩]
noncomputable def cf (XA:Rm)(a w u:Int):List Th->List aH
 | []=>[]
 | t::ts=>spT XA a w u t++cf XA (a+bw t) (w+(c6 XA t).length) u ts
end
mutual
theorem kP {XA:Rm}:∀(t:Th)(a w u:Int),(spT XA a w u t).length=bw t
 | .X6 _,_,_,_=>by simp[spT,bw]
 | .call _,_,_,_=>by simp[spT,bw]
 | .ifs x A B,a,w,u=>by
   simp only[spT,bw,RY,cu A,cu B,Sb,Sv];cbv
 | .XR x A,a,w,u=>by
   simp only[spT,bw,RY,cu A,Sb,Sv];cbv
 | .leave,_,_,_=>by simp[spT,bw]
 | .back,_,_,_=>by simp[spT,bw]
theorem cu {XA:Rm}:∀(ts:`Z)(a w u:Int),(cf XA a w u ts).length=XE ts
 | [],_,_,_=>by simp[cf,XE]
 | t::ts,a,w,u=>by rw[cf,XE,RY,kP t,cu ts]
end
variable {s:aH}{O:Rl}{S:`N}{ks:Rm}
section
variable {x:f7}{n:Str}{a:Int}{S':`N}{f:Int->Str}
structure Ctx (x:f7)(lp:Bool):Prop where
 ne:x.O≠[]
 o:∀o∈x.O,0<=o/\o<(x.S.length:Int)
 lp:lp=true->("while":Str)∈x.O.map (aT x.S)
theorem Hs {o:Int}(h0:0<=o)(h1:o<(S.length:Int)):aT (S++S') o=aT S o:=by
 unfold aT;rw[RR,RR,So `a]
theorem DY:aT (S++s::S') (S.length:Int)=s.kind:=by
 unfold aT;rw[RR,show((S.length:Nat):Int).toNat=S.length by cbv];simp
theorem y4 (h:∀o∈O,0<=o/\o<(S.length:Int)):O.map (aT (S++S'))=O.map (aT S):=Tj λo ho=>Hs (h o ho).1 (h o ho).2
theorem Ctx.more (h:Ctx x lp)(S':`N)(w:Nat):Ctx ⟨x.S++S',x.O,w⟩ lp:=
 ⟨h.ne,λo ho=>⟨(h.o o ho).1,by have:=(h.o o ho).2;show o<((x.S++S').length:Int);rw[RY];cbv⟩,λe=>by show _∈x.O.map (aT (x.S++S'));rw[y4 h.o];exact h.lp e⟩
theorem Ctx.inner {lp':Bool}(h:Ctx x lp)(s:aH)(w:Nat)(hl:lp'=true->lp=true∨s.kind="while"):Ctx ⟨x.S++[s],x.O++[(x.S.length:Int)],w⟩ lp':=by
 refine⟨`d,λo ho=>?_,λe=>?_⟩
 ·show _/\o<((x.S++[s]).length:Int);rw[RY,Sz];obtain z | z:=Se.mp ho
  ·have:=h.o o z;cbv
  ·rw[RU.mp z];cbv
 ·show _∈(x.O++[(x.S.length:Int)]).map (aT (x.S++[s]));rw[Sf,y4 h.o];obtain z | z:=hl e
  ·exact Sg _ (h.lp z)
  ·refine Sa _ ?_;rw[Uj,DY,z];exact RU.mpr rfl
theorem lr {k:Str}(XS:ks≠[])(h:k∈X5)(hl:k≠"leave"):gD k ks=true:=by
 unfold gD;let e:ks.isEmpty=false:=by cases ks with
  | nil=>exact Xt rfl XS
  | cons _ _=>rfl
 let h1:k≠"else":=λz=>by rw[z] at h;revert h;decide +kernel
 let h2:k≠"end":=λz=>by rw[z] at h;revert h;decide +kernel
 rw[Xu (by rw[e];decide),Xu hl,Xu h1,Xu h2];exact Xy h
theorem oG (h:O≠[]):O.map f≠[]:=λe=>h (List.map_eq_nil_iff.mp e)
theorem gR {k:Str}{vs:Rm}{i:Nat}(hk:ws.getD x.w ""=k/\x.w<ws.length)(hn:k∈named->ws.getD (x.w+1) ""=n/\x.w+1<ws.length/\cW n)(hm:gD k (x.O.map (aT x.S))=true)(ho:∀o∈x.O,0<=o/\o<(x.S.length:Int)):ig ws 1 x (Y0 k n x):=by
 let⟨e1,h1⟩:=hk;let e:Aa ws x=k:=e1;refine ig.one ⟨h1,by rw[e];exact hm,λh=>?_,ho⟩ ?_
 ·rw[e] at h;let⟨e2,h2,h3⟩:=hn h;exact⟨h2,by rw[e2];exact h3⟩
 ·unfold kj;rw[e];by_cases h:k∈named
  ·rw[(hn h).1]
  ·unfold Y0;rw[Xu h,Xu h,Xu h]
theorem xa:((O++[a]).map f).getLast?.getD ""=f a:=`d
theorem Fh (h:f a="if"):gD "else" ((O++[a]).map f)=true:=by
 unfold gD;rw[Xu `d,Xu `b,Xv rfl,xa,h];rfl
theorem uA (h:f a≠"if"):gD "end" ((O++[a]).map f)=true:=by
 unfold gD;rw[Xu `d,Xu `b,Xu `b,Xv rfl,xa,Xz h];rfl
theorem B5 (h:("while":Str)∈ks):gD "leave" ks=true:=by
 unfold gD;rw[Xu (by cases ks with
  | nil=>cases h
  | cons _ _=>simp),Xv rfl]
 exact Xy h
abbrev uF (x:f7):Int:=x.O.getLast?.getD (-1)
theorem xG {k:Str}(h1:k∈named)(h2:k∉XI)(h3:k∉Ye):Y0 k n x=⟨x.S++[⟨k,n,x.w,uF x⟩],x.O,x.w+2⟩:=by
 unfold Y0 rF;rw[Xv h1,Xv h1,Xu h2,Xu h3,Sl]
theorem z4 {k:Str}(h1:k∉named)(h2:k∉XI)(h3:k∉Ye):Y0 k n x=⟨x.S++[⟨k,"",x.w,uF x⟩],x.O,x.w+1⟩:=by
 unfold Y0 rF;rw[Xu h1,Xu h1,Xu h2,Xu h3,Sl]
theorem tO {k:Str}(h1:k∈named)(h2:k∉XI)(h3:k∈Ye):Y0 k n x=⟨x.S++[⟨k,n,x.w,uF x⟩],x.O++[(x.S.length:Int)],x.w+2⟩:=by
 unfold Y0 rF;rw[Xv h1,Xv h1,Xu h2,Xv h3]
theorem Hx {w:Nat}:Y0 "else" n ⟨S,O++[a],w⟩=⟨S++[⟨"else","",w,a⟩],O++[(S.length:Int)],w+1⟩:=by
 unfold Y0 rF;rw[Xu (show¬("else":Str)∈named by decide +kernel),Xu (show¬("else":Str)∈named by decide +kernel),Xv (show("else":Str)∈XI by decide +kernel),Xv (show("else":Str)∈Ye by decide +kernel)];simp
theorem oE {w:Nat}:Y0 "end" n ⟨S,O++[a],w⟩=⟨S++[⟨"end","",w,a⟩],O,w+1⟩:=by
 unfold Y0 rF;rw[Xu (show¬("end":Str)∈named by decide +kernel),Xu (show¬("end":Str)∈named by decide +kernel),Xv (show("end":Str)∈XI by decide +kernel),Xu (show¬("end":Str)∈Ye by decide +kernel)];simp
theorem sj (h:∀o∈O,0<=o/\o<(S.length:Int))(S':`N):∀o∈O++[(S.length:Int)],0<=o/\o<(((S++[s])++S').length:Int):=λo ho=>by
 rw[RY,RY,Sz];obtain z | z:=Se.mp ho
 ·have:=h o z;cbv
 ·rw[RU.mp z];cbv
theorem sX:aT ((S++[s])++S') (S.length:Int)=s.kind:=by rw[Sj];exact DY
mutual
theorem Qx {ws XA:Rm}{lo m:Int}(hn:∀x∈XA,cW x)(hm:m<=(XA.length:Int))(hlo:0<=lo):∀(t:Th)(lp:Bool)(x:f7),bX lo m lp t->sW ws x.w (c6 XA t)->Ctx x lp->
 ig ws (bw t) x ⟨x.S++spT XA (x.S.length:Int) (x.w:Int) (uF x) t,x.O,x.w+(c6 XA t).length⟩
 | .X6 y,lp,x,h,hw,hc=>by
   simp only[bX] at h;rw[c6] at hw;let e1:=hw.d (i:=0) rfl;let e2:=hw.d (i:=1) rfl;let s:=gR (n:=y) (vs:=[]) (i:=0) e1 (λ_=>⟨e2.1,e2.2,h⟩) (lr (oG hc.ne) `b `b) hc.o;rw[xG `b `b `b] at s;simp only[bw,spT,c6];exact s
 | .call j,lp,x,h,hw,hc=>by
   simp only[bX] at h;rw[c6] at hw;let e1:=hw.d (i:=0) rfl;let e2:=hw.d (i:=1) rfl;let hj:cW (XA.getD j.toNat ""):=by
    let hl:j.toNat<XA.length:=`a
    rw[RR,RQ hl];exact hn _ (SD hl)
   let s:=gR (n:=XA.getD j.toNat "") (vs:=[]) (i:=0) e1 (λ_=>⟨e2.1,e2.2,hj⟩) (lr (oG hc.ne) `b `b) hc.o;rw[xG `b `b `b] at s;simp only[bw,spT,c6];exact s
 | .leave,lp,x,h,hw,hc=>by
   simp only[bX] at h;rw[c6] at hw;let e1:=hw.d (i:=0) rfl;let s:=gR (n:="") (vs:=[]) (i:=0) e1 (λz=>Xt z `b) (B5 (hc.lp h)) hc.o;rw[z4 `b `b `b] at s;simp only[bw,spT,c6];exact s
 | .back,lp,x,h,hw,hc=>by
   rw[c6] at hw;let e1:=hw.d (i:=0) rfl;let s:=gR (n:="") (vs:=[]) (i:=0) e1 (λz=>Xt z `b) (lr (oG hc.ne) `b `b) hc.o;rw[z4 `b `b `b] at s;simp only[bw,spT,c6];exact s
 | .XR y A,lp,x,h,hw,hc=>by
   simp only[bX] at h;rw[c6,Sj] at hw;let⟨w1,w2⟩:=hw.app;let⟨w2,w3⟩:=w2.app;let e1:=w1.d (i:=0) rfl;let e2:=w1.d (i:=1) rfl;let s1:=gR (n:=y) (vs:=[]) (i:=0) e1 (λ_=>⟨e2.1,e2.2,h.1⟩) (lr (oG hc.ne) `b `b) hc.o;rw[tO `b `b `b] at s1;let s2:=yo (lo:=lo) (m:=m) hn hm hlo A true ⟨x.S++[(⟨"while",y,x.w,uF x⟩:aH)],x.O++[(x.S.length:Int)],x.w+2⟩ h.2 w2 (hc.inner _ _ λ_=>.inr rfl);let hu:uF ⟨x.S++[(⟨"while",y,x.w,uF x⟩:aH)],x.O++[(x.S.length:Int)],x.w+2⟩=(x.S.length:Int):=by unfold uF;simp
   rw[hu] at s2;let e3:=w3.d (i:=0) rfl;let s3:=gR (ws:=ws) (x:=⟨x.S++[(⟨"while",y,x.w,uF x⟩:aH)]++cf XA ((x.S++[(⟨"while",y,x.w,uF x⟩:aH)]).length:Int) ((x.w+2:Nat):Int) (x.S.length:Int) A,x.O++[(x.S.length:Int)],x.w+2+(XU XA A).length⟩) (n:="") (vs:=[]) (i:=0) e3 (λz=>Xt z `b) (uA (by rw[sX];show("while":Str)≠"if";decide +kernel)) (sj hc.o _);rw[oE] at s3;let s:=(s1.trans s2).trans s3;simp only[bw,spT,c6];rw[show 1+XE A+1=2+XE A by cbv] at s;refine s.cast ?_;simp only[RY,Sb,Sv,Sj];push_cast;simp only[f7.mk.injEq];refine⟨?_,trivial,?_⟩
   ·rw[show(x.w:Int)+1+1=(x.w:Int)+2 by cbv]
   ·cbv
 | .ifs y A B,lp,x,h,hw,hc=>by
   simp only[bX] at h;rw[c6,Sj,Sj] at hw;let⟨w1,w2⟩:=hw.app;let⟨w2,w3⟩:=w2.app;let⟨w3,w4⟩:=w3.app;let⟨w4,w5⟩:=w4.app;let e1:=w1.d (i:=0) rfl;let e2:=w1.d (i:=1) rfl;let s1:=gR (n:=y) (vs:=[]) (i:=0) e1 (λ_=>⟨e2.1,e2.2,h.1⟩) (lr (oG hc.ne) `b `b) hc.o;rw[tO `b `b `b] at s1;generalize hs0:(⟨"if",y,x.w,uF x⟩:aH)=s0 at s1;let k0:s0.kind="if":=by rw[← hs0]
   let s2:=yo (lo:=lo) (m:=m) hn hm hlo A lp ⟨x.S++[s0],x.O++[(x.S.length:Int)],x.w+2⟩ h.2.1 w2 (hc.inner _ _ λz=>.inl z);let hu:uF ⟨x.S++[s0],x.O++[(x.S.length:Int)],x.w+2⟩=(x.S.length:Int):=by unfold uF;simp
   rw[hu] at s2;let e3:=w3.d (i:=0) rfl;generalize hSA:cf XA ((x.S++[s0]).length:Int) ((x.w+2:Nat):Int) (x.S.length:Int) A=SA at s2;let lSA:SA.length=XE A:=by rw[← hSA,cu]
   let s3:=gR (ws:=ws) (x:=(⟨x.S++[s0]++SA,x.O++[(x.S.length:Int)],x.w+2+(XU XA A).length⟩:f7)) (n:="") (vs:=[]) (i:=0) e3 (λz=>Xt z `b) (Fh (by rw[sX,k0])) (sj hc.o _);rw[Hx] at s3;let c3:=(hc.more (s0::SA) (x.w+2+(XU XA A).length)).inner (⟨"else","",((x.w+2+(XU XA A).length:Nat):Int),(x.S.length:Int)⟩:aH) (x.w+2+(XU XA A).length+1) (lp':=lp) λz=>.inl z;let el:x.S++s0::SA=x.S++[s0]++SA:=`d
   dsimp only at c3;rw[el] at c3;generalize hs1:(⟨"else","",((x.w+2+(XU XA A).length:Nat):Int),(x.S.length:Int)⟩:aH)=s1' at s3 c3;let k1:s1'.kind≠"if":=by rw[← hs1];show("else":Str)≠"if";decide +kernel
   let s4:=yo (lo:=lo) (m:=m) hn hm hlo B lp _ h.2.2 w4 c3;let hu2:uF ⟨x.S++[s0]++SA++[s1'],x.O++[((x.S++[s0]++SA).length:Int)],x.w+2+(XU XA A).length+1⟩=((x.S++[s0]++SA).length:Int):=by unfold uF;simp
   rw[hu2] at s4;let e5:=w5.d (i:=0) rfl;dsimp only at s4;generalize hSB:cf XA ((x.S++[s0]++SA++[s1']).length:Int) ((x.w+2+(XU XA A).length+1:Nat):Int) ((x.S++[s0]++SA).length:Int) B=SB at s4;let s5:=gR (ws:=ws) (x:=(⟨x.S++[s0]++SA++[s1']++SB,x.O++[((x.S++[s0]++SA).length:Int)],x.w+2+(XU XA A).length+1+(XU XA B).length⟩:f7)) (n:="") (vs:=[]) (i:=0) e5 (λz=>Xt z `b) (uA (by rw[sX];exact k1)) (sj (by
    intro o ho;have:=(hc.more (s0::SA) 0).o o ho;dsimp only at this;rw[el] at this;exact this) _)
   rw[oE] at s5;let s:=(((s1.trans s2).trans s3).trans s4).trans s5;simp only[bw,spT,c6];rw[show 1+XE A+1+XE B+1=3+XE A+XE B by cbv] at s;refine s.cast ?_;subst hs0 hs1;simp only[RY,Sb,Sv,Sj,lSA] at hSA hSB ⊢;rw[← hSA,← hSB];push_cast;simp only[f7.mk.injEq];refine⟨?_,trivial,?_⟩
   ·rw[show(x.w:Int)+1+1=(x.w:Int)+2 by cbv,show(x.w:Int)+2+((XU XA A).length:Int)+1=(x.w:Int)+3+((XU XA A).length:Int) by cbv,show(x.S.length:Int)+(1+((XE A:Int)+1))=(x.S.length:Int)+2+(XE A:Int) by cbv,show(x.S.length:Int)+(1+(XE A:Int))=(x.S.length:Int)+1+(XE A:Int) by cbv]
   ·cbv
theorem yo {ws XA:Rm}{lo m:Int}(hn:∀x∈XA,cW x)(hm:m<=(XA.length:Int))(hlo:0<=lo):∀(ts:`Z)(lp:Bool)(x:f7),bJ lo m lp ts->sW ws x.w (XU XA ts)->Ctx x lp->
 ig ws (XE ts) x ⟨x.S++cf XA (x.S.length:Int) (x.w:Int) (uF x) ts,x.O,x.w+(XU XA ts).length⟩
 | [],lp,x,h,hw,hc=>by
   simp only[XE,cf,XU];refine ig.refl.cast ?_;simp
 | t::ts,lp,x,h,hw,hc=>by
   simp only[bJ] at h;rw[XU] at hw;let⟨w1,w2⟩:=hw.app;let s1:=Qx hn hm hlo t lp x h.1 w1 hc;let s2:=yo hn hm hlo ts lp ⟨x.S++spT XA (x.S.length:Int) (x.w:Int) (uF x) t,x.O,x.w+(c6 XA t).length⟩ h.2.2 w2 (hc.more _ _);let s:=s1.trans s2;simp only[XE,cf,XU];refine s.cast ?_;simp only[RY,kP,Sj];push_cast;simp only[f7.mk.injEq];refine⟨trivial,trivial,?_⟩;cbv
end
end
noncomputable def iX (XA:Rm)(a w:Int):List (Str×List Th)->List aH
 | []=>[]
 | z::r=>[⟨"part",z.1,w, -1⟩]++(cf XA (a+1) (w+2) a z.2++([⟨"end","",w+2+(XU XA z.2).length,a⟩]++iX XA (a+2+XE z.2) (w+3+(XU XA z.2).length) r))
noncomputable def dt:List (Str×List Th)->Nat
 | []=>0
 | z::r=>2+XE z.2+dt r
theorem zB {XA:Rm}:∀(zs:List (Str×List Th))(a w:Int),(iX XA a w zs).length=dt zs
 | [],_,_=>rfl
 | z::r,a,w=>by
   rw[iX,dt];simp only[RY,cu,zB r,Sb,Sv];cbv
theorem Ku {ws XA:Rm}{m:Int}(hn:∀x∈XA,cW x)(hm:m<=(XA.length:Int)):∀(zs:List (Str×List Th))(x:f7),(∀z∈zs,cW z.1/\∃lo,0<=lo/\bJ lo m false z.2)->sW ws x.w (zs.flatMap (gq XA))->x.O=[]->
 ig ws (dt zs) x ⟨x.S++iX XA (x.S.length:Int) (x.w:Int) zs,[],x.w+(zs.flatMap (gq XA)).length⟩
 | [],x,h,hw,hc=>by
   refine ig.refl.cast ?_;simp[iX,← hc]
 | z::r,x,h,hw,hc=>by
   let⟨S,O,w⟩:=x;obtain rfl:O=[]:=hc;let⟨hz,lo,hlo,XJ⟩:=h z RZ;rw[S6] at hw;let⟨hw,hwr⟩:=hw.app;rw[show gq XA z=S2 "part" z.1++(XU XA z.2++S1 "end") by unfold gq;rw[Sj]] at hw;let⟨w1,w2⟩:=hw.app;let⟨w2,w3⟩:=w2.app;dsimp only at w1 w2 w3 hwr ⊢;let e1:=w1.d (i:=0) rfl;let e2:=w1.d (i:=1) rfl;let s1:=gR (x:=(⟨S,[],w⟩:f7)) (n:=z.1) (vs:=[]) (i:=0) e1 (λ_=>⟨e2.1,e2.2,hz⟩) (show gD "part" []=true by decide +kernel) (λo ho=>by cases ho);rw[tO `b `b `b] at s1;dsimp only at s1;rw[show uF ⟨S,[],w⟩= -1 from rfl] at s1;generalize hs0:(⟨"part",z.1,(w:Int), -1⟩:aH)=s0 at s1;let k0:s0.kind="part":=by rw[← hs0]
   let c1:Ctx ⟨S++[s0],[]++[(S.length:Int)],w+2⟩ false:=⟨`d,λo ho=>by
    let e:o=(S.length:Int):= ~~~ho
    show _/\o<((S++[s0]).length:Int);rw[RY,Sz,e];cbv,λe=>by cases e⟩
   let s2:=yo (lo:=lo) (m:=m) hn hm hlo z.2 false _ XJ w2 c1;rw[show uF ⟨S++[s0],[]++[(S.length:Int)],w+2⟩=(S.length:Int) from rfl] at s2;dsimp only at s2;generalize hSA:cf XA ((S++[s0]).length:Int) ((w+2:Nat):Int) (S.length:Int) z.2=SA at s2;let lSA:SA.length=XE z.2:=by rw[← hSA,cu]
   let e3:=w3.d (i:=0) rfl;let s3:=gR (ws:=ws) (x:=(⟨S++[s0]++SA,[]++[(S.length:Int)],w+2+(XU XA z.2).length⟩:f7)) (n:="") (vs:=[]) (i:=0) e3 (λz=>Xt z `b) (uA (by rw[sX,k0];decide +kernel)) (sj (λo ho=>by cases ho) _);rw[oE] at s3;let s4:=Ku hn hm r ⟨S++[s0]++SA++[⟨"end","",((w+2+(XU XA z.2).length:Nat):Int),(S.length:Int)⟩],[],w+2+(XU XA z.2).length+1⟩ (λy hy=>h y (RX _ hy)) (by
    let e:w+2+(XU XA z.2).length+1=w+(gq XA z).length:=by unfold gq;simp only[RY,Sb,Sv];cbv
    dsimp only;rw[e];exact hwr) rfl
   let s:=((s1.trans s2).trans s3).trans s4;rw[dt,show 2+XE z.2+dt r=1+XE z.2+1+dt r by cbv];refine s.cast ?_;subst hs0;dsimp only;rw[iX,S6];let lp:(gq XA z).length=3+(XU XA z.2).length:=by unfold gq;simp only[RY,Sb,Sv];cbv
   simp only[RY,Sb,Sv,Sj,lSA,lp] at hSA ⊢;rw[← hSA];push_cast;simp only[f7.mk.injEq];refine⟨?_,trivial,?_⟩
   ·rw[show(w:Int)+1+1=(w:Int)+2 by cbv,show(w:Int)+2+((XU XA z.2).length:Int)+1=(w:Int)+3+((XU XA z.2).length:Int) by cbv,show(S.length:Int)+(1+((XE z.2:Int)+1))=(S.length:Int)+2+(XE z.2:Int) by cbv]
   ·cbv
abbrev aw (XA:Rm)(Ls:`H):List aH:=iX XA 0 0 (XA.zip Ls)
theorem uV (h:`aK):ig (lA XA Ls) (dt (XA.zip Ls)) ⟨[],[],0⟩ ⟨aw XA Ls,[],(lA XA Ls).length⟩:=by
 have:=Ku (ws:=lA XA Ls) (XA:=XA) (m:=(Ls.length:Int)) h.nm (by rw[h.l];cbv) (XA.zip Ls) ⟨[],[],0⟩ (λz hz=>by
  let⟨i,hi⟩:=Sh.mp hz;let⟨h1,h2⟩:=lB hi;exact⟨h.nm z.1 (R7 h1),(i:Int),`a,h.ok i z.2 h2⟩) (λi v hv=>by
   show(lA XA Ls)[0+i]?∣v;rw[Uu];exact hv) rfl
 refine this.cast ?_;simp[aw,lA]
structure mj (K:W7)(mg:Rj):Prop where
 most:∃t,mg "MOST_LETTERS"∣.int 8 t
 nost:∃t,mg "NO_STEP"∣(.int (-1) t)
 named:tU K mg "NAMED" named
 X5:tU K mg "SENTENCES" X5
 Ye:tU K mg "OPENING" Ye
 XI:tU K mg "CLOSING" XI
abbrev ju:Rm:=["kind","name","word","within"]
theorem j7 (h:decide (x∈ju)=true):x∈ju:=Xw h
def Ph (s:aH):lN:=[("kind",aq.at_ s.kind),("name",aq.at_ s.name),("word",ag.at_ s.word),("within",ag.at_ s.within)]
def bL (C:Addr):Rep aH:=⟨λK R v s=>∃x dx vs,v= .ref x/\R x∣.ins C dx vs/\hJ (Ph s) K R vs,λs ⟨x,dx,vs,e,h1,h2⟩=>⟨x,dx,vs,e,s _ _ h1,h2.mono s⟩⟩
variable {C:Addr}
theorem iy (hC:bM X.K C ju)(he:EV X e Z (bL C) s Γ1)(hb:eX X e "kind":=by rfl):EV X (.Attribute e "kind" pos) Z aq s.kind Γ1:=kI hC (j7 `c) he (λK R v ⟨x,dx,vs,e,h1,h2⟩=>by let⟨u,q1,q2⟩:=h2.get (f:="kind") rfl;exact⟨x,dx,vs,u,e,h1,q1,q2⟩) hb
theorem rT (hC:bM X.K C ju)(he:EV X e Z (bL C) s Γ1)(hb:eX X e "name":=by rfl):EV X (.Attribute e "name" pos) Z aq s.name Γ1:=kI hC (j7 `c) he (λK R v ⟨x,dx,vs,e,h1,h2⟩=>by let⟨u,q1,q2⟩:=h2.get (f:="name") rfl;exact⟨x,dx,vs,u,e,h1,q1,q2⟩) hb
theorem MM (hC:bM X.K C ju)(he:EV X e Z (bL C) s Γ1)(hb:eX X e "word":=by rfl):EV X (.Attribute e "word" pos) Z ag s.word Γ1:=kI hC (j7 `c) he (λK R v ⟨x,dx,vs,e,h1,h2⟩=>by let⟨u,q1,q2⟩:=h2.get (f:="word") rfl;exact⟨x,dx,vs,u,e,h1,q1,q2⟩) hb
theorem sN (hC:bM X.K C ju)(he:EV X e Z (bL C) s Γ1)(hb:eX X e "within":=by rfl):EV X (.Attribute e "within" pos) Z ag s.within Γ1:=kI hC (j7 `c) he (λK R v ⟨x,dx,vs,e,h1,h2⟩=>by let⟨u,q1,q2⟩:=h2.get (f:="within") rfl;exact⟨x,dx,vs,u,e,h1,q1,q2⟩) hb
abbrev uR:Stmt:=match top IX with
 | .ClassDef _ _ _ b _ _ _ _ _ _ _=>b.getD 0 (.Pass ⟨0,0,0,0⟩)
 | s=>s
abbrev xj:Rm:=["self","kind","name","word","within"]
theorem K6:bE xj xj (ao uR):=YV
def PZ (C0:Addr):Cf:=λK C ps Pd=>C=C0/\∃s:aH,ps=[⟨aq,s.kind⟩,⟨aq,s.name⟩,⟨ag,s.word⟩,⟨ag,s.within⟩]/\Pd=λfs=>fs=Ph s
theorem OM {C0:Addr}(HC:bM K C0 ju)(F:dI K "__init__" "Step.__init__" uR f fd):fb P w K mg base eo 1 f fd xj (zc (PZ C0) K):=by
 let nd:=K6.nd;refine Dq F K6 (λC qs Pd ⟨_,m,e,_⟩=>by rw[e];rfl) (λXH A outer st H E C x dx qs Pd hr hS=>?_);let⟨rfl,s,rfl,rfl⟩:=hS;refine ai (jd 0 HC (j7 `c) `g rfl rfl (by show 0<1000;decide) ?_);refine ai (jd 0 HC (j7 `c) `r rfl rfl (by show 1<1000;decide) ?_);refine ai (jd 0 HC (j7 `c) `p rfl rfl (by show 2<1000;decide) ?_);exact aj (jd 0 HC (j7 `c) `T rfl rfl (by show 3<1000;decide) ⟨_,rfl,rfl⟩)
abbrev Ms:Stmt:=top A5
def Qn:dc:=λK ps T=>∃x:Str,ps=[⟨aq,x⟩]/\cW x/\T=cP K c7 (· =true)
theorem L1 (h:cW x)(hc:c∈iC x):∃n,c=⟨#[n]⟩/\97<=n/\n<=122:=by
 unfold iC at hc;let⟨i,hi,rfl⟩:=Sk.mp hc;let hi:i<x.cps.size:= ~~~hi
 refine⟨x.cps.getD i 0,rfl,h.az _ ?_⟩;rw[Array.getD_eq_getD_getElem?];simp[hi]
theorem N6 (h:97<=n/\n<=122):(!decide ((⟨#[n]⟩:Str).cps.toList<("a":Str).cps.toList))=true/\(!decide (("z":Str).cps.toList<(⟨#[n]⟩:Str).cps.toList))=true:=by
 let ea:("a":Str).cps.toList=[97]:=`b
 let ez:("z":Str).cps.toList=[122]:=`b
 rw[ea,ez];let e1:¬([n]:List Nat) < [97]:=by intro z;cases z with
  | rel h1=>cbv
  | cons h1=>cases h1
 let e2:¬([122]:List Nat) < [n]:=by intro z;cases z with
  | rel h1=>cbv
  | cons h1=>cases h1
 exact⟨by rw[show(⟨#[n]⟩:Str).cps.toList=[n] from rfl,Xz e1];rfl,by rw[show(⟨#[n]⟩:Str).cps.toList=[n] from rfl,Xz e2];rfl⟩
theorem Nb (M:cb K mg)(M2:mj K mg)(Df:Def K mg "is_name" Ms ["word"]):aE P w K mg base "is_name" 1 (aQ Qn K):=by
 let Y3:Sw [("sign":Str)]:=`c
 refine bO (N:=["word"]) Df `n;let⟨x,rfl,hx,rfl⟩:=hS;let⟨t,hmo⟩:=M2.most;let hl:x.cps.size<=UZ:=Um hx.l8 `c;let hasc:x.cps.all (· < 128)=true:=by
  rw[Array.all_eq_true];intro i hi;have:=hx.az x.cps[i] `d;exact Xy `a
 let l1:=hx.l1;let l8:=hx.l8;refine aj (aU (pf (qX wU wU ev_int (HP M.len `e hl) (fY hmo)) (λ_=>sT (tH M.all (aZ.im (bV (own:=["sign"]) (fr:=[]) (ix:=[]) (ra:=aq) (rb:=c7) (p:=λ_=>true) (f:=λ_=>true) (bH (so:=ao Ms) (N0:=["word"]) rfl rfl `Q `b) (C6 `e hasc hl)
  `F `V (λC s H ex c hc=>dv) (λC s H ex c hc _=>?_)))))) ?_)
 ·let⟨n,rfl,hn⟩:=L1 hx hc;let⟨q1,q2⟩:=N6 hn;exact EV.cast (qX Gf Gf aB `e aB) (by rw[q1,q2];rfl)
 ·let e1:decide ((1:Int)<=(x.length:Int))=true:=Xy `a;let e2:decide ((x.length:Int)<=8)=true:=Xy `a;rw[e1,e2];simp
abbrev O0:Stmt:=top ug
def Pl:dc:=λK ps T=>∃(ws:Rm)(i:Nat),ps=[⟨ae aq,ws⟩,⟨ag,(i:Int)⟩]/\i+1<ws.length/\cW (ws.getD (i+1) "")/\T=cP K aq (· =ws.getD (i+1) "")
theorem Nx (M:cb K mg)(CI:aE P w K mg base "is_name" 1 (aQ Qn K))(Df:Def K mg "name_behind" O0 ["words","word"]):aE P w K mg base "name_behind" 2 (aQ Pl K):=by
 refine bO (N:=["words","word"]) Df `n;let⟨ws,i,rfl,hi,hn,rfl⟩:=hS;let Ym:bP ws ((i:Int)+1)∣(ws.getD (i+1) ""):=a7 (xs:=ws) (i:=((i:Int)+1)) "" `a `a;refine ai (a9 (TW.tv (jb (ay gi (bY `g ev_int) (da M.len `e)) (λ_=>jt (gu (bU (aJ CI hr (ah (aL `e (bY `g ev_int) Ym) ax) ⟨_,rfl,hn,rfl⟩)))))) (λh=>?_) `J)
 ·rw[Xz (show¬(i:Int)+1=(ws.length:Int) by cbv)] at h;cases h
 ·exact aj (aU (aL `e (bY `g ev_int) Ym) rfl)
abbrev OS:Stmt:=top wN
def Qm:dc:=λK ps T=>∃(k:Str)(ks:Rm),ps=[⟨aq,k⟩,⟨ae aq,ks⟩]/\T=cP K c7 (· =gD k ks)
theorem Ah (h:ks≠[]):bP ks (-1)∣(ks.getLast?.getD ""):=by
 obtain⟨l,x,rfl⟩:∃l x,ks=l++[x]:=⟨ks.dropLast,ks.getLast h,(SS h).symm⟩;unfold bP;rw[show fO (l++[x]).length (-1)∣l.length by unfold fO;simp;cbv];simp
theorem Oq (M2:mj K mg)(Df:Def K mg "may_stand" OS ["kind","opened"]):aE P w K mg base "may_stand" 1 (aQ Qm K):=by
 refine bO (N:=["kind","opened"]) Df `n;let⟨k,ks,rfl,rfl⟩:=hS;refine ai (a9 (gu (xK `g)) (λh=>?_) `J)
 ·let h:ks.isEmpty=true:= ~~~h
  exact aj (aU (jk cq `e aB) (by unfold gD;rw[Xv h]))
 let h0:¬ks.isEmpty=true:= ~~~h
 let XS:ks≠[]:=λz=>h0 (by rw[z];rfl);refine ai (a9 (ay cq `e aB) (λh=>?_) `J)
 ·let h:k="leave":=Xw h;exact aj (aU (jk x8 aB `g) (by unfold gD;rw[Xu h0,Xv h]))
 let h1:¬k="leave":=Xx h;refine ai (a9 (ay cq `e aB) (λh=>?_) `J)
 ·let h:k="else":=Xw h;exact aj (aU (jk cq (aL `g `ag (Ah XS)) aB) (by unfold gD;rw[Xu h0,Xu h1,Xv h]))
 let h2:¬k="else":=Xx h;refine ai (a9 (ay cq `e aB) (λh=>?_) `J)
 ·let h:k="end":=Xw h;exact aj (aU (jk vC (aL `g `ag (Ah XS)) aB) (by unfold gD;rw[Xu h0,Xu h1,Xu h2,Xv h]))
 let h3:¬k="end":=Xx h;exact aj (aU (jk lY `e (iF M2.X5)) (by unfold gD;rw[Xu h0,Xu h1,Xu h2,Xu h3]))
theorem wG (ws:Rm):∀i,(X8 (kj ws) i ⟨[],[],0⟩).S.length=i/\i<=(X8 (kj ws) i ⟨[],[],0⟩).w/\(X8 (kj ws) i ⟨[],[],0⟩).O.length<=i
 | 0=>⟨rfl,Uk _,Uk _⟩
 | i+1=>by
   let⟨a,b,c⟩:=wG ws i;rw[X8];generalize X8 (kj ws) i ⟨[],[],0⟩=x at a b c;unfold kj Y0;refine⟨by rw[RY,a];rfl,?_,?_⟩
   ·dsimp only;split<;>cbv
   ·rw[RY];let h1:(if Aa ws x∈XI then x.O.dropLast else x.O).length<=x.O.length:=by
     split
     ·rw[Tw];cbv
     ·exact Uk _
    let h2:(if Aa ws x∈Ye then[(x.S.length:Int)] else[]).length<=1:=by split<;>simp
    cbv
theorem FX (h:O≠[]):bP O (-1)∣(O.getLast?.getD (-1)):=by
 obtain⟨l,x,rfl⟩:∃l x,O=l++[x]:=⟨O.dropLast,O.getLast h,(SS h).symm⟩;unfold bP;rw[show fO (l++[x]).length (-1)∣l.length by unfold fO;simp;cbv];simp
theorem EE (h:O≠[]):O[O.length-1]?∣(O.getLast?.getD (-1)):=by
 obtain⟨l,x,rfl⟩:∃l x,O=l++[x]:=⟨O.dropLast,O.getLast h,(SS h).symm⟩;simp
structure A8 (P:U4)(w:World)(K:W7)(mg:Rj)(base:Heap)(C:Addr):Prop where
 cl:bM K C ju
 ex:∃fi Zo,Mk K C fi/\fb P w K mg base eo 1 fi Zo xj (zc (PZ C) K)/\Binds K Zo xj []
 mg:mg "Step"∣.ref C
theorem Jn {p:Pos}(G:A8 X.prog X.w X.K X.mg X.base C)(hr:bG 2 X.A)(ha:HA X (e::es) Z [⟨aq,s.kind⟩,⟨aq,s.name⟩,⟨ag,s.word⟩,⟨ag,s.within⟩] Γ1)(hg:Gl X "Step":=by rfl)(he:dh X e es:=by rfl)(X1:fo X pos es:=by rfl):EV X (.Call (.Name "Step" p) (e::es) [] pos) Z (bL C) s Γ1:=by
 let⟨fi,Zo,MK,SI,bi⟩:=G.ex;exact zD MK SI hr G.mg bi ha ⟨rfl,s,rfl,rfl⟩ (λfs R x dx vs hP h1 h2=>by subst hP;exact⟨x,dx,vs,rfl,h2,h1⟩) hg `c he X1
abbrev Jv:Stmt:=top IF
abbrev Qp:Rm:=["text","words","steps","opened","word","kind","name"]
def Pp (C:Addr):dc:=λK ps T=>∃(ws:Rm)(n:Nat)(S:`N),ps=[⟨aq,WW " " ws⟩]/\ws≠[]/\ws.length<=240/\(∀w∈ws,g6 w)/\ig ws n ⟨[],[],0⟩ ⟨S,[],ws.length⟩/\T=cP K (ae (bL C)) (· =S)
theorem EF (h:∀w∈ws,g6 w)(hl:ws.length<=240):(WW " " ws).length<=UZ:=by
 have:=joinOk_length (zP hl h);rwa [yF] at this
theorem Oa (M:cb K mg)(M2:mj K mg)(G:A8 P w K mg base C)(CM:aE P w K mg base "may_stand" 1 (aQ Qm K))(CN:aE P w K mg base "name_behind" 2 (aQ Pl K))(Df:Def K mg "read" Jv ["text"]):aE P w K mg base "read" 3 (aQ (Pp C) K):=by
 let Y3:Sw [("number":Str),"steps"]:=`c
 let CM:=CM.mono (show 1<=2 by decide);refine bO (N:=Qp) (k:=2) Df `n;let⟨ws,n,S,rfl,XS,hl,hw,hsim,rfl⟩:=hS;let⟨t,ZQ⟩:=M2.nost;let Zx:WY (WW " " ws) " "=ws:=by
  rw[FV];exact Ao XS λw h=>(hw w h).f
 generalize hj:WW " " ws=txt at Zx;let htl:txt.length<=UZ:=by rw[← hj];exact EF hw hl
 refine ai (ba 1 (y:=ws) (EV.cast (aZ.im (Cm `e aB `b htl (by rw[Zx];exact aM `a))) Zx) ?_);refine ai (cD 2 (r:=bL C) (ys:=[]) `aq ?_);refine ai (cD 3 (r:=ag) (ys:=[]) `aq ?_);refine ai (ba 4 (y:=(0:Int)) ev_int ?_);let hinv:=wG ws;let Yk:∀i,X8 (kj ws) (i+1) ⟨[],[],0⟩=kj ws (X8 (kj ws) i ⟨[],[],0⟩):=λi=>rfl;let h0:X8 (kj ws) 0 ⟨[],[],0⟩=⟨[],[],0⟩:=rfl;let⟨YB,hrd⟩:=hsim;generalize hx:(λi=>X8 (kj ws) i ⟨[],[],0⟩)=x at *;let hxi:∀i,X8 (kj ws) i ⟨[],[],0⟩=x i:=λi=>by rw[← hx]
 simp only[hxi] at hinv Yk h0 YB hrd;refine bA (N1:=λZ=>∃e5 e6,Z=[.im aq txt,.im (ae aq) ws,.mu (bL C) S,.mu ag [],aA (ws.length:Int),e5,e6]) (jA (λk Z=>∃i,k+i=n/\∃e5 e6,Z=[.im aq txt,.im (ae aq) ws,.mu (bL C) (x i).S,.mu ag (x i).O,aA ((x i).w:Int),e5,e6]) (m0:=n) ⟨0,rfl,_,_,by rw[h0];rfl⟩ (λk Z hI=>?_)) ?_
 ·let⟨i,hki,e5,e6,rfl⟩:=hI;let⟨iS,iw,iO⟩:=hinv i;refine⟨decide (((x i).w:Int)<(ws.length:Int)),_,ay n5 `T (da M.len `g),λh=>?_,λh=>?_⟩
  ·let h:((x i).w:Int)<(ws.length:Int):=Xw h;let YU:i<n:=by
    obtain z | z:=Ut i n
    ·exact z
    ·exfalso;have:i=n:=`a
     rw[this,YB] at h;exact Xt h (Int.lt_irrefl _)
   let⟨rw_,Zh,rnm,ro⟩:=hrd i YU;let hs:=Yk i;generalize x i=y at iS iw iO rw_ Zh rnm ro hs h;let⟨Sy,Oy,wy⟩:=y;dsimp only at iS iw iO rw_ Zh rnm ro h ⊢;let Ym:bP ws (wy:Int)∣(ws.getD wy ""):=a7 (xs:=ws) (i:=(wy:Int)) "" `a h;refine ai (ba 5 (y:=ws.getD wy "") (aL `g `T Ym) ?_);rw[show kj ws ⟨Sy,Oy,wy⟩=Y0 (ws.getD wy "") (ws.getD (wy+1) "") ⟨Sy,Oy,wy⟩ from rfl] at hs;change gD (ws.getD wy "") (Oy.map (aT Sy))=true at Zh;change ws.getD wy ""∈named->wy+1<ws.length/\cW (ws.getD (wy+1) "") at rnm;generalize hkd:ws.getD wy ""=kd at Zh rnm hs;let cc:(Oy.filter λ_=>true).map (aT Sy)=Oy.map (aT Sy):=by rw[SE.mpr λ_ _=>rfl]
   refine ai (a9 (TV.Yu (IC (i:=2) (j:=3) `c rfl rfl (aM `a) (aM `a)) (gu (bU (aJ CM hr (ah `aa (ah (aZ.im (bV (own:=["number"]) (fr:=["steps"]) (ix:=[2]) (ra:=ag) (rb:=aq) (p:=λ_=>true) (f:=aT Sy) (bH (so:=ao Jv) (N0:=Qp) rfl rfl `Q `b) (bI `p)
    `F `O (λC s H ex c hc=>dv) (λC' s H ex o ho _=>iy (C:=C) G.cl (aL `g `e (a7 (xs:=Sy) (i:=o) dA (ro o ho).1 (ro o ho).2))))) ax)) ⟨kd,Oy.map (aT Sy),by rw[cc],rfl⟩)))) (λhh=>?_) (λ_=>aF ?_))
   ·rw[Zh] at hh;cases hh
   let hnm:kd∈named->wy+1<ws.length/\cW (ws.getD (wy+1) ""):=rnm;refine ai (ba 6 (y:=if kd∈named then ws.getD (wy+1) "" else "") (EV.cast (lU (ay lY `aa (iF M2.named)) (λhh=>aJ CN hr (ah `g (ah `T ax)) ⟨ws,wy,rfl,(hnm (Xw hh)).1,(hnm (Xw hh)).2,rfl⟩) (λ_=>aB)) (by by_cases z:kd∈named<;>simp[z])) ?_)
   generalize hnam:(if kd∈named then ws.getD (wy+1) "" else "")=nam;let hlast:(if(!Oy.isEmpty)=true then Oy.getLast?.getD (-1) else -1)=Oy.getLast?.getD (-1):=by cases Oy<;>rfl
   refine ai (ee 2 (y:=(⟨kd,nam,(wy:Int),Oy.getLast?.getD (-1)⟩:aH)) (Jn (s:=⟨kd,nam,(wy:Int),Oy.getLast?.getD (-1)⟩) G hr (ah `aa (ah `aw (ah `T (ah (EV.cast (lU (nB 3 rfl) (λhh=>oV 3 `ag rfl rfl (FX (λz=>by rw[z] at hh;cases hh))) (λ_=>fY ZQ)) hlast) ax))))) rfl rfl (Uo (show _<=1000 by cbv) `c) ?_)
   change WS _ _ [.im aq txt,.im (ae aq) ws,.mu (bL C) (Sy++[⟨kd,nam,(wy:Int),Oy.getLast?.getD (-1)⟩]),.mu ag Oy,aA (wy:Int),.im aq kd,.im aq nam] _ _;let hS':(Y0 kd (ws.getD (wy+1) "") ⟨Sy,Oy,wy⟩).S=Sy++[⟨kd,nam,(wy:Int),Oy.getLast?.getD (-1)⟩]:=by unfold Y0 rF;dsimp only;rw[hnam]
   rw[← hS'];let hSl:(Y0 kd (ws.getD (wy+1) "") ⟨Sy,Oy,wy⟩).S.length=Sy.length+1:=by rw[hS',RY];rfl
   let hOe:(Y0 kd (ws.getD (wy+1) "") ⟨Sy,Oy,wy⟩).O=(if kd∈XI then Oy.dropLast else Oy)++(if kd∈Ye then[(Sy.length:Int)] else[]):=rfl;let hwe:(Y0 kd (ws.getD (wy+1) "") ⟨Sy,Oy,wy⟩).w=wy+(if kd∈named then 2 else 1):=rfl;generalize Y0 kd (ws.getD (wy+1) "") ⟨Sy,Oy,wy⟩=z at hs hS' hSl hOe hwe;refine bA (N1:=λZ=>Z=[.im aq txt,.im (ae aq) ws,.mu (bL C) z.S,.mu ag (if kd∈XI then Oy.dropLast else Oy),aA (wy:Int),.im aq kd,.im aq nam]) (a9 (ay lY `aa (iF M2.XI)) (λhh=>?_) (λhh=>aF ?_)) ?_
   ·let hh:kd∈XI:=Xw hh;let hOne:Oy≠[]:=λe=>by
     rw[e] at Zh;have:kd="part":=Xw Zh;rw[this] at hh;exact Xt hh `b
    refine aj (oR (xC 3 rfl (EE hOne)) ?_);rw[Xv hh];rfl
   ·let hh:¬kd∈XI:=Xx hh;rw[Xu hh]
   rintro _ rfl;let hOl:(if kd∈XI then Oy.dropLast else Oy).length<=Oy.length:=by
    split
    ·rw[Tw];cbv
    ·exact Uk _
   generalize (if kd∈XI then Oy.dropLast else Oy)=O1 at hOe hOl;refine bA (N1:=λZ=>Z=[.im aq txt,.im (ae aq) ws,.mu (bL C) z.S,.mu ag z.O,aA (wy:Int),.im aq kd,.im aq nam]) (a9 (ay lY `aa (iF M2.Ye)) (λhh=>?_) (λhh=>aF ?_)) ?_
   ·let hh:kd∈Ye:=Xw hh;refine aj (ee 3 (EV.cast (y':=(Sy.length:Int)) (gP (tX 2 M.len rfl) ev_int) `a) rfl rfl (Uo (show _<=1000 by cbv) `c) ?_);rw[hOe,Xv hh];rfl
   ·let hh:¬kd∈Ye:=Xx hh;rw[hOe,Xu hh,Sl]
   rintro _ rfl;refine aj (CK 4 (c:=if kd∈named then 2 else 1) (EV.cast (lU (ay lY `aa (iF M2.named)) (λ_=>ev_int) (λ_=>ev_int)) (by by_cases z:kd∈named<;>simp[z])) rfl ⟨k-1,`a,i+1,`a,.im aq kd,.im aq nam,?_⟩)
   rw[hs,hwe];by_cases q:kd∈named
   ·rw[Xv q,Xv q];rfl
   ·rw[Xu q,Xu q];rfl
  ·let h:¬((x i).w:Int)<(ws.length:Int):=Xx h;let YU:i=n:=by
    obtain z | z:=Ut i n
    ·exact Xt (by have:=(hrd i z).w;cbv) h
    ·cbv
   subst YU;refine⟨e5,e6,?_⟩;rw[YB]
 rintro _ ⟨e5,e6,rfl⟩;let hSn:S.length<=240:=by
  let⟨a,b,c⟩:=hinv n;rw[YB] at a b;dsimp only at a b;cbv
 refine ai (a9 (nB 3 rfl) (λhh=>by cases hh) (λ_=>aF ?_));refine WS.freeze 2 rfl (aM `a) ?_;exact aj (aU `r rfl)
theorem ru {k:Nat}(hr:bG k A):A.units+1<cLine:=by have:=hr.units;cbv
noncomputable def g9 (F:Rt)(z:Int×aH):Rt:=if z.2.kind∈XI then jM F z.2.within z.1 else F
noncomputable def eW (S:`N):Rt:=(nums S).foldl g9 []
variable {F:Rt}
theorem Ed {z:Int×aH}:(g9 F z).length<=F.length+1:=by
 unfold g9;split
 ·exact FP _ _ _
 ·cbv
theorem KN (S:`N)(i:Nat):(((nums S).take i).foldl g9 []).length<=i:=by
 induction i with
 | zero=>exact Uk _
 | succ i ih=>
   rw[SG,S8];cases e:(nums S)[i]? with
   | none=>exact Nat.le_succ_of_le ih
   | some z=>
     show(g9 _ z).length<=_;exact Um Ed `a
abbrev cN (S:`N)(o:Int):Int:=(S.getD o.toNat dA).within
def Ar (S:`N)(n:Int)(kd:Str)(a:Int):Prop:=∃k:Nat,X8 (cN S) k (cN S n)=a/\(∀j,j<=k->0<=X8 (cN S) j (cN S n)/\X8 (cN S) j (cN S n)<(S.length:Int))/\(∀j,j<k->aT S (X8 (cN S) j (cN S n))≠kd)/\aT S a=kd
inductive fq (S:`N) (F:Rt) (n:Int):Rl->Prop
 | row {c:Int} (h:aT S n="if"∨aT S n="while") (hc:bb F n∣c):fq S F n [n+1,c+1]
 | els {c:Int} (h:aT S n="else") (hc:bb F n∣c):fq S F n [c]
 | lev {a c:Int} (h:aT S n="leave") (ha:Ar S n "while" a) (hc:bb F a∣c):fq S F n [c+1]
 | bck {a c:Int} (h:aT S n="back") (ha:Ar S n "part" a) (hc:bb F a∣c):fq S F n [c]
 | enw (h:aT S n="end") (h0:0<=cN S n) (h1:cN S n<(S.length:Int)) (hk:aT S (cN S n)="while"):fq S F n [cN S n]
 | enp (h:aT S n="end") (h0:0<=cN S n) (h1:cN S n<(S.length:Int)) (hk:aT S (cN S n)="part"):fq S F n []
 | ene (h:aT S n="end") (h0:0<=cN S n) (h1:cN S n<(S.length:Int)) (hk:aT S (cN S n)="else"):fq S F n [n+1]
 | ZX (h:aT S n="part"∨aT S n="do"∨aT S n="call"):fq S F n [n+1]
abbrev Qk:Stmt:=top qU
abbrev nCS:Rm:=["steps","closing","number","step"]
def KI (C:Addr):dc:=λK ps T=>∃S:List aH,ps=[⟨ae (bL C),S⟩]/\S.length<=1000/\T=cP K jz (· =eW S)
theorem Of (M:cb K mg)(M2:mj K mg)(HC:bM K C ju)(Df:Def K mg "closing_steps" Qk ["steps"]):aE P w K mg base "closing_steps" 1 (aQ (KI C) K):=by
 refine bO (N:=nCS) Df `n;let⟨S,rfl,hl,rfl⟩:=hS;refine ai (pV 1 ?_);refine bA (N1:=λZ=>∃e2 e3,Z=[.im (ae (bL C)) S,.di (cG (eW S)),e2,e3]) (bN (λi Z=>∃e2 e3,Z=[.im (ae (bL C)) S,.di (cG (((nums S).take i).foldl g9 [])),e2,e3]) (i6 M.enumerate `e) (d9 2 3) ⟨_,_,rfl⟩ (λi z Z hz hΓ=>?_) `W) ?_
 ·let⟨e2,e3,rfl⟩:=hΓ;let⟨n,st⟩:=z;let fl:=KN S i;let il:i<S.length:=by have:=(RP.mp hz).1;rwa [cL] at this
  let YT:((nums S).take (i+1)).foldl g9 []=g9 (((nums S).take i).foldl g9 []) (n,st):=by rw[SG,hz,S8];rfl
  rw[YT];generalize ((nums S).take i).foldl g9 []=Fd at fl;change WS _ _ [.im (ae (bL C)) S,.di (cG Fd),aA n,.im (bL C) st] _ _;refine aj (a9 (ay lY (iy (C:=C) HC `p) (iF M2.XI)) (λh=>?_) (λh=>aF ⟨aA n,.im (bL C) st,?_⟩))
  ·let h:st.kind∈XI:=Xw h;refine aj (rR 1 (ru hr) (sN (C:=C) HC `p) `r rfl (Uo (show _<=1000 by cbv) `c) ⟨aA n,.im (bL C) st,?_⟩);unfold g9;rw[Xv h];rfl
  ·let h:¬st.kind∈XI:=Xx h;unfold g9;rw[Xu h]
 ·let⟨e2,e3,rfl⟩:=hΓ;refine⟨e2,e3,?_⟩;rw[SK];rfl
 rintro _ ⟨e2,e3,rfl⟩;exact aj (y6 1 rfl rfl)
abbrev PK:Stmt:=top C8
abbrev nAR:Rm:=["steps","number","kind","found"]
def P4 (C:Addr):dc:=λK ps T=>∃(S:`N)(n a:Int)(kd:Str),ps=[⟨ae (bL C),S⟩,⟨ag,n⟩,⟨aq,kd⟩]/\0<=n/\n<(S.length:Int)/\Ar S n kd a/\T=cP K ag (· =a)
theorem Og (HC:bM K C ju)(Df:Def K mg "around" PK ["steps","number","kind"]):aE P w K mg base "around" 1 (aQ (P4 C) K):=by
 refine bO (N:=nAR) Df `n;let⟨S,n,a,kd,rfl,n0,n1,⟨k,ha,YU,XS,hk⟩,rfl⟩:=hS;refine ai (ba 3 (y:=cN S n) (sN (C:=C) HC (aL `e `g (a7 (xs:=S) (i:=n) dA n0 n1))) ?_);refine bA (N1:=λZ=>Z=[.im (ae (bL C)) S,aA n,.im aq kd,aA a]) (jA (λm Z=>∃i,m+i=k/\Z=[.im (ae (bL C)) S,aA n,.im aq kd,aA (X8 (cN S) i (cN S n))]) (m0:=k) ⟨0,rfl,rfl⟩ (λm Z hI=>?_)) ?_
 ·let⟨i,hi,rfl⟩:=hI;let⟨o0,o1⟩:=YU i `a;let hs:X8 (cN S) (i+1) (cN S n)=cN S (X8 (cN S) i (cN S n)):=rfl;let hne':=XS i;let hki:i=k->aT S (X8 (cN S) i (cN S n))=kd/\X8 (cN S) i (cN S n)=a:=λe=>by rw[e,ha];exact⟨hk,rfl⟩
  generalize X8 (cN S) i (cN S n)=o at o0 o1 hs hne' hki;refine⟨!decide (aT S o=kd),_,ay vC (iy (C:=C) HC (aL `e `p (a7 (xs:=S) (i:=o) dA o0 o1))) `r,λh=>?_,λh=>?_⟩
  ·let h:¬aT S o=kd:= ~~~h
   let ik:i<k:=by
    obtain z | z:=Ut i k
    ·exact z
    ·exact Xt (hki `a).1 h
   exact aj (ba 3 (sN (C:=C) HC (aL `e `p (a7 (xs:=S) (i:=o) dA o0 o1))) ⟨m-1,`a,i+1,`a,by rw[hs];rfl⟩)
  ·let h:aT S o=kd:= ~~~h
   let ik:i=k:=by
    obtain z | z:=Ut i k
    ·exact Xt h (hne' z)
    ·cbv
   rw[(hki ik).2]
 rintro _ rfl;exact aj (aU `p rfl)
abbrev Qh:Stmt:=top vt
abbrev nLF:Rm:=["steps","closing","number","kind","ended"]
abbrev pLF:Rm:=["steps","closing","number"]
def Qo (C:Addr):dc:=λK ps T=>∃(S:`N)(F:Rt)(n:Int)(ls:Rl),ps=[⟨ae (bL C),S⟩,⟨jz,F⟩,⟨ag,n⟩]/\0<=n/\n<(S.length:Int)/\fq S F n ls/\T=cP K (ae ag) (· =ls)
noncomputable def BO (S:`N)(n:Int):Str:=if aT S n="end" then aT S (cN S n) else ""
theorem Oz (HC:bM K C ju)(CA:aE P w K mg base "around" 1 (aQ (P4 C) K))(Df:Def K mg "leads_from" Qh pLF):aE P w K mg base "leads_from" 2 (aQ (Qo C) K):=by
 refine bO (N:=nLF) Df `n;let⟨S,Fd,n,ls,rfl,n0,n1,hL,rfl⟩:=hS;let hu:=ru hr;let Ym:bP S n∣S.getD n.toNat dA:=a7 (xs:=S) (i:=n) dA n0 n1;let hen:aT S n="end"->0<=cN S n/\cN S n<(S.length:Int):=λh=>by
  cases hL with
  | row g hc=>rcases g with g | g<;>rw[g] at h<;>exact Xt h `b
  | els g hc=>rw[g] at h;exact Xt h `b
  | lev g ha hc=>rw[g] at h;exact Xt h `b
  | bck g ha hc=>rw[g] at h;exact Xt h `b
  | enw g h0 h1 hk=>exact⟨h0,h1⟩
  | enp g h0 h1 hk=>exact⟨h0,h1⟩
  | ene g h0 h1 hk=>exact⟨h0,h1⟩
  | ZX g=>rcases g with g | g | g<;>rw[g] at h<;>exact Xt h `b
 refine ai (ba 3 (y:=aT S n) (iy (C:=C) HC (aL `e `r Ym)) ?_);refine ai (ba 4 (y:=BO S n) (EV.cast (lU (x:=aT S (cN S n)) (ay cq `p aB) (λh=>iy (C:=C) HC (aL `e (sN (C:=C) HC (aL `e `r Ym)) (a7 (xs:=S) (i:=cN S n) dA (hen (Xw h)).1 (hen (Xw h)).2))) (λ_=>aB)) (by unfold BO;by_cases h:aT S n="end"<;>simp[h])) ?_)
 let en0:aT S n≠"end"->BO S n="":=λh=>Xu h;let en1:aT S n="end"->BO S n=aT S (cN S n):=λh=>Xv h;generalize hE:BO S n=ed at en0 en1;let one_le:(1:Nat)<=UZ:=`c
 refine ai (a9 (ay lY `p (Ak (xs:=["if","while"]) (ak (EV.pS aB) (ak (EV.pS aB) aK)) (by show 2<=UZ;decide))) (λh=>?_) `J)
 ·let h:aT S n∈(["if","while"]:Rm):=Xw h;cases hL with
  | row g hc=>exact aj (aU (aZ.im (aN (r:=ag) (ak (bY `r ev_int) (ak (bY (jn hu `g `r hc) ev_int) aK)) (by show 2<=UZ;decide))) rfl)
  | els g hc=>rw[g] at h;exact Xt h `b
  | lev g ha hc=>rw[g] at h;exact Xt h `b
  | bck g ha hc=>rw[g] at h;exact Xt h `b
  | enw g h0 h1 hk=>rw[g] at h;exact Xt h `b
  | enp g h0 h1 hk=>rw[g] at h;exact Xt h `b
  | ene g h0 h1 hk=>rw[g] at h;exact Xt h `b
  | ZX g=>rcases g with g | g | g<;>rw[g] at h<;>exact Xt h `b
 let h1:¬aT S n∈(["if","while"]:Rm):=Xx h;refine ai (a9 (ay cq `p aB) (λh=>?_) `J)
 ·let h:aT S n="else":=Xw h;cases hL with
  | row g hc=>rcases g with g | g<;>rw[g] at h<;>exact Xt h `b
  | els g hc=>exact aj (aU (aZ.im (aN (r:=ag) (ak (jn hu `g `r hc) aK) one_le)) rfl)
  | lev g ha hc=>rw[g] at h;exact Xt h `b
  | bck g ha hc=>rw[g] at h;exact Xt h `b
  | enw g h0 h1 hk=>rw[g] at h;exact Xt h `b
  | enp g h0 h1 hk=>rw[g] at h;exact Xt h `b
  | ene g h0 h1 hk=>rw[g] at h;exact Xt h `b
  | ZX g=>rcases g with g | g | g<;>rw[g] at h<;>exact Xt h `b
 let h2:¬aT S n="else":=Xx h;refine ai (a9 (ay cq `p aB) (λh=>?_) `J)
 ·let h:aT S n="leave":=Xw h;cases hL with
  | row g hc=>rcases g with g | g<;>rw[g] at h<;>exact Xt h `b
  | els g hc=>rw[g] at h;exact Xt h `b
  | lev g ha hc=>exact aj (aU (aZ.im (aN (r:=ag) (ak (bY (jn hu `g (aJ CA hr (ah `e (ah `r (ah aB ax))) ⟨S,n,_,_,rfl,n0,n1,ha,rfl⟩) hc) ev_int) aK) one_le)) rfl)
  | bck g ha hc=>rw[g] at h;exact Xt h `b
  | enw g h0 h1 hk=>rw[g] at h;exact Xt h `b
  | enp g h0 h1 hk=>rw[g] at h;exact Xt h `b
  | ene g h0 h1 hk=>rw[g] at h;exact Xt h `b
  | ZX g=>rcases g with g | g | g<;>rw[g] at h<;>exact Xt h `b
 let h3:¬aT S n="leave":=Xx h;refine ai (a9 (ay cq `p aB) (λh=>?_) `J)
 ·let h:aT S n="back":=Xw h;cases hL with
  | row g hc=>rcases g with g | g<;>rw[g] at h<;>exact Xt h `b
  | els g hc=>rw[g] at h;exact Xt h `b
  | lev g ha hc=>rw[g] at h;exact Xt h `b
  | bck g ha hc=>exact aj (aU (aZ.im (aN (r:=ag) (ak (jn hu `g (aJ CA hr (ah `e (ah `r (ah aB ax))) ⟨S,n,_,_,rfl,n0,n1,ha,rfl⟩) hc) aK) one_le)) rfl)
  | enw g h0 h1 hk=>rw[g] at h;exact Xt h `b
  | enp g h0 h1 hk=>rw[g] at h;exact Xt h `b
  | ene g h0 h1 hk=>rw[g] at h;exact Xt h `b
  | ZX g=>rcases g with g | g | g<;>rw[g] at h<;>exact Xt h `b
 let h4:¬aT S n="back":=Xx h;let ZQ:∀{k:Str},k≠""->aT S n≠"end"->ed≠k:=λhk h z=>hk (by rw[← z,en0 h]);refine ai (a9 (ay cq `T aB) (λh=>?_) `J)
 ·let h:ed="while":=Xw h;cases hL with
  | row g hc=>exact Xt h (ZQ `b (by rcases g with g | g<;>rw[g]<;>decide +kernel))
  | els g hc=>exact Xt g h2
  | lev g ha hc=>exact Xt g h3
  | bck g ha hc=>exact Xt g h4
  | enw g h0 h1 hk=>exact aj (aU (aZ.im (aN (r:=ag) (ak (sN (C:=C) HC (aL `e `r Ym)) aK) one_le)) rfl)
  | enp g h0 h1 hk=>rw[en1 g,hk] at h;exact Xt h `b
  | ene g h0 h1 hk=>rw[en1 g,hk] at h;exact Xt h `b
  | ZX g=>exact Xt h (ZQ `b (by rcases g with g | g | g<;>rw[g]<;>decide +kernel))
 let h5:¬ed="while":=Xx h;cases hL with
 | row g hc=>exact Xt (by rcases g with g | g<;>rw[g]<;>decide +kernel) h1
 | els g hc=>exact Xt g h2
 | lev g ha hc=>exact Xt g h3
 | bck g ha hc=>exact Xt g h4
 | enw g h0 h1 hk=>exact Xt ((en1 g).trans hk) h5
 | enp g h0 h1 hk=>
   let e:ed="part":=(en1 g).trans hk;exact aj (aU (y:=([]:Rl)) (EV.cast (lU (y:=([]:Rl)) (ay cq `T aB) (λ_=>aZ.im (aN (r:=ag) aK (Ul _))) (λh=>Xt e (Xx h))) (by split<;>rfl)) rfl)
 | ene g h0 h1 hk=>
   let e:ed≠"part":=by rw[en1 g,hk];decide +kernel
   exact aj (aU (y:=[n+1]) (EV.cast (lU (x:=[n+1]) (ay cq `T aB) (λh=>Xt (Xw h) e) (λ_=>aZ.im (aN (r:=ag) (ak (bY `r ev_int) aK) one_le))) (by split<;>rfl)) rfl)
 | ZX g=>
   let e:ed≠"part":=ZQ `b (by rcases g with g | g | g<;>rw[g]<;>decide +kernel)
   exact aj (aU (y:=[n+1]) (EV.cast (lU (x:=[n+1]) (ay cq `T aB) (λh=>Xt (Xw h) e) (λ_=>aZ.im (aN (r:=ag) (ak (bY `r ev_int) aK) one_le))) (by split<;>rfl)) rfl)
abbrev J2:Stmt:=top yA
abbrev OR:Rm:=["steps","closing"]
def Am (S:`N)(Ld:List Rl):Prop:=Ld.length=S.length/\∀n:Nat,n<S.length->fq S (eW S) (n:Int) (Ld.getD n [])
def P8 (C:Addr):dc:=λK ps T=>∃(S:`N)(Ld:List Rl),ps=[⟨ae (bL C),S⟩]/\S.length<=1000/\Am S Ld/\T=cP K `au (· =Ld)
theorem EW (Ld:List Rl):((ups 0 Ld.length).filter λ_=>true).map (λn=>Ld.getD n.toNat [])=Ld:=by
 rw[SE.mpr λ_ _=>rfl];refine SV λi=>?_;unfold ups;rw[R6,R6];obtain h | h:=Ut i Ld.length
 ·rw[SU h,RQ h];show some (Ld.getD (0+(i:Int)).toNat [])=_;rw[show(0+(i:Int)).toNat=i by cbv,RR,RQ h];rfl
 ·rw[Sr (~~~h),Sr h];rfl
theorem MH (M:cb K mg)(CC:aE P w K mg base "closing_steps" 1 (aQ (KI C) K))(CF:aE P w K mg base "leads_from" 2 (aQ (Qo C) K))(Df:Def K mg "leads_in" J2 ["steps"]):aE P w K mg base "leads_in" 3 (aQ (P8 C) K):=by
 let Y3:Sw [("number":Str),"steps","closing"]:=`c
 let CC:=CC.mono (show 1<=2 by decide);refine bO (N:=OR) (k:=2) Df `n;let⟨S,Ld,rfl,hl,⟨Z2,hL⟩,rfl⟩:=hS;refine ai (ba 1 (y:=eW S) (aJ CC hr (ah `e ax) ⟨S,rfl,hl,rfl⟩) ?_);change WS _ _ [.im (ae (bL C)) S,.im jz (eW S)] _ _;let cc:=EW Ld;rw[Z2] at cc;refine aj (aU (aZ.im (bV (own:=["number"]) (fr:=["steps","closing"]) (ix:=[0,1]) (ra:=ag) (rb:=ae ag) (p:=λ_=>true) (f:=λn=>Ld.getD n.toNat []) (bH (so:=ao J2) (N0:=OR) rfl rfl `Q `b) (dy M.range (da M.len `e) ⟨`a,`a⟩)
  `F (λx=>⟨.inr rfl,.inl rfl,.inl rfl,trivial⟩) (λC s H ex c hc=>dv) (λC' s H ex o ho _=>?_))) ?_)
 ·let⟨i,hi⟩:=Sh.mp ho;let⟨il,rfl⟩:=eQ hi;let il:i<S.length:=`a
  have:=hL i il;rw[show(i:Int)=0+(i:Int) by cbv] at this;exact aJ CF hr (ah `g (ah `r (ah `e ax))) ⟨S,eW S,0+(i:Int),_,rfl,`a,`a,by rw[show(0+(i:Int)).toNat=i by cbv];exact this,rfl⟩
 ·rw[show((S.length:Int)).toNat=S.length by cbv];exact cc
abbrev KH:Stmt:=top yB
abbrev P0:Rm:=["steps","closing"]
abbrev ic:=Str×Int×Int
def og (p:ic):PV:=.tup [.str p.1,.int p.2.1,.int p.2.2]
def Mf (z:Int×aH):Bool:=decide (z.2.kind="part")
def K4 (S:`N)(z:Int×aH):ic:=(z.2.name,z.1,(bb (eW S) z.1).getD 0)
noncomputable def c5 (S:`N):List ic:=((nums S).filter Mf).map (K4 S)
noncomputable def Qd (C:Addr):dc:=λK ps T=>∃S:List aH,ps=[⟨ae (bL C),S⟩]/\S.length<=1000/\(∀n:Nat,n<S.length->aT S (n:Int)="part"->(bb (eW S) (n:Int)).isSome)/\T=cP K (ae au) (· =(c5 S).map og)
theorem pO {z:Int×aH}(h:z∈nums S):∃n:Nat,n<S.length/\z.1=(n:Int)/\S.getD n dA=z.2:=by
 let⟨i,hi⟩:=Sh.mp h;let⟨e1,e2⟩:=fD hi;exact⟨i,(RP.mp e2).1,e1,by rw[RR,e2];rfl⟩
theorem OB (M:cb K mg)(HC:bM K C ju)(CC:aE P w K mg base "closing_steps" 1 (aQ (KI C) K))(Df:Def K mg "parts_in" KH ["steps"]):aE P w K mg base "parts_in" 2 (aQ (Qd C) K):=by
 let Y3:Sw [("number":Str),"step","closing"]:=`c
 refine bO (N:=P0) (k:=1) Df `n;let⟨S,rfl,hl,hp,rfl⟩:=hS;refine ai (ba 1 (y:=eW S) (aJ CC hr (ah `e ax) ⟨S,rfl,hl,rfl⟩) ?_);refine aj (aU (aZ.im (bV (own:=["number","step"]) (fr:=["closing"]) (ix:=[1]) (ra:=cz ag (bL C)) (rb:=au) (p:=Mf) (f:=λz=>og (K4 S z)) (bH (so:=ao KH) (N0:=P0) rfl rfl `Q `b) (i6 M.enumerate `e)
  (λC s H ex=>d9 0 1) (λx=>⟨.inr rfl,.inr rfl,.inl rfl,trivial⟩) (λC' s H ex z hz=>?_) (λC' s H ex z hz hpz=>?_))) ?_)
 ·exact hU (ay cq (iy (C:=C) HC `g) aB)
 ·let⟨n,nl,e1,e2⟩:=pO hz;let hk:aT S (n:Int)="part":=by
   unfold aT;rw[show((n:Nat):Int).toNat=n by cbv,e2];exact Xw hpz
  let hs:=hp n nl hk;rw[← e1] at hs;let hc:bb (eW S) z.1∣((bb (eW S) z.1).getD 0):=by
   cases q:bb (eW S) z.1 with
   | none=>rw[q] at hs;cases hs
   | some c=>rfl
  exact fR (ak (EV.pS (rT (C:=C) HC `g)) (ak (EV.pI `e) (ak (EV.pI (jn (ru hr) `r `e hc)) aK))) (by show 3<=UZ;decide)
 ·unfold c5;rw[S0];rfl
abbrev dF:List (Str×Rm):=[("do",["do"]),("call",["call"]),("if",["yes","no"]),("while",["yes","no"])]
def aW (k:Str):Bool:=(cM dF k).isSome
noncomputable def rO (S:`N)(Ld:List Rl)(td:Rl)(n:Int):Rl:=
 if(Ld.getD n.toNat []).isEmpty=false/\aW (aT S n)=false then td.set n.toNat (td.getD ((Ld.getD n.toNat []).getD 0 0).toNat 0) else td
variable {Ld:List Rl}
theorem Hm {td:Rl}{n:Int}:(rO S Ld td n).length=td.length:=by
 unfold rO;split
 ·rw[SF]
 ·rfl
noncomputable def Zq (S:`N)(Ld:List Rl)(i:Nat):Rl:=((downs ((S.length:Int)-1) S.length).take i).foldl (rO S Ld) (ups 0 S.length)
theorem lj (h:i<S.length):Zq S Ld (i+1)=rO S Ld (Zq S Ld i) ((S.length:Int)-1-(i:Int)):=by
 let hd:(downs ((S.length:Int)-1) S.length)[i]?∣((S.length:Int)-1-(i:Int)):=by
  unfold downs;rw[R6,SU h];rfl
 unfold Zq;rw[SG,hd,S8];rfl
theorem kQ {S:`N}{Ld:List Rl}:∀i,i<=S.length->(Zq S Ld i).length=S.length
 | 0,_=>bp _ _
 | i+1,h=>by rw[lj h,Hm];exact kQ i `a
abbrev aX (S:`N)(Ld:List Rl):Rl:=Zq S Ld S.length
def vM (S:`N)(Ld:List Rl):Prop:=Ld.length=S.length/\∀ls∈Ld,∀l∈ls,0<=l/\l<(S.length:Int)
abbrev Pu:Stmt:=top yp
abbrev nST:Rm:=["steps","leads","told","number"]
def Qj (C:Addr):dc:=λK ps T=>∃(S:`N)(Ld:List Rl),ps=[⟨ae (bL C),S⟩,⟨ae (ae ag),Ld⟩]/\S.length<=1000/\vM S Ld/\T=cP K (ae ag) (· =aX S Ld)
theorem OD (M:cb K mg)(HC:bM K C ju)(RW:nI P w K mg "ROW_WORDS" dF)(Df:Def K mg "stands_in" Pu ["steps","leads"]):aE P w K mg base "stands_in" 1 (aQ (Qj C) K):=by
 refine bO (N:=nST) Df `n;let⟨S,Ld,rfl,hl,⟨Z2,YU⟩,rfl⟩:=hS;change WS _ _ [.im (ae (bL C)) S,.im `au Ld,.no,.no] _ _;refine ai (cD 2 (r:=ag) (ys:=ups 0 S.length) (aZ.cst (vg M.list M.range (da M.len `e) ⟨`a,`a⟩) (by rw[show((S.length:Int)).toNat=S.length by cbv])) ?_);refine bA (N1:=λZ=>∃e3,Z=[.im (ae (bL C)) S,.im `au Ld,.mu ag `ak,e3]) (bN (λi Z=>∃e3,Z=[.im (ae (bL C)) S,.im `au Ld,.mu ag (Zq S Ld i),e3]) (B7 M.range (ah (gP (da M.len `e) ev_int) (ah `ag (ah `ag ax))) ⟨`a,`a,`a,`a⟩) (aY 3) ⟨_,rfl⟩ (λi n Z hn hΓ=>?_) `W) ?_
 ·let⟨e3,rfl⟩:=hΓ;let⟨il,rfl⟩:=xS hn;let il:i<S.length:=`a
  rw[lj il];let tl:=kQ (S:=S) (Ld:=Ld) i `a;generalize Zq S Ld i=td at tl;generalize hnn:(S.length:Int)-1-(i:Int)=n;let n0:0<=n:=`a
  let n1:n<(S.length:Int):=`a
  change WS _ _ [.im (ae (bL C)) S,.im `au Ld,.mu ag td,aA n] _ _;let Ym:bP Ld n∣(Ld.getD n.toNat []):=a7 (xs:=Ld) (i:=n) [] n0 `a;let Zy:Ld.getD n.toNat []∈Ld:=by
   rw[RR,RQ (show n.toNat<Ld.length by cbv)];exact SD _
  refine aj (a9 (TW.tv (cZ (xK (aL `g `p Ym)) (λ_=>eL (DJ RW (iy (C:=C) HC (aL `e `p (a7 (xs:=S) (i:=n) dA n0 n1))))))) (λh=>?_) (λh=>aF ⟨aA n,?_⟩))
  ·let h:(Ld.getD n.toNat []).isEmpty=false/\aW (aT S n)=false:=by simpa[aW,aT] using h
   let hls:=YU _ Zy;obtain⟨l,r,hlr⟩:∃l r,Ld.getD n.toNat []=l::r:=by
    cases e:Ld.getD n.toNat [] with
    | nil=>rw[e] at h;exact Xt h.1 `c
    | cons l r=>exact⟨l,r,rfl⟩
   let e0:(Ld.getD n.toNat []).getD 0 0=l:=by rw[hlr];rfl
   let hl0:bP (Ld.getD n.toNat []) 0∣l:=by rw[hlr,gm `c `d];rfl
   let⟨l0,l1⟩:=hls l (by rw[hlr];exact RZ);refine aj (Ia 2 (y:=td.getD l.toNat 0) (j:=n.toNat) (oV 2 (aL (aL `g `p Ym) ev_int hl0) rfl rfl (a7 (xs:=td) (i:=l) 0 l0 `a)) `p rfl rfl (xU n0 `a) ⟨aA n,?_⟩);unfold rO;rw[Xv h,e0];rfl
  ·let h:¬((Ld.getD n.toNat []).isEmpty=false/\aW (aT S n)=false):=by
    intro z;unfold aW at z;unfold aT at z;rw[z.1,z.2] at h;exact Xt h `c
   unfold rO;rw[Xu h]
 ·let⟨e3,rfl⟩:=hΓ;rw[jm,show((S.length:Int)-1 - -1).toNat=S.length by cbv];exact⟨e3,rfl⟩
 rintro _ ⟨e3,rfl⟩;refine WS.freeze 2 rfl (aM (by rw[kQ S.length (Uk _)];cbv)) ?_;exact aj (aU `r rfl)
abbrev Rw:=Int×Int×Str×Str
def jV (r:Rw):PV:=.tup [.int r.1,.int r.2.1,.str r.2.2.1,.str r.2.2.2]
def jU (Ld:List Rl)(z:Int×aH):List (Str×Int):=((cM dF z.2.kind).getD []).zip (Ld.getD z.1.toNat [])
def rQ (St:Rl)(z:Int×aH)(y:Str×Int):Rw:=(z.1,St.getD y.2.toNat 0,y.1,z.2.name)
noncomputable def dX (Ld:List Rl)(St:Rl)(z:Int×aH):List Rw:=(jU Ld z).map (rQ St z)
noncomputable def gc (S:`N)(Ld:List Rl)(St:Rl):List Rw:=(nums S).flatMap (dX Ld St)
theorem yX (Ld:List Rl)(z:Int×aH):(jU Ld z).length<=2:=by
 unfold jU;rw[Tv];refine Um (Uz _ _) ?_;unfold cM;split
 ·decide
 unfold cM;split
 ·decide
 unfold cM;split
 ·decide
 unfold cM;split
 ·decide
 ·exact Ul _
theorem qN {α β:Type}{f:α->List β}{n:Nat}(h:∀x,(f x).length<=n):∀xs:List α,(xs.flatMap f).length<=n*xs.length
 | []=>Ul _
 | x::xs=>by
   rw[S6,RY,Sb,Nat.mul_succ];have:=h x;have:=qN h xs;cbv
theorem tE (Ld:List Rl)(St:Rl)(z:Int×aH):(dX Ld St z).length<=2:=by unfold dX;rw[RS];exact yX Ld z
abbrev OY:Stmt:=top Az
abbrev nRI:Rm:=["steps","leads","stands","told","number","step","word","lead"]
abbrev pRI:Rm:=["steps","leads","stands"]
noncomputable def Px (C:Addr):dc:=λK ps T=>∃(S:`N)(Ld:List Rl)(St:Rl),ps=[⟨ae (bL C),S⟩,⟨ae (ae ag),Ld⟩,⟨ae ag,St⟩]/\S.length<=1000/\vM S Ld/\St.length=S.length/\T=cP K (ae au) (· =(gc S Ld St).map jV)
theorem MG (M:cb K mg)(HC:bM K C ju)(RW:nI P w K mg "ROW_WORDS" dF)(Df:Def K mg "rows_in" OY pRI):aE P w K mg base "rows_in" 1 (aQ (Px C) K):=by
 refine bO (N:=nRI) Df `n;let⟨S,Ld,St,rfl,hl,⟨Z2,YU⟩,hst,rfl⟩:=hS;change WS _ _ [.im (ae (bL C)) S,.im `au Ld,dR St,.no,.no,.no,.no,.no] _ _;refine ai (cD 3 (r:=au) (ys:=[]) `aq ?_);refine bA (N1:=λZ=>∃e4 e5 e6 e7,Z=[.im (ae (bL C)) S,.im `au Ld,dR St,.mu au ((gc S Ld St).map jV),e4,e5,e6,e7]) (bN (λi Z=>∃e4 e5 e6 e7,Z=[.im (ae (bL C)) S,.im `au Ld,dR St,.mu au ((((nums S).take i).flatMap (dX Ld St)).map jV),e4,e5,e6,e7]) (i6 M.enumerate `e) (d9 4 5) ⟨_,_,_,_,rfl⟩ (λi z Z hz hΓ=>?_) `W) ?_
 ·let⟨e4,e5,e6,e7,rfl⟩:=hΓ;let⟨n,nl,e1,e2⟩:=pO (R7 hz);let il:i<S.length:=by have:=(RP.mp hz).1;rwa [cL] at this
  let fl:=qN (tE Ld St) ((nums S).take i);let hti:((nums S).take i).length<=i:=by rw[Sm];cbv
  let YT:((nums S).take (i+1)).flatMap (dX Ld St)=((nums S).take i).flatMap (dX Ld St)++dX Ld St z:=by
   rw[SG,hz,Tc];simp
  rw[YT];generalize ((nums S).take i).flatMap (dX Ld St)=rs at fl;let rl:rs.length<=2000:=`a
  let⟨zn,zs⟩:=z;dsimp only at e1 e2;subst e1;change WS _ _ [.im (ae (bL C)) S,.im `au Ld,dR St,.mu au (rs.map jV),aA (n:Int),.im (bL C) zs,e6,e7] _ _;let Ym:bP Ld (n:Int)∣(Ld.getD n []):=a7 (xs:=Ld) (i:=(n:Int)) [] `a `a;let Zy:Ld.getD n []∈Ld:=by
   rw[RR,RQ (show n<Ld.length by cbv)];exact SD _
  let hls:=YU _ Zy;let hzl:=yX Ld ((n:Int),zs);let hzz:jU Ld ((n:Int),zs)=((cM dF zs.kind).getD []).zip (Ld.getD n []):=rfl;refine aj (bN (λj Z=>∃e6 e7,Z=[.im (ae (bL C)) S,.im `au Ld,dR St,.mu au ((rs++((jU Ld ((n:Int),zs)).take j).map (rQ St ((n:Int),zs))).map jV),aA (n:Int),.im (bL C) zs,e6,e7]) (Im M.zip (HN RW (iy (C:=C) HC `aa) (Ak (xs:=[]) aK (Ul _))) (aL `g `T Ym)) (d9 6 7) ⟨e6,e7,by rw[Tr,TU,Sl]⟩ (λj y Z hy hΓ=>?_) `W)
  ·let⟨e6,e7,rfl⟩:=hΓ;rw[← hzz] at hy;let hjl:j<(jU Ld ((n:Int),zs)).length:=(RP.mp hy).1;let htj:(((jU Ld ((n:Int),zs)).take j).map (rQ St ((n:Int),zs))).length<=2:=by rw[RS,Sm];cbv
   let hnj:((jU Ld ((n:Int),zs)).take (j+1)).map (rQ St ((n:Int),zs))=((jU Ld ((n:Int),zs)).take j).map (rQ St ((n:Int),zs))++[rQ St ((n:Int),zs) y]:=by
    rw[SG,hy,Sf];rfl
   rw[hnj];let hyl:y.2∈Ld.getD n []:=by
    rw[hzz] at hy;exact(TN (R7 hy)).2
   let⟨y0,y1⟩:=hls y.2 hyl;generalize ((jU Ld ((n:Int),zs)).take j).map (rQ St ((n:Int),zs))=ts at htj;let⟨yw,yl⟩:=y;refine aj (ee 3 (y:=jV (rQ St ((n:Int),zs) (yw,yl))) (fR (ak (EV.pI `T) (ak (EV.pI (aL `r (aa 7 rfl) (a7 (xs:=St) (i:=yl) 0 y0 `a))) (ak (EV.pS `aw) (ak (EV.pS (rT (C:=C) HC `aa)) aK)))) (by show 4<=UZ;decide)) rfl rfl (Uo (show _<=3000 by rw[RS,RY];cbv) `c) ⟨.im aq yw,aA yl,?_⟩);rw[← Sj,Sf (l₁:=rs++ts)];rfl
  ·let⟨e6,e7,rfl⟩:=hΓ;refine⟨aA (n:Int),.im (bL C) zs,e6,e7,?_⟩;rw[← hzz,SK];rfl
 ·let⟨e4,e5,e6,e7,rfl⟩:=hΓ;refine⟨e4,e5,e6,e7,?_⟩;rw[SK];rfl
 rintro _ ⟨e4,e5,e6,e7,rfl⟩;let fl:=qN (tE Ld St) (nums S);rw[cL] at fl;refine WS.freeze 3 rfl (aM (by rw[RS];unfold gc;cbv)) ?_;exact aj (aU `p rfl)
structure iR where
 S:List aH
 parts:List ic
 Ld:List Rl
 St:Rl
 rows:List Rw
abbrev gE:Rm:=["steps","parts","leads","stands","rows"]
theorem dY (h:decide (x∈gE)=true):x∈gE:=Xw h
noncomputable def OU (C:Addr)(s:iR):lN:=[("steps",(ae (bL C)).at_ s.S),("parts",(ae au).at_ (s.parts.map og)),("leads",(ae (ae ag)).at_ s.Ld),("stands",(ae ag).at_ s.St),("rows",(ae au).at_ (s.rows.map jV))]
def cY (C D:Addr):Rep iR:=⟨λK R v s=>∃x dx vs,v= .ref x/\R x∣.ins D dx vs/\hJ (OU C s) K R vs,λs ⟨x,dx,vs,e,h1,h2⟩=>⟨x,dx,vs,e,s _ _ h1,h2.mono s⟩⟩
variable {D:Addr}
section
variable {s:iR}
theorem AO (hC:bM X.K D gE)(he:EV X e Z (cY C D) s Γ1)(hb:eX X e "steps":=by rfl):EV X (.Attribute e "steps" pos) Z (ae (bL C)) s.S Γ1:=kI hC (dY `c) he (λK R v ⟨x,dx,vs,e,h1,h2⟩=>by let⟨u,q1,q2⟩:=h2.get (f:="steps") rfl;exact⟨x,dx,vs,u,e,h1,q1,q2⟩) hb
theorem jf (hC:bM X.K D gE)(he:EV X e Z (cY C D) s Γ1)(hb:eX X e "parts":=by rfl):EV X (.Attribute e "parts" pos) Z (ae au) (s.parts.map og) Γ1:=kI hC (dY `c) he (λK R v ⟨x,dx,vs,e,h1,h2⟩=>by let⟨u,q1,q2⟩:=h2.get (f:="parts") rfl;exact⟨x,dx,vs,u,e,h1,q1,q2⟩) hb
theorem Oc (hC:bM X.K D gE)(he:EV X e Z (cY C D) s Γ1)(hb:eX X e "leads":=by rfl):EV X (.Attribute e "leads" pos) Z `au s.Ld Γ1:=kI hC (dY `c) he (λK R v ⟨x,dx,vs,e,h1,h2⟩=>by let⟨u,q1,q2⟩:=h2.get (f:="leads") rfl;exact⟨x,dx,vs,u,e,h1,q1,q2⟩) hb
theorem Nj (hC:bM X.K D gE)(he:EV X e Z (cY C D) s Γ1)(hb:eX X e "stands":=by rfl):EV X (.Attribute e "stands" pos) Z (ae ag) s.St Γ1:=kI hC (dY `c) he (λK R v ⟨x,dx,vs,e,h1,h2⟩=>by let⟨u,q1,q2⟩:=h2.get (f:="stands") rfl;exact⟨x,dx,vs,u,e,h1,q1,q2⟩) hb
theorem vE (hC:bM X.K D gE)(he:EV X e Z (cY C D) s Γ1)(hb:eX X e "rows":=by rfl):EV X (.Attribute e "rows" pos) Z (ae au) (s.rows.map jV) Γ1:=kI hC (dY `c) he (λK R v ⟨x,dx,vs,e,h1,h2⟩=>by let⟨u,q1,q2⟩:=h2.get (f:="rows") rfl;exact⟨x,dx,vs,u,e,h1,q1,q2⟩) hb
end
structure qE (S:`N)(Ld:List Rl):Prop where
 l:S.length<=240
 ld:Am S Ld
 li:vM S Ld
 pt:∀n:Nat,n<S.length->aT S (n:Int)="part"->(bb (eW S) (n:Int)).isSome
def X0 (S:`N)(Ld:List Rl):iR:=⟨S,c5 S,Ld,aX S Ld,gc S Ld `ak⟩
def uB (x:Str)(S:`N):Prop:=∃(ws:Rm)(n:Nat),x=WW " " ws/\ws≠[]/\ws.length<=240/\(∀w∈ws,g6 w)/\ig ws n ⟨[],[],0⟩ ⟨S,[],ws.length⟩
abbrev u5:Stmt:=match top EI with
 | .ClassDef _ _ _ b _ _ _ _ _ _ _=>b.getD 0 (.Pass ⟨0,0,0,0⟩)
 | s=>s
abbrev ym:Rm:=["self","text"]
theorem ME:bE ym ym (ao u5):=YV
def O6 (C D0:Addr):Cf:=λK D ps Pd=>D=D0/\∃(x:Str)(S:`N)(Ld:List Rl),ps=[⟨aq,x⟩]/\uB x S/\qE S Ld/\Pd=λfs=>fs=OU C (X0 S Ld)
theorem ND (HD:bM K D gE)(CR:aE P w K mg base "read" 3 (aQ (Pp C) K))(CP:aE P w K mg base "parts_in" 2 (aQ (Qd C) K))(CL:aE P w K mg base "leads_in" 3 (aQ (P8 C) K))(CS:aE P w K mg base "stands_in" 1 (aQ (Qj C) K))(CW:aE P w K mg base "rows_in" 1 (aQ (Px C) K))(F:dI K "__init__" "Spots.__init__" u5 f fd):fb P w K mg base eo 4 f fd ym (zc (O6 C D) K):=by
 let nd:=ME.nd;let CP:=CP.mono (show 2<=3 by decide);let CS:=CS.mono (show 1<=3 by decide);let CW:=CW.mono (show 1<=3 by decide);refine Dq (k:=3) F ME (λD qs Pd ⟨_,_,_,_,e,_⟩=>by rw[e];rfl) (λXH A outer st H E D' x dx qs Pd hr hS=>?_);let⟨rfl,tx,S,Ld,rfl,⟨ws,n,et,XS,hl,hw,hsim⟩,hOk,rfl⟩:=hS;let Zs:S.length<=1000:=by have:=hOk.l;cbv
 refine ai (jd 0 HD (dY `c) (aJ (y:=S) (r:=ae (bL C)) CR hr (ah `g ax) ⟨ws,n,S,by rw[et],XS,hl,hw,hsim,rfl⟩) rfl rfl (by show 0<1000;decide) ?_);refine ai (jd 0 HD (dY `c) (aJ CP hr (ah (nU 0 HD (dY `c) rfl rfl) ax) ⟨S,rfl,Zs,hOk.pt,rfl⟩) rfl rfl (by show 1<1000;decide) ?_);refine ai (jd 0 HD (dY `c) (aJ CL hr (ah (nU 0 HD (dY `c) rfl rfl) ax) ⟨S,Ld,rfl,Zs,hOk.ld,rfl⟩) rfl rfl (by show 2<1000;decide) ?_);refine ai (jd 0 HD (dY `c) (aJ CS hr (ah (nU 0 HD (dY `c) rfl rfl) (ah (nU 0 HD (dY `c) rfl rfl) ax)) ⟨S,Ld,rfl,Zs,hOk.li,rfl⟩) rfl rfl (by show 3<1000;decide) ?_);exact aj (jd 0 HD (dY `c) (aJ CW hr (ah (nU 0 HD (dY `c) rfl rfl) (ah (nU 0 HD (dY `c) rfl rfl) (ah (nU 0 HD (dY `c) rfl rfl) ax))) ⟨S,Ld,aX S Ld,rfl,Zs,hOk.li,kQ S.length (Uk _),rfl⟩) rfl rfl (by show 4<1000;decide) ⟨_,rfl,rfl⟩)
structure w8 (P:U4)(w:World)(K:W7)(mg:Rj)(base:Heap)(C D:Addr):Prop where
 cl:bM K D gE
 ex:∃fi Zo,Mk K D fi/\fb P w K mg base eo 4 fi Zo ym (zc (O6 C D) K)/\Binds K Zo ym []
 mg:mg "Spots"∣.ref D
theorem EH {p:Pos}(G:w8 X.prog X.w X.K X.mg X.base C D)(hr:bG 5 X.A)(ha:HA X [e] Z [⟨aq,x⟩] Γ1)(hx:uB x S)(hk:qE S Ld)(hg:Gl X "Spots":=by rfl)(he:dh X e []:=by rfl)(X1:fo X pos []:=by rfl):EV X (.Call (.Name "Spots" p) [e] [] pos) Z (cY C D) (X0 S Ld) Γ1:=by
 let⟨fi,Zo,MK,SI,bi⟩:=G.ex;exact zD MK SI hr G.mg bi ha ⟨rfl,x,S,Ld,rfl,hx,hk,rfl⟩ (λfs R x dx vs hP h1 h2=>by subst hP;exact⟨x,dx,vs,rfl,h2,h1⟩) hg `c he X1
theorem LH {xs:`u}(h:i<=xs.length):cut xs none (some (i:Int))=xs.take i:=by
 let e:HT.XX xs.length xs.length (some (i:Int))=i:=by
  show(if(i:Int)<0 then((i:Int)+(xs.length:Int)).toNat else min (i:Int).toNat xs.length)=i;rw[Xu `a];cbv
 unfold cut;rw[e];rfl
theorem oM {xs:`u}:cut xs (some (i:Int)) none=xs.drop i:=by
 let e:HT.XX xs.length 0 (some (i:Int))=min i xs.length:=by
  show(if(i:Int)<0 then((i:Int)+(xs.length:Int)).toNat else min (i:Int).toNat xs.length)=_;rw[Xu `a];rfl
 let e2:HT.XX xs.length xs.length none=xs.length:=rfl;unfold cut;rw[e,e2];obtain h | h:=Ut i xs.length
 ·rw[Nat.min_eq_left `a,Tg (by rw[Ts];cbv)]
 ·rw[Nat.min_eq_right h,Tt (Uk _),Tt h,take_nil]
theorem sY:∀(n:Nat)(l:Rl),l.Nodup->(∀x∈l,0<=x/\x<(n:Int))->l.length<=n
 | 0,l,_,h=>by
   cases l with
   | nil=>exact Uk _
   | cons x r=>have:=h x RZ;cbv
 | n+1,l,nd,h=>by
   by_cases q:(n:Int)∈l
   ·have:=sY n (l.erase (n:Int)) (nd.erase _) λx hx=>by
     let hm:=(nd.mem_erase_iff.mp hx);have:=h x hm.2;have:=hm.1;cbv
    rw[List.length_erase_of_mem q] at this;cbv
   ·have:=sY n l nd λx hx=>by
     have:=h x hx;have:x≠(n:Int):=λe=>q (e▸hx);cbv
    cbv
noncomputable def cT (F:Rt)(k:Int):Rt:=if(bb F k).isSome then F else F++[(k,(F.length:Int))]
def hV (p:ic)(r:Rw):Bool:=decide (p.2.1<r.1)&&decide (r.1<p.2.2)
noncomputable def eu (p:ic)(F:Rt)(r:Rw):Rt:=if hV p r then cT (cT F r.1) r.2.1 else F
noncomputable def cJ (s:iR)(p:ic):Rt:=s.rows.foldl (eu p) [(s.St.getD p.2.1.toNat 0,0),(p.2.2,1)]
def Reach (s:iR)(fd:Rl):Prop:=(∀p∈s.parts,p.2.1∈fd)/\∀n∈fd,∀l∈s.Ld.getD n.toNat [],l∈fd
structure Good (s:iR):Prop where
 l:s.S.length<=240
 pl:s.parts.length<=4
 pn:(s.parts.map (·.1)).Nodup
 pv:∀p∈s.parts,0<=p.2.1/\p.2.1<(s.S.length:Int)
 li:vM s.S s.Ld
 l2:∀ls∈s.Ld,ls.length<=2
 sl:s.St.length=s.S.length
 sn:((s.S.filter λt=>decide (t.kind=("part":Str))).map (·.name)).Nodup
 ca:∀(n:Nat)(t:aH),s.S[n]?∣t->t.kind="call"->∃(m:Nat)(u:aH),n<m/\s.S[m]?∣u/\u.kind="part"/\u.name=t.name
 ct:∀fd,Reach s fd->∀n:Nat,n<s.S.length->aT s.S (n:Int)∈X5->(n:Int)∈fd
 nc:∀p∈s.parts.drop 1,∃t∈s.S,t.kind="call"/\t.name=p.1
 eb:∀p∈s.parts,s.St.getD p.2.1.toNat 0≠p.2.2
 rl:s.rows.length<=30
 rk:∀r∈s.rows,(0<=r.1/\r.1<(s.S.length:Int))/\aT s.S r.1∈X5
 pc:∀p∈s.parts,(cJ s p).length<=16
noncomputable def wI:PV->Str
 | .tup (.str x::_)=>x
 | _=>""
theorem BP (p:ic):wI (og p)=p.1:=rfl
abbrev LL:Stmt:=top vo
def zE (C D:Addr):dc:=λK ps T=>∃s:iR,ps=[⟨cY C D,s⟩,⟨ae au,[]⟩]/\T=cP K (ae ag) (· =[])
theorem MO (Df:Def K mg "name_words" LL ["spots","parts"]):aE P w K mg base "name_words" 1 (aQ (zE C D) K):=by
 let Y3:Sw [("part":Str),"spots"]:=`c
 refine bO (N:=["spots","parts"]) Df `z;let⟨s,rfl,rfl⟩:=hS;exact aj (aU (aZ.im (bV (own:=["part"]) (fr:=["spots"]) (ix:=[0]) (ra:=au) (rb:=ag) (p:=λ_=>true) (f:=λ_=>0) (bH (so:=ao LL) (N0:=["spots","parts"]) rfl rfl `Q `b) (bI `g)
  `F `O `aj (λC' s H ex o ho _=>by cases ho))) rfl)
abbrev GH:Stmt:=top uk
abbrev JM:Rm:=["spots","names"]
def jw (C D:Addr):dc:=λK ps T=>∃s:iR,ps=[⟨cY C D,s⟩]/\Good s/\T=cP K (ae ag) (· =[])
theorem jW {β:Type}{xs:`u}{p:α->Bool}{f:α->β}(h:∀x∈xs,p x=false):(xs.filter p).map f=[]:=by
 rw[S9.mpr λx hx=>by rw[h x hx];decide];rfl
theorem IL {xs:Rm}(h:xs.Nodup)(hx:xs[i]?∣x):x∉xs.take i:=by
 intro hm;let⟨j,hj⟩:=Sh.mp hm;let⟨jl,ej⟩:=RP.mp hj;let⟨il,ei⟩:=RP.mp hx;rw[Sm] at jl;rw[List.getElem_take] at ej;have:=(T1 (h₀:=by cbv) (h₁:=il) h).mp (ej.trans ei.symm);cbv
theorem Oe (M:cb K mg)(HD:bM K D gE)(CN:`aJ)(Df:Def K mg "named_again" GH ["spots"]):aE P w K mg base "named_again" 2 `av:=by
 let Y3:Sw [("part":Str)]:=`c
 let ZM:Sw [("place":Str),"part","names"]:=`c
 refine bO (N:=JM) (k:=1) Df `z;let⟨s,rfl,hG,rfl⟩:=hS;let hnm:((s.parts.map og).filter λ_=>true).map wI=s.parts.map (·.1):=by rw[SE.mpr λ_ _=>rfl,S0];rfl
 refine ai (ba 1 (y:=s.parts.map (·.1)) (EV.cast (aZ.im (bV (own:=["part"]) (fr:=[]) (ix:=[]) (ra:=au) (rb:=aq) (p:=λ_=>true) (f:=wI) (bH (so:=ao GH) (N0:=JM) rfl rfl `Q `b) (bI (jf (C:=C) HD `e))
  `F `V `aj (λC' s H ex o ho _=>by
   let⟨p,_,rfl⟩:=Sk.mp ho;exact EV.sP (x:=p.1) (dJ `e ev_int rfl)))) hnm) ?_)
 change WS _ _ [.im (cY C D) s,.im (ae aq) (s.parts.map (·.1))] _ _;refine aj (aU (y:=([]:Rl)) (aJ CN hr (ah `e (ah (x:=([]:List PV)) (EV.cast (aZ.im (bV (own:=["place","part"]) (fr:=["names"]) (ix:=[1]) (ra:=cz ag au) (rb:=au) (p:=λz=>decide (wI z.2∈cut (s.parts.map (·.1)) none (some z.1))) (f:=λz=>z.2) (bH (so:=ao GH) (N0:=JM) rfl rfl `Q `b) (i6 M.enumerate (jf (C:=C) HD `e))
  (λC s H ex=>d9 0 1) (λx=>⟨.inr rfl,.inr rfl,.inl rfl,trivial⟩) (λC' s H ex z hz=>?_) (λC' s H ex z hz _=>aa 1 rfl))) ?_) ax)) ⟨s,rfl,rfl⟩) rfl)
 ·let⟨i,hi⟩:=Sh.mp hz;let⟨e1,e2⟩:=fD hi;rw[R6] at e2;let⟨p,_,ep⟩:=UK.mp e2;let⟨zn,zp⟩:=z;dsimp only at e1 ep;subst ep;exact hU (ay x8 (EV.sP (x:=p.1) (dJ `g ev_int rfl)) (aZ.im (jZ `r ov_none (ov_some `e))))
 ·refine jW λz hz=>?_;let⟨i,hi⟩:=Sh.mp hz;let⟨e1,e2⟩:=fD hi;rw[R6] at e2;let⟨p,hp,ep⟩:=UK.mp e2;rw[e1,← ep,BP];let il:=(RP.mp hp).1;rw[LH (by rw[RS];cbv)];exact Xz (IL hG.pn (by rw[R6,hp];rfl))
abbrev Ql:Stmt:=top rK
abbrev nCA:Rm:=["spots","found","behind","step"]
noncomputable def Yt (S:`N):Rm:=(S.filter λt=>decide (t.kind=("part":Str))).map (·.name)
theorem nk (a b:`N):Yt (a++b)=Yt a++Yt b:=by unfold Yt;rw[SH,Sf]
theorem Ki (h:(Yt S).Nodup):(Yt S.reverse).Nodup:=by
 unfold Yt at h ⊢;rw[List.filter_reverse,List.map_reverse];exact List.pairwise_reverse.mpr (h.imp λz=>UJ z)
theorem Ol (M:cb K mg)(HC:bM K C ju)(HD:bM K D gE)(Df:Def K mg "called_astray" Ql ["spots"]):aE P w K mg base "called_astray" 1 `av:=by
 refine bO (N:=nCA) Df `z;let⟨s,rfl,hG,rfl⟩:=hS;let hu:=ru hr;let hl:=hG.l;let hnd:=Ki (S:=s.S) hG.sn;refine ai (cD 1 (r:=ag) (ys:=[]) `aq ?_);refine ai (pV 2 ?_);refine WS.NI 2 rfl λa=>?_;refine bA (N1:=λZ=>∃ks e3,Z=[.im (cY C D) s,.mu ag [],.ob (sC a ks),e3]) (bN (λi Z=>∃e3,Z=[.im (cY C D) s,.mu ag [],.ob (sC a (Yt (s.S.reverse.take i))),e3]) (JR M.reversed (AO (C:=C) HD `e)) (aY 3) ⟨_,rfl⟩ (λi t Z ht hΓ=>?_) `W) ?_
 ·let⟨e3,rfl⟩:=hΓ;let il:i<s.S.length:=by have:=(RP.mp ht).1;rwa [TY] at this
  let YT:Yt (s.S.reverse.take (i+1))=Yt (s.S.reverse.take i)++Yt [t]:=by rw[SG,ht,nk];rfl
  let Ya:(Yt (s.S.reverse.take (i+1))).Nodup:=by
   have:Yt s.S.reverse=Yt (s.S.reverse.take (i+1))++Yt (s.S.reverse.drop (i+1)):=by rw[← nk,To]
   rw[this] at hnd;exact(SO.mp hnd).1
  let hkl:(Yt (s.S.reverse.take i)).length<=240:=by
   unfold Yt;rw[RS];refine Um (Tn _ _) ?_;rw[Sm];cbv
  let hcall:t.kind="call"->t.name∈Yt (s.S.reverse.take i):=λhk=>by
   rw[Ua il] at ht;let⟨m,u,hm',ZO,Zb,Z1⟩:=hG.ca _ t ht hk;let ml:=(RP.mp ZO).1;unfold Yt;refine Sk.mpr ⟨u,SJ.mpr ⟨R7 (i:=s.S.length-1-m) ?_,Xy Zb⟩,Z1⟩;rw[List.getElem?_take,Xv `a,Ua `a,show s.S.length-1-(s.S.length-1-m)=m by cbv];exact ZO
  rw[YT];generalize Yt (s.S.reverse.take i)=ks at YT hkl hcall;rw[YT] at Ya;change WS _ _ [.im (cY C D) s,.mu ag [],.ob (sC a ks),.im (bL C) t] _ _;refine bA (N1:=λZ=>Z=[.im (cY C D) s,.mu ag [],.ob (sC a (ks++Yt [t])),.im (bL C) t]) (a9 (ay cq (iy (C:=C) HC `p) aB) (λh=>?_) `J) ?_
  ·let h:t.kind="part":=Xw h;let hp:Yt [t]=[t.name]:=by unfold Yt;rw[S4 (~~~h)];rfl
   rw[hp] at Ya ⊢;refine aj (IY 2 hu (rT (C:=C) HC `p) AI rfl (λz=>?_) (Uo hkl `c) rfl);exact(SO.mp Ya).2.2 t.name z t.name (RU.mpr rfl) rfl
  ·let h:¬t.kind="part":=Xx h;let hp:Yt [t]=[]:=by unfold Yt;rw[S5 (~~~h)];rfl
   rw[hp,Sl]
  rintro _ rfl;refine aj (a9 (TW.tv (cZ (ay cq (iy (C:=C) HC `p) aB) (λ_=>eL (Fn 2 hu (rT (C:=C) HC `p) rfl)))) (λh=>?_) (λh=>aF ⟨.im (bL C) t,rfl⟩));exfalso;let⟨h1,h2⟩:=Bool.and_eq_true_iff.mp h;let h1:t.kind="call":=Xw h1;rw[Xy (Sg _ (hcall h1))] at h2;cases h2
 ·let⟨e3,rfl⟩:=hΓ;exact⟨_,e3,rfl⟩
 rintro _ ⟨ks,e3,rfl⟩;refine WS.freeze 1 rfl (Ul _) ?_;exact aj (aU `g rfl)
abbrev GQ:Stmt:=top A4
abbrev OQ:Rm:=["spots","found","waiting","number"]
theorem KJ:bE OQ ["spots"] (ao GQ):=YV
noncomputable def dT (fd:Rl):List (Int×V):=fd.map λk=>(k,V.bl true)
theorem oT (fd:Rl)(k:Int):ja (dT fd) k=decide (k∈fd):=by
 unfold ja dT;rw[List.any_map];by_cases h:k∈fd
 ·rw[Xy h,Ud];exact⟨k,h,`d⟩
 ·rw[Xz h];rw[List.any_eq_false];intro x hx;have:x≠k:=λe=>h (e▸hx);simpa using this
def Js (C D:Addr):dc:=λK ps T=>∃s:iR,ps=[⟨cY C D,s⟩]/\Good s/\T=cP K nG (λkvs=>∃fd,kvs=dT fd/\Reach s fd)
structure CtI (s:iR)(fd wt:Rl):Prop where
 nd:fd.Nodup
 fv:∀n∈fd,0<=n/\n<(s.S.length:Int)
 wv:∀n∈wt,0<=n/\n<(s.S.length:Int)
 st:∀p∈s.parts,p.2.1∈fd∨p.2.1∈wt
 cl:∀n∈fd,∀l∈s.Ld.getD n.toNat [],l∈fd∨l∈wt
noncomputable def AS:PV->Int
 | .tup (_:: .int n::_)=>n
 | _=>0
theorem OF (M:cb K mg)(HD:bM K D gE)(F:dI K "come_to" "come_to" GQ f fd)(hm:mg "come_to"∣.ref f)(hb:Binds K fd ["spots"] []):aE P w K mg base "come_to" 1 (aQ (Js C D) K):=by
 let nd:=KJ.nd;let Y3:Sw [("part":Str)]:=`c
 refine gW F KJ hm hb (λqs T ⟨_,e,_⟩=>by rw[e];rfl) (λXH A outer st H E qs T hr hS=>?_);let⟨s,rfl,hG,rfl⟩:=hS;let hu:=ru hr;let hl:=hG.l;let⟨Z2,YU⟩:=hG.li;let X1:=hG.pl;refine ai (pV 1 ?_);let hst:((s.parts.map og).filter λ_=>true).map AS=s.parts.map (·.2.1):=by rw[SE.mpr λ_ _=>rfl,S0];rfl
 refine ai (nh 2 (own:=["part"]) (fr:=[]) (ix:=[]) (ra:=au) (rb:=ag) (p:=λ_=>true) (f:=AS) (bH (so:=ao GQ) (N0:=OQ) rfl rfl `Q `b) (bI (jf (C:=C) HD `e))
  `F `V `aj (λC' s H ex o ho _=>by
   let⟨p,_,rfl⟩:=Sk.mp ho;exact EV.iP (n:=p.2.1) (dJ `e ev_int rfl)) ?_)
 rw[hst];refine bA (N1:=λZ=>∃fd e3,Z=[.im (cY C D) s,.di (dT fd),.mu ag [],e3]/\Reach s fd) (jA (λm Z=>∃fd wt e3,Z=[.im (cY C D) s,.di (dT fd),.mu ag wt,e3]/\CtI s fd wt/\3*(s.S.length-fd.length)+wt.length=m/\m<=1000) (m0:=3*s.S.length+s.parts.length) ⟨[],s.parts.map (·.2.1),.no,rfl,⟨Tx,(λn h=>by cases h),(λn h=>?_),(λp hp=>.inr (Sk.mpr ⟨p,hp,rfl⟩)),(λn h=>by cases h)⟩,by rw[RS];rfl,`a⟩ (λm Z hI=>?_)) ?_
 ·let⟨p,hp,rfl⟩:=Sk.mp h;exact hG.pv p hp
 ·let⟨fd,wt,e3,rfl,hC,hmm,hm1⟩:=hI;let fl:=sY s.S.length fd hC.nd hC.fv;refine⟨!wt.isEmpty,_,nB 2 rfl,λh=>?_,λh=>?_⟩
  ·let XS:wt≠[]:=λz=>by rw[z] at h;cases h
   obtain⟨wi,n,rfl⟩:∃l x,wt=l++[x]:=⟨wt.dropLast,wt.getLast XS,(SS XS).symm⟩;rw[RY,Sz] at hmm;let⟨n0,n1⟩:=hC.wv n (Sa _ (RU.mpr rfl));refine ai (ba 3 (y:=n) (xC 2 rfl `d) ?_);rw[show(wi++[n]).dropLast=wi by simp];refine aj (a9 (HB 1 true hu `p rfl) (λh=>?_) `J)
   ·let hnf:n∉fd:=by rw[Xv rfl,oT] at h;simpa using h
    let Ym:bP s.Ld n∣(s.Ld.getD n.toNat []):=a7 (xs:=s.Ld) (i:=n) [] n0 `a;let Zy:s.Ld.getD n.toNat []∈s.Ld:=by
     rw[RR,RQ (show n.toNat<s.Ld.length by cbv)];exact SD _
    let h2:=hG.l2 _ Zy;let hls:=YU _ Zy;let fl2:=sY s.S.length (fd++[n]) (iN hC.nd hnf) λx hx=>by
     obtain z | z:=Se.mp hx
     ·exact hC.fv x z
     ·rw[RU.mp z];exact⟨n0,n1⟩
    rw[RY,Sz] at fl2;refine ai (BA 1 hu `p AI rfl (by rw[oT];exact Xz hnf) (by unfold dT;rw[RS];exact Uo (show _<=1000 by cbv) `c) ?_);let e:dT fd++[(n,V.bl true)]=dT (fd++[n]):=by unfold dT;rw[Sf];rfl
    rw[e];refine aj (Dn 2 (aL (Oc (C:=C) HD `e) `p Ym) rfl rfl (aM `a) ⟨3*(s.S.length-(fd++[n]).length)+(wi++s.Ld.getD n.toNat []).length,by rw[RY,RY,Sz];cbv,fd++[n],wi++s.Ld.getD n.toNat [],aA n,rfl,⟨iN hC.nd hnf,λx hx=>?_,λx hx=>?_,λp hp=>?_,λx hx l Y9=>?_⟩,rfl,by rw[RY,RY,Sz];cbv⟩)
    ·obtain z | z:=Se.mp hx
     ·exact hC.fv x z
     ·rw[RU.mp z];exact⟨n0,n1⟩
    ·obtain z | z:=Se.mp hx
     ·exact hC.wv x (Sg _ z)
     ·exact hls x z
    ·obtain z | z:=hC.st p hp
     ·exact .inl (Sg _ z)
     ·obtain z | z:=Se.mp z
      ·exact .inr (Sg _ z)
      ·exact .inl (Sa _ z)
    ·obtain z | z:=Se.mp hx
     ·obtain q | q:=hC.cl x z l Y9
      ·exact .inl (Sg _ q)
      ·obtain q | q:=Se.mp q
       ·exact .inr (Sg _ q)
       ·exact .inl (Sa _ q)
     ·rw[RU.mp z] at Y9;exact .inr (Sa _ Y9)
   ·let hnf:n∈fd:=by rw[Xv rfl,oT] at h;simpa using h
    refine⟨3*(s.S.length-fd.length)+wi.length,`a,fd,wi,aA n,rfl,⟨hC.nd,hC.fv,λx hx=>hC.wv x (Sg _ hx),λp hp=>?_,λx hx l Y9=>?_⟩,rfl,`a⟩
    ·obtain z | z:=hC.st p hp
     ·exact .inl z
     ·obtain z | z:=Se.mp z
      ·exact .inr z
      ·rw[RU.mp z];exact .inl hnf
    ·obtain q | q:=hC.cl x hx l Y9
     ·exact .inl q
     ·obtain q | q:=Se.mp q
      ·exact .inr q
      ·rw[RU.mp q];exact .inl hnf
  ·let hwt:wt=[]:=by cases wt with
    | nil=>rfl
    | cons _ _=>cases h
   subst hwt;exact⟨fd,e3,rfl,λp hp=>(hC.st p hp).resolve_right `d,λn hn l Y9=>(hC.cl n hn l Y9).resolve_right `d⟩
 rintro _ ⟨fd,e3,rfl,hR⟩;exact aj (JT 1 rfl ⟨fd,rfl,hR⟩)
abbrev Dv:Stmt:=top tZ
abbrev KS:Rm:=["spots","known","lost"]
theorem L6:bE KS ["spots"] (ao Dv):=YV
theorem OG (M:cb K mg)(M2:mj K mg)(HC:bM K C ju)(HD:bM K D gE)(CT:aE P w K mg base "come_to" 1 (aQ (Js C D) K))(F:dI K "not_come_to" "not_come_to" Dv f fd)(hm:mg "not_come_to"∣.ref f)(hb:Binds K fd ["spots"] []):aE P w K mg base "not_come_to" 2 `av:=by
 let nd:=L6.nd;let Y3:Sw [("number":Str),"step","known"]:=`c
 let ZM:Sw [("step":Str)]:=`c
 refine gW (k:=1) F L6 hm hb (λqs T ⟨_,e,_⟩=>by rw[e];rfl) (λXH A outer st H E qs T hr hS=>?_);let⟨s,rfl,hG,rfl⟩:=hS;let hu:=ru hr;let hl:=hG.l;refine ai (Ab 1 CT hr (ah `e ax) ⟨s,rfl,hG,rfl⟩ ?_);rintro _ ⟨fd,rfl,hR⟩;change WS _ _ [.im (cY C D) s,.im nG (dT fd),.no] _ _;refine ai (nh 2 (own:=["number","step"]) (fr:=["known"]) (ix:=[1]) (ra:=cz ag (bL C)) (rb:=bL C) (p:=λz=> !ja (dT fd) z.1) (f:=λz=>z.2) (bH (so:=ao Dv) (N0:=KS) rfl rfl `Q `b) (i6 M.enumerate (AO (C:=C) HD `e))
  (λC s H ex=>d9 0 1) (λx=>⟨.inr rfl,.inr rfl,.inl rfl,trivial⟩) (λC' s H ex z hz=>hU (y9 hu `e `r)) (λC' s H ex z hz _=>aa 1 rfl) ?_)
 let lz:(((nums s.S).filter λz=> !ja (dT fd) z.1).map λz=>z.2).length<=240:=by
  rw[RS];refine Um (Tn _ _) ?_;rw[cL];exact hl
 refine WS.freeze 2 rfl (aM `a) ?_;refine aj (aU (aZ.im (bV (own:=["step"]) (fr:=[]) (ix:=[]) (ra:=bL C) (rb:=ag) (p:=λt=>decide (t.kind∈X5)) (f:=λt=>t.word) (bH (so:=ao Dv) (N0:=KS) rfl rfl `Q `b) (bI `r)
  `F `V (λC' s H ex t ht=>hU (ay lY (iy (C:=C) HC `e) (iF M2.X5))) (λC' s H ex t ht _=>MM (C:=C) HC `e))) ?_)
 refine jW λt ht=>?_;let⟨z,hz,rfl⟩:=Sk.mp ht;let⟨hz,hp⟩:=SJ.mp hz;let⟨n,nl,e1,e2⟩:=pO hz;refine Xz λhk=>?_;have:=hG.ct fd hR n nl (by unfold aT;rw[show((n:Nat):Int).toNat=n by cbv,e2];exact hk);rw[oT,e1,Xy this] at hp;cases hp
abbrev G8:Stmt:=top vk
abbrev KA:Rm:=["spots","called"]
theorem OI (M:cb K mg)(HC:bM K C ju)(HD:bM K D gE)(CN:`aJ)(Df:Def K mg "not_called" G8 ["spots"]):aE P w K mg base "not_called" 2 `av:=by
 let Y3:Sw [("step":Str)]:=`c
 let ZM:Sw [("part":Str),"called"]:=`c
 refine bO (N:=KA) (k:=1) Df `z;let⟨s,rfl,hG,rfl⟩:=hS;refine ai (ba 1 (aZ.im (bV (own:=["step"]) (fr:=[]) (ix:=[]) (ra:=bL C) (rb:=aq) (p:=λt=>decide (t.kind="call")) (f:=λt=>t.name) (bH (so:=ao G8) (N0:=KA) rfl rfl `Q `b) (bI (AO (C:=C) HD `e))
  `F `V (λC' s H ex t ht=>hU (ay cq (iy (C:=C) HC `e) aB)) (λC' s H ex t ht _=>rT (C:=C) HC `e))) ?_)
 generalize hcl:(s.S.filter λt=>decide (t.kind=("call":Str))).map (λt=>t.name)=cs;refine aj (aU (y:=([]:Rl)) (aJ CN hr (ah `e (ah (x:=([]:List PV)) (EV.cast (aZ.im (bV (own:=["part"]) (fr:=["called"]) (ix:=[1]) (ra:=au) (rb:=au) (xs:=cut (s.parts.map og) (some 1) none) (p:=λz=> !decide (wI z∈cs)) (f:=λz=>z) (bH (so:=ao G8) (N0:=KA) rfl rfl `Q `b) (bI (aZ.im (jZ (jf (C:=C) HD `e) (ov_some ev_int) ov_none)))
  `F `O (λC' s H ex z hz=>?_) (λC' s H ex z hz _=>aa 0 rfl))) ?_) ax)) ⟨s,rfl,rfl⟩) rfl)
 ·rw[show((1:Int))=((1:Nat):Int) from rfl,oM,← Uh] at hz;let⟨p,_,rfl⟩:=Sk.mp hz;exact hU (ay Ci (EV.sP (x:=p.1) (dJ `e ev_int rfl)) `g)
 ·refine jW λz hz=>?_;rw[show((1:Int))=((1:Nat):Int) from rfl,oM,← Uh] at hz;let⟨p,hp,rfl⟩:=Sk.mp hz;let⟨t,ht,hk,hn⟩:=hG.nc p hp;rw[BP,Xy (show p.1∈cs from by rw[← hcl];exact Sk.mpr ⟨t,SJ.mpr ⟨ht,Xy hk⟩,hn⟩)];rfl
noncomputable def uI (ts:`Z)(k bh lp:Int):Int:=match ts with
 | []=>bh
 | .leave::_=>lp
 | .back::_=> -1
 | _::_=>k
mutual
noncomputable def gj:Th->Int->Int->Int->List jh
 | .X6 x,k,af,lp=>[("do",x,k,af, -1)]
 | .call j,k,af,lp=>[("call","",k,af,j)]
 | .ifs x A B,k,af,lp=>([(("yes":Str),x,k,uI A (k+1) af lp, -1),(("no":Str),x,k,uI B (aR A (k+1)).2 af lp, -1)]:List jh)++(jP A (k+1) af lp++jP B (aR A (k+1)).2 af lp)
 | .XR x A,k,af,lp=>([(("yes":Str),x,k,uI A (k+1) k af, -1),(("no":Str),x,k,af, -1)]:List jh)++jP A (k+1) k af
 | .leave,_,_,_=>[]
 | .back,_,_,_=>[]
noncomputable def jP:List Th->Int->Int->Int->List jh
 | [],_,_,_=>[]
 | t::ts,k,bh,lp=>gj t k (uI ts (bC t k).2 bh lp) lp++jP ts (bC t k).2 bh lp
end
noncomputable def zL (lp:Bool)(l:Int):PV:=if lp=true then .int l else .XT
variable {l:Int}
theorem vF :∀{ts:`Z}(k bh:Int),bJ lo m lp ts->lu ts k (.int bh) (zL lp l)= .int (uI ts k bh l)
 | [],k,bh,_=>rfl
 | .leave::ts,k,bh,h=>by
   simp only[bJ,bX] at h;show zL lp l= .int l;rw[zL,Xv h.1]
 | .back::ts,k,bh,_=>rfl
 | .X6 _::ts,k,bh,_=>rfl
 | .call _::ts,k,bh,_=>rfl
 | .ifs _ _ _::ts,k,bh,_=>rfl
 | .XR _ _::ts,k,bh,_=>rfl
mutual
theorem Lg {lo m:Int}:∀(t:Th){lp:Bool}(l k af:Int),bX lo m lp t->eZ t k (.int af) (zL lp l)=(gj t k af l).map fZ
 | .X6 x,lp,l,k,af,_=>by rw[eZ,gj];rfl
 | .call j,lp,l,k,af,_=>by rw[eZ,gj];rfl
 | .leave,lp,l,k,af,_=>by rw[eZ,gj];rfl
 | .back,lp,l,k,af,_=>by rw[eZ,gj];rfl
 | .ifs x A B,lp,l,k,af,h=>by
   simp only[bX] at h;rw[eZ,gj,vF (k+1) af h.2.1,vF _ af h.2.2,ou A l (k+1) af h.2.1,ou B l _ af h.2.2,Sf,Sf];rfl
 | .XR x A,lp,l,k,af,h=>by
   simp only[bX] at h;let e:(PV.int af)=zL true af:=rfl;rw[eZ,gj,e,vF (k+1) k h.2,ou A af (k+1) k h.2,Sf];rfl
theorem ou {lo m:Int}:∀(ts:`Z){lp:Bool}(l k bh:Int),bJ lo m lp ts->ft ts k (.int bh) (zL lp l)=(jP ts k bh l).map fZ
 | [],lp,l,k,bh,_=>by rw[ft,jP];rfl
 | t::ts,lp,l,k,bh,h=>by
   simp only[bJ] at h;rw[ft,jP,vF _ bh h.2.2,Lg t l k _ h.1,ou ts l _ bh h.2.2,Sf]
end
structure kE (mg:Rj):Prop where
 beg:∃t,mg "BEGIN"∣.int 0 t
 end_:∃t,mg "END"∣.int 1 t
 parts:∃t,mg "MOST_PARTS"∣.int 4 t
 places:∃t,mg "MOST_PLACES"∣.int 16 t
 rows:∃t,mg "MOST_PROGRAM_ROWS"∣.int 30 t
theorem xP (i j:Nat){z:Str}{p2 ap:Pos}{s:iR}{k y:Int}(hD:bM X.K D gE)(hΓ:Z[i]?∣(.im (cY C D) s))(hj:Z[j]?∣aA k)(hk:bP s.St k∣y)(hN:`o)(hN':autoParam (At X j z) bZ)(hb:eX X `h "stands":=by rfl)(hsx:dN (.Name z p2):=by exact λ_ _=>rfl):rV X (.Subscript (.Attribute `h "stands" ap) (.Name z p2) pos) Z y:=λσ H0 R0 H R E H' Q sR q=>by
 let⟨v,ea,xx,dx,vs,rfl,h1,h2⟩:=E.ent i _ hΓ;let⟨u,q1,q2⟩:=h2.get (f:="stands") rfl;let⟨b,ws,rfl,YO,pp,hz⟩:=(show(ae ag).R X.K R u s.St from q2);let⟨v0,e0,Y7⟩:=E.ent j _ hj;cases Y7
 let⟨w,e3,e4⟩:=i9 pp hk;cases e4
 exact eS (ir gU (xh (aV hN) hb) (aV hN') hsx) ⟨.ref xx,at_of ea,xx,D,dx,vs,.ref b,rfl,sR _ _ h1,hD.cl,hD.no _ (dY `c),q1,.int k,at_of e0,b,ws,k,.int y,rfl,rfl,bt.of (sR _ _ YO),e3,q⟩
abbrev Le:Stmt:=top qh
noncomputable def QY:PV->Int
 | .tup (_::_:: .int n::_)=>n
 | _=>0
theorem Nd (HD:bM K D gE)(CN:`aJ)(Df:Def K mg "ended_at_begin" Le ["spots"]):aE P w K mg base "ended_at_begin" 2 `av:=by
 let Y3:Sw [("part":Str),"spots"]:=`c
 refine bO (N:=["spots"]) (k:=1) Df `z;let⟨s,rfl,hG,rfl⟩:=hS;refine aj (aU (y:=([]:Rl)) (aJ CN hr (ah `e (ah (x:=([]:List PV)) (EV.cast (aZ.im (bV (own:=["part"]) (fr:=["spots"]) (ix:=[0]) (ra:=au) (rb:=au) (p:=λz=>decide (s.St.getD (AS z).toNat 0=QY z)) (f:=λz=>z) (bH (so:=ao Le) (N0:=["spots"]) rfl rfl `Q `b) (bI (jf (C:=C) HD `e))
  `F `O (λC' s' H ex z hz=>?_) (λC' s H ex z hz _=>aa 0 rfl))) ?_) ax)) ⟨s,rfl,rfl⟩) rfl)
 ·let⟨p,hp,rfl⟩:=Sk.mp hz;let⟨p0,p1⟩:=hG.pv p hp;exact hU (ay gi (aL (Nj (C:=C) HD `g) (EV.iP (n:=p.2.1) (dJ `e ev_int rfl)) (a7 (xs:=s.St) (i:=p.2.1) 0 p0 (by rw[hG.sl];exact p1))) (EV.iP (n:=p.2.2) (dJ `e ev_int rfl)))
 ·refine jW λz hz=>?_;let⟨p,hp,rfl⟩:=Sk.mp hz;exact Xz (hG.eb p hp)
abbrev LX:Stmt:=top uH
theorem Nh (M3:kE mg)(HD:bM K D gE)(Df:Def K mg "rows_beyond" LX ["spots"]):aE P w K mg base "rows_beyond" 1 `av:=by
 let Y3:Sw [("row":Str),"spots"]:=`c
 refine bO (N:=["spots"]) Df `z;let⟨s,rfl,hG,rfl⟩:=hS;let⟨t,ht⟩:=M3.rows;let hc:cut (s.rows.map jV) (some 30) none=[]:=by
  rw[show((30:Int))=((30:Nat):Int) from rfl,oM,← Uh,Tt hG.rl];rfl
 exact aj (aU (aZ.im (bV (own:=["row"]) (fr:=["spots"]) (ix:=[0]) (ra:=au) (rb:=ag) (xs:=[]) (p:=λ_=>true) (f:=λ_=>0) (bH (so:=ao LX) (N0:=["spots"]) rfl rfl `Q `b) (bI (EV.cast (aZ.im (jZ (vE (C:=C) HD `e) (ov_some (fY ht)) ov_none)) hc))
  `F `O `aj (λC' s H ex o ho _=>by cases ho))) rfl)
abbrev P1:Stmt:=top sO
theorem N3 (M3:kE mg)(HD:bM K D gE)(CN:`aJ)(Df:Def K mg "parts_beyond" P1 ["spots"]):aE P w K mg base "parts_beyond" 2 `av:=by
 refine bO (N:=["spots"]) (k:=1) Df `z;let⟨s,rfl,hG,rfl⟩:=hS;let⟨t,ht⟩:=M3.parts;let hc:cut (s.parts.map og) (some 4) none=[]:=by
  rw[show((4:Int))=((4:Nat):Int) from rfl,oM,← Uh,Tt hG.pl];rfl
 exact aj (aU (y:=([]:Rl)) (aJ CN hr (ah `e (ah (x:=([]:List PV)) (EV.cast (aZ.im (jZ (jf (C:=C) HD `e) (ov_some (fY ht)) ov_none)) hc) ax)) ⟨s,rfl,rfl⟩) rfl)
abbrev K5:Stmt:=top wg
abbrev QW:Rm:=["spots","part","first","last","told","row","step"]
def ET (C D:Addr):dc:=λK ps T=>∃(s:iR)(i:Nat)(p:ic),ps=[⟨cY C D,s⟩,⟨ag,(i:Int)⟩]/\Good s/\s.parts[i]?∣p/\T=cP K jz (· =cJ s p)
theorem pM (F:Rt)(k:Int):(cT F k).length<=F.length+1:=by
 unfold cT;split
 ·cbv
 ·rw[RY];simp
theorem HJ (p:ic)(F:Rt)(r:Rw):(eu p F r).length<=F.length+2:=by
 unfold eu;split
 ·exact Um (pM _ _) (by have:=pM F r.1;cbv)
 ·cbv
theorem Jz (p:ic)(F:Rt)(rs:List Rw):(rs.foldl (eu p) F).length<=F.length+2*rs.length:=by
 induction rs generalizing F with
 | nil=>exact Uk _
 | cons r rs ih=>
   rw[SY,Sb];have:=ih (eu p F r);have:=HJ p F r;cbv
theorem Ma (M:cb K mg)(M3:kE mg)(HD:bM K D gE)(Df:Def K mg "places_in" K5 ["spots","part"]):aE P w K mg base "places_in" 1 (aQ (ET C D) K):=by
 refine bO (N:=QW) Df `z;let⟨s,i,p,rfl,hG,hp,rfl⟩:=hS;let⟨t1,hbg⟩:=M3.beg;let⟨t2,hen⟩:=M3.end_;let pm:=R7 hp;let il:=(RP.mp hp).1;let⟨p0,p1⟩:=hG.pv p pm;let hrl:=hG.rl;let Ym:bP (s.parts.map og) (i:Int)∣og p:=by
  rw[gm `a (by rw[RS];cbv),show((i:Nat):Int).toNat=i by cbv,R6,hp];rfl
 refine ai (ba 2 (y:=p.2.1) (EV.iP (dJ (xs:=[.str p.1,.int p.2.1,.int p.2.2]) (aL (jf (C:=C) HD `e) `g Ym) ev_int rfl)) ?_);refine ai (ba 3 (y:=p.2.2) (EV.iP (dJ (xs:=[.str p.1,.int p.2.1,.int p.2.2]) (aL (jf (C:=C) HD `e) `g Ym) ev_int rfl)) ?_);refine ai (Iy 4 (v:=0) (u:=1) (xP (C:=C) 0 2 HD rfl rfl (a7 (xs:=s.St) (i:=p.2.1) 0 p0 (by rw[hG.sl];exact p1))) (yr 3 rfl) (jC rfl hbg ⟨t1,rfl⟩) (jC rfl hen ⟨t2,rfl⟩) (hG.eb p pm) ?_);generalize hF0:[(s.St.getD p.2.1.toNat 0,(0:Int)),(p.2.2,1)]=F0;let X1:cJ s p=s.rows.foldl (eu p) F0:=by unfold cJ;rw[hF0]
 let f0l:F0.length=2:=by rw[← hF0];rfl
 rw[X1];refine bA (N1:=λZ=>∃e5 e6,Z=[.im (cY C D) s,aA (i:Int),aA p.2.1,aA p.2.2,.di (cG (s.rows.foldl (eu p) F0)),e5,e6]) (bN (λj Z=>∃e5 e6,Z=[.im (cY C D) s,aA (i:Int),aA p.2.1,aA p.2.2,.di (cG ((s.rows.take j).foldl (eu p) F0)),e5,e6]) (bI (vE (C:=C) HD `e)) (aY 5) ⟨_,_,rfl⟩ (λj z Z hz hΓ=>?_) `W) ?_
 ·let⟨e5,e6,rfl⟩:=hΓ;rw[R6] at hz;let⟨r,YK,rfl⟩:=UK.mp hz;let jl:=(RP.mp YK).1;let fl:=Jz p F0 (s.rows.take j);let tl:(s.rows.take j).length<=30:=by rw[Sm];cbv
  let YT:(s.rows.take (j+1)).foldl (eu p) F0=eu p ((s.rows.take j).foldl (eu p) F0) r:=by rw[SG,YK,S8];rfl
  rw[YT];generalize (s.rows.take j).foldl (eu p) F0=Fj at fl;let fj:Fj.length<=62:=`a
  change WS _ _ [.im (cY C D) s,aA (i:Int),aA p.2.1,aA p.2.2,.di (cG Fj),.im au (jV r),e6] _ _;refine aj (a9 (Ey n5 n5 `r (EV.iP (n:=r.1) (dJ `aa ev_int rfl)) `p) (λh=>?_) (λh=>aF ⟨.im au (jV r),e6,?_⟩))
  ·let YU:hV p r=true:=h;let hcut:cut [PV.int r.1,.int r.2.1,.str r.2.2.1,.str r.2.2.2] none (some 2)=[.int r.1,.int r.2.1]:=rfl;let g:eu p Fj r=cT (cT Fj r.1) r.2.1:=Xv YU;rw[g];let l1:=pM Fj r.1;refine aj (bN (r:=au) (xs:=[.int r.1,.int r.2.1]) (λq Z=>∃e6,Z=[.im (cY C D) s,aA (i:Int),aA p.2.1,aA p.2.2,.di (cG (([r.1,r.2.1].take q).foldl cT Fj)),.im au (jV r),e6]) (Jr (by show 2<=UZ;decide) (EV.cast (Kj `aa ov_none (ov_some ev_int)) (congrArg PV.tup hcut))) (aY 6) ⟨_,rfl⟩ (λq y Z hy hΓ=>?_) `W)
   ·let⟨e6,rfl⟩:=hΓ;obtain⟨n,hn,rfl⟩:∃n,[r.1,r.2.1][q]?∣n/\PV.int n=y:=by
     have:([r.1,r.2.1].map PV.int)[q]?∣y:=hy;rw[R6] at this;exact UK.mp this
    let hnq:([r.1,r.2.1].take (q+1)).foldl cT Fj=cT (([r.1,r.2.1].take q).foldl cT Fj) n:=by rw[SG,hn,S8];rfl
    rw[hnq];let hql:(([r.1,r.2.1].take q).foldl cT Fj).length<=64:=by
     let key:∀(ks:Rl)(G:Rt),(ks.foldl cT G).length<=G.length+ks.length:=by
      intro ks
      induction ks with
      | nil=>intro G;exact Uk _
      | cons k ks ih=>intro G;rw[SY,Sb];have:=ih (cT G k);have:=pM G k;cbv
     have:=key ([r.1,r.2.1].take q) Fj;have:([r.1,r.2.1].take q).length<=2:=by rw[Sm];exact UD _ _
     cbv
    generalize ([r.1,r.2.1].take q).foldl cT Fj=G at hql;change WS _ _ [.im (cY C D) s,aA (i:Int),aA p.2.1,aA p.2.2,.di (cG G),.im au (jV r),.im au (.int n)] _ _;refine aj (K3 4 (k:=n) (EV.iP `aw) (nO 4 M.len rfl) rfl (Uo hql `c) ⟨.im au (.int n),?_⟩);unfold cT;rfl
   ·let⟨e6,rfl⟩:=hΓ;exact⟨.im au (jV r),e6,rfl⟩
  ·let YU:¬hV p r=true:=by
    rw[show hV p r=false from h];decide
   rw[show eu p Fj r=Fj from Xu YU]
 ·let⟨e5,e6,rfl⟩:=hΓ;refine⟨e5,e6,?_⟩;rw[RS,SK]
 rintro _ ⟨e5,e6,rfl⟩;exact aj (y6 4 rfl rfl)
noncomputable def Bk:PV->Int
 | .tup (.int n::_)=>n
 | _=>0
abbrev DA:Stmt:=top qI
abbrev K2:Rm:=["spots","known","lost","found","number","part","whole"]
theorem JZ:bE K2 ["spots"] (ao DA):=YV
theorem NZ (M:cb K mg)(M3:kE mg)(HD:bM K D gE)(CN:`aJ)(CT:aE P w K mg base "come_to" 1 (aQ (Js C D) K))(CP:aE P w K mg base "places_in" 1 (aQ (ET C D) K))(F:dI K "places_beyond" "places_beyond" DA f fd)(hm:mg "places_beyond"∣.ref f)(hb:Binds K fd ["spots"] []):aE P w K mg base "places_beyond" 2 `av:=by
 let nd:=JZ.nd;let Y3:Sw [("row":Str),"known"]:=`c
 let ZM:Sw [("row":Str),"part"]:=`c
 refine gW (k:=1) F JZ hm hb (λqs T ⟨_,e,_⟩=>by rw[e];rfl) (λXH A outer st H E qs T hr hS=>?_);let⟨s,rfl,hG,rfl⟩:=hS;let⟨t,hmp⟩:=M3.places;let hu:=ru hr;refine ai (Ab 1 CT hr (ah `e ax) ⟨s,rfl,hG,rfl⟩ ?_);rintro _ ⟨fd,rfl,hR⟩;let hlost:(((s.rows.map jV).filter λz=> !ja (dT fd) (Bk z)).map Bk)=[]:=jW λz hz=>by
  let⟨r,YK,rfl⟩:=Sk.mp hz;let⟨⟨r0,r1⟩,rk⟩:=hG.rk r YK;have:=hG.ct fd hR r.1.toNat `a (by rw[show((r.1.toNat:Nat):Int)=r.1 by cbv];exact rk);rw[show((r.1.toNat:Nat):Int)=r.1 by cbv] at this;show(!ja (dT fd) r.1)=false;rw[oT,Xy this];rfl
 refine ai (nh 2 (own:=["row"]) (fr:=["known"]) (ix:=[1]) (ra:=au) (rb:=ag) (p:=λz=> !ja (dT fd) (Bk z)) (f:=Bk) (bH (so:=ao DA) (N0:=K2) rfl rfl `Q `b) (bI (vE (C:=C) HD `e))
  `F `O (λC' s H ex z hz=>by
   let⟨r,_,rfl⟩:=Sk.mp hz;exact hU (y9 hu (EV.iP (n:=r.1) (dJ `e ev_int rfl)) `g)) (λC' s H ex z hz _=>by
   let⟨r,_,rfl⟩:=Sk.mp hz;exact EV.iP (n:=r.1) (dJ `e ev_int rfl)) ?_)
 rw[hlost];refine WS.freeze 2 rfl (Ul _) ?_;refine ai (cD 3 (r:=au) (ys:=[]) `aq ?_);refine bA (N1:=λZ=>∃e4 e5 e6,Z=[.im (cY C D) s,.im nG (dT fd),dR [],.mu au [],e4,e5,e6]) (bN (λi Z=>∃e4 e5 e6,Z=[.im (cY C D) s,.im nG (dT fd),dR [],.mu au [],e4,e5,e6]) (i6 M.enumerate (jf (C:=C) HD `e)) (d9 4 5) ⟨_,_,_,rfl⟩ (λi z Z hz hΓ=>?_) (λZ hΓ=>hΓ)) ?_
 ·let⟨e4,e5,e6,rfl⟩:=hΓ;let⟨e1,e2⟩:=fD hz;rw[R6] at e2;let⟨p,hp,ep⟩:=UK.mp e2;let⟨zn,zp⟩:=z;dsimp only at e1 ep;subst ep;subst e1;refine ai (ba 6 (y:=true) (EV.cast (yi (LB M.any (aZ.im (bV (own:=["row"]) (fr:=["part"]) (ix:=[5]) (ra:=ag) (rb:=c7) (p:=λ_=>true) (f:=λ_=>true) (bH (so:=ao DA) (N0:=K2) rfl rfl `Q `b) (bI `r)
   `F `O `aj (λC' s H ex o ho _=>by cases ho))))) rfl) ?_)
  refine aj (a9 (TW.tv (cZ (bU `aw) (λ_=>eL (ay iJ (rG M.len (aJ CP hr (ah `e (ah `T ax)) ⟨s,i,p,rfl,hG,hp,rfl⟩)) (fY hmp))))) (λh=>?_) (λh=>aF ⟨_,_,_,rfl⟩));exfalso;have:=hG.pc p (R7 hp);rw[Xz (show¬(16:Int)<((cJ s p).length:Int) by cbv)] at h;cases h
 rintro _ ⟨e4,e5,e6,rfl⟩;refine WS.freeze 3 rfl (Ul _) ?_;exact aj (aU (y:=([]:Rl)) (aJ CN hr (ah `e (ah `p ax)) ⟨s,rfl,rfl⟩) rfl)
abbrev P9:Stmt:=top vh
abbrev nHI:Rm:=["spots","found"]
theorem NJ (NA:aE P w K mg base "named_again" 2 `av)(CA:aE P w K mg base "called_astray" 1 `av)(NC:aE P w K mg base "not_come_to" 2 `av)(NL:aE P w K mg base "not_called" 2 `av)(EB:aE P w K mg base "ended_at_begin" 2 `av)(RB:aE P w K mg base "rows_beyond" 1 `av)(PY:aE P w K mg base "places_beyond" 2 `av)(PB:aE P w K mg base "parts_beyond" 2 `av)(Df:Def K mg "hindrances" P9 ["spots"]):aE P w K mg base "hindrances" 3 `av:=by
 let CA:=CA.mono (show 1<=2 by decide);let RB:=RB.mono (show 1<=2 by decide);refine bO (N:=nHI) (k:=2) Df `z;let⟨s,rfl,hG,rfl⟩:=hS;let z:(([]:Rl)).length+(([]:Rl)).length<=UZ:=Ul _;refine ai (ba 1 (y:=([]:Rl)) (aZ.im (cK (xs:=[]) (ys:=[]) (aZ.im (cK (xs:=[]) (ys:=[]) (aZ.im (cK (xs:=[]) (ys:=[]) (aJ NA hr (ah `e ax) ⟨s,rfl,hG,rfl⟩) (aJ CA hr (ah `e ax) ⟨s,rfl,hG,rfl⟩) z)) (aJ NC hr (ah `e ax) ⟨s,rfl,hG,rfl⟩) z)) (aJ NL hr (ah `e ax) ⟨s,rfl,hG,rfl⟩) z)) ?_);exact aj (aU (y:=([]:Rl)) (aZ.im (cK (xs:=[]) (ys:=[]) (aZ.im (cK (xs:=[]) (ys:=[]) (aZ.im (cK (xs:=[]) (ys:=[]) (aZ.im (cK (xs:=[]) (ys:=[]) `g (aJ EB hr (ah `e ax) ⟨s,rfl,hG,rfl⟩) z)) (aJ RB hr (ah `e ax) ⟨s,rfl,hG,rfl⟩) z)) (aJ PY hr (ah `e ax) ⟨s,rfl,hG,rfl⟩) z)) (aJ PB hr (ah `e ax) ⟨s,rfl,hG,rfl⟩) z)) rfl)
abbrev O2:Stmt:=top tD
abbrev nNP:Rm:=["text","spots","found"]
def Po (C D:Addr):dc:=λK ps T=>∃(x:Str)(S:`N)(Ld:List Rl),ps=[⟨aq,x⟩]/\uB x S/\qE S Ld/\Good (X0 S Ld)/\T=cP K (cY C D) (· =X0 S Ld)
theorem MN (G:w8 P w K mg base C D)(CH:aE P w K mg base "hindrances" 3 `av)(Df:Def K mg "need_program" O2 ["text"]):aE P w K mg base "need_program" 6 (aQ (Po C D) K):=by
 let CH:=CH.mono (show 3<=5 by decide);refine bO (N:=nNP) (k:=5) Df `z;let⟨x,S,Ld,rfl,hx,hk,hG,rfl⟩:=hS;refine ai (ba 1 (y:=X0 S Ld) (EH G hr (ah `e ax) hx hk) ?_);refine ai (ba 2 (y:=([]:Rl)) (aJ CH hr (ah `g ax) ⟨X0 S Ld,rfl,hG,rfl⟩) ?_);refine ai (a9 (xK `r) (λh=>by cases h) (λ_=>aF ?_));exact aj (aU `g rfl)
section
variable {a b:Int}{l:Rl}
def Pure:Prop:=∀(XA:Rm)(Ls:`H),cj XA Ls->∃Ld,qE `i Ld/\Good (X0 `i Ld)
theorem IH (h:`aK):uB (WW " " (lA XA Ls)) `i:=by
 let⟨pl,po⟩:=vV h;refine⟨lA XA Ls,_,rfl,λe=>?_,pl,po,uV h⟩;have:=h.l1;let hl:=h.l;cases XA with
 | nil=>rw[Sv] at hl;cbv
 | cons x XA=>cases Ls with
   | nil=>exact Xt h.l1 `d
   | cons L Ls=>
     unfold lA at e;rw[List.zip_cons_cons,S6] at e;unfold gq at e;simp at e
def cH (S:`u)(a:Nat)(vs:`u):Prop:=∀(i:Nat)(v:α),vs[i]?∣v->S[a+i]?∣v
theorem cH.app {S:`u}{w:Nat}{a b:`u}(h:cH S w (a++b)):cH S w a/\cH S (w+a.length) b:=by
 refine⟨λi v hv=>h i v ?_,λi v hv=>?_⟩
 ·rw[So (RP.mp hv).1];exact hv
 ·have:=h (a.length+i) v (by rw[Su `a,show a.length+i-a.length=i by cbv];exact hv);rw[show w+a.length+i=w+(a.length+i) by cbv];exact this
theorem cH.self (S:`u):cH S 0 S:=λi v hv=>by rw[Uu];exact hv
theorem cH.d {α:Type}{S:`u}{a:Nat}{vs:`u}(h:cH S a vs){i:Nat}{v:α}(hv:vs[i]?∣v)(d:α):S.getD (a+i) d=v/\a+i<S.length:=by
 have:=h i v hv;exact⟨by rw[RR,this];rfl,(RP.mp this).1⟩
theorem cH.k {a:Nat}{vs:`N}(h:cH S a vs){v:aH}(hv:vs[i]?∣v):aT S ((a+i:Nat):Int)=v.kind/\cN S ((a+i:Nat):Int)=v.within/\a+i<S.length:=by
 let⟨e,l⟩:=h.d hv dA;unfold aT;rw[show(((a+i:Nat)):Int).toNat=a+i by cbv,e];refine⟨rfl,?_,l⟩;show(S.getD (((a+i:Nat)):Int).toNat dA).within=_;rw[show(((a+i:Nat)):Int).toNat=a+i by cbv,e]
noncomputable def cw (S:`N):Rl:=(S.filter λt=>decide (t.kind∈XI)).map (·.within)
theorem hX (a b:`N):cw (a++b)=cw a++cw b:=by unfold cw;rw[SH,Sf]
theorem nW (h:s.kind∉XI):cw [s]=[]:=by unfold cw;rw[S5 (~~~h)];rfl
theorem r8 (h:s.kind∈XI):cw [s]=[s.within]:=by unfold cw;rw[S4 (~~~h)];rfl
def jy (a b:Int)(l:Rl):Prop:=l.Nodup/\∀x∈l,a<=x/\x<b
theorem jy.app {c:Int}{m:Rl}(h:jy a b l)(h':jy b c m)(h1:a<=b)(h2:b<=c):jy a c (l++m):=by
 refine⟨SO.mpr ⟨h.1,h'.1,λx hx y hy e=>?_⟩,λx hx=>?_⟩
 ·have:=h.2 x hx;have:=h'.2 y hy;cbv
 ·obtain z | z:=Se.mp hx
  ·have:=h.2 x z;cbv
  ·have:=h'.2 x z;cbv
theorem jy.wide {a' b':Int}(h:jy a b l)(h1:a'<=a)(h2:b<=b'):jy a' b' l:=⟨h.1,λx hx=>by have:=h.2 x hx;cbv⟩
theorem jy.add {x:Int}(h:jy a b l)(hx:x<a∨b<=x)(lo hi:Int)(h1:lo<=a)(h2:b<=hi)(h3:lo<=x)(h4:x<hi):jy lo hi (l++[x]):=by
 refine⟨iN h.1 λz=>by have:=h.2 x z;cbv,λy hy=>?_⟩;obtain z | z:=Se.mp hy
 ·have:=h.2 y z;cbv
 ·rw[RU.mp z];cbv
theorem jy.nil (a b:Int):jy a b []:=⟨Tx,λx h=>by cases h⟩
mutual
theorem cwT {XA:Rm}:∀(t:Th)(a w u:Int),jy a (a+bw t) (cw (spT XA a w u t))
 | .X6 _,a,w,u=>by rw[spT,nW (show("do":Str)∉XI by decide +kernel)];exact .nil _ _
 | .call _,a,w,u=>by rw[spT,nW (show("call":Str)∉XI by decide +kernel)];exact .nil _ _
 | .leave,a,w,u=>by rw[spT,nW (show("leave":Str)∉XI by decide +kernel)];exact .nil _ _
 | .back,a,w,u=>by rw[spT,nW (show("back":Str)∉XI by decide +kernel)];exact .nil _ _
 | .XR x A,a,w,u=>by
   let h:=De (XA:=XA) A (a+1) (w+2) a;rw[spT,bw,hX,hX,nW (show("while":Str)∉XI by decide +kernel),r8 (show("end":Str)∈XI by decide +kernel),SX];push_cast;exact h.add (.inl `a) _ _ `a `a `a `a
 | .ifs x A B,a,w,u=>by
   let h:=De (XA:=XA) A (a+1) (w+2) a;let h':=De (XA:=XA) B (a+2+XE A) (w+3+(XU XA A).length) (a+1+XE A);rw[spT,bw,hX,hX,hX,hX,nW (show("if":Str)∉XI by decide +kernel),r8 (show("else":Str)∈XI by decide +kernel),r8 (show("end":Str)∈XI by decide +kernel),SX];push_cast;let g1:jy a (a+1+XE A) (cw (cf XA (a+1) (w+2) a A)++[a]):=h.add (.inl `a) _ _ `a `a `a `a;let g2:jy (a+1+XE A) (a+2+XE A+XE B) (cw (cf XA (a+2+XE A) (w+3+(XU XA A).length) (a+1+XE A) B)++[a+1+XE A]):=h'.add (.inl `a) _ _ `a `a `a `a;let g:=g1.app g2 `a `a;rw[Sj] at g;exact g.wide `a `a
theorem De {XA:Rm}:∀(ts:`Z)(a w u:Int),jy a (a+XE ts) (cw (cf XA a w u ts))
 | [],a,w,u=>by rw[cf];exact .nil _ _
 | t::ts,a,w,u=>by
   let h:=cwT (XA:=XA) t a w u;let h':=De (XA:=XA) ts (a+bw t) (w+(c6 XA t).length) u;rw[cf,hX,XE];push_cast;exact(h.app h' `a `a).wide `a `a
end
end
variable {u:Int}{kd:Str}
theorem PJ {XA:Rm}:∀(zs:List (Str×List Th))(a w:Int),jy a (a+dt zs) (cw (iX XA a w zs))
 | [],a,w=>by rw[iX];exact .nil _ _
 | z::r,a,w=>by
   let h:=De (XA:=XA) z.2 (a+1) (w+2) a;let h':=PJ (XA:=XA) r (a+2+XE z.2) (w+3+(XU XA z.2).length);rw[iX,dt,hX,hX,hX,nW (show("part":Str)∉XI by decide +kernel),r8 (show("end":Str)∈XI by decide +kernel),SX];push_cast;let g1:jy a (a+2+XE z.2) (cw (cf XA (a+1) (w+2) a z.2)++[a]):=h.add (.inl `a) _ _ `a `a `a `a;let g:=g1.app h' `a `a;rw[Sj] at g;exact g.wide `a `a
theorem FE {a b:Option Int}(h:a.map V.int=b.map V.int):a=b:=by
 cases a<;>cases b<;>simp at h<;>simp[h]
theorem xb (F:Rt)(k v j:Int):bb (jM F k v) j=if j=k then some v else bb F j:=by
 let h:=Em (cS (cG F)) (Sum.inl k:Key) (Sum.inl j) (.int v);rw[wk,lM,lM] at h;apply FE;rw[h];by_cases e:j=k
 ·rw[Xv (by rw[e]),Xv e];rfl
 ·rw[Xu (λz=>e (Sum.inl.inj z)),Xu e]
theorem iL {k:Int}:(bb F k).isSome=true↔k∈F.map (·.1):=by
 unfold bb;rw[UN,List.find?_isSome];simp only[decide_eq_true_eq,Sk]
theorem yM {k:Int}:∀{ps:List (Int×aH)}{F:Rt},(∀z∈ps,z.2.kind∈XI->z.2.within≠k)->bb (ps.foldl g9 F) k=bb F k
 | [],F,_=>rfl
 | y::ps,F,h=>by
   rw[SY,yM λz hz=>h z (RX _ hz)];unfold g9;split
   ·rename_i hc;rw[xb,Xu (λe=>h y RZ hc e.symm)]
   ·rfl
theorem uq:∀{ps:List (Int×aH)}{F:Rt},((ps.filter λz=>decide (z.2.kind∈XI)).map (·.2.within)).Nodup->∀z∈ps,z.2.kind∈XI->bb (ps.foldl g9 F) z.2.within∣z.1
 | y::ps,F,nd,z,hz,hc=>by
   rw[SY];by_cases hy:y.2.kind∈XI
   ·rw[S4 (~~~hy),Sx,Sn] at nd;obtain rfl | hz:=R9.mp hz
    ·rw[yM λx hx hxc e=>nd.1 (Sk.mpr ⟨x,SJ.mpr ⟨hx,by simpa using hxc⟩,e⟩)];unfold g9;rw[Xv hy,xb,Xv rfl]
    ·exact uq nd.2 z hz hc
   ·rw[S5 (~~~hy)] at nd;obtain rfl | hz:=R9.mp hz
    ·exact Xt hc hy
    ·exact uq nd z hz hc
theorem qY (S:`N):(nums S).map (·.2)=S:=by
 refine SV λi=>?_;rw[R6];obtain h | h:=Ut i S.length
 ·let hn:i<(nums S).length:=by rw[cL];exact h
  rw[RQ hn];have:=(fD (RQ hn)).2;rw[this];rfl
 ·rw[Sr (by rw[cL];exact h),Sr h];rfl
theorem IQ (S:`N):cw S=((nums S).filter λz=>decide (z.2.kind∈XI)).map (·.2.within):=by
 conv=>lhs;rw[← qY S]
 unfold cw;rw[T8,S0];rfl
theorem qF (h:S[n]?∣s):((n:Int),s)∈nums S:=by
 let hl:=(RP.mp h).1;let hn:n<(nums S).length:=by rw[cL];exact hl
 let⟨e1,e2⟩:=fD (RQ hn);rw[h] at e2;have:(nums S)[n]=((n:Int),s):=UO e1 (Option.some.inj e2).symm;rw[← this];exact SD hn
theorem sQ (nd:(cw S).Nodup)(h:S[n]?∣s)(hc:s.kind∈XI):bb (eW S) s.within∣(n:Int):=by
 rw[IQ] at nd;exact uq nd ((n:Int),s) (qF h) hc
def Up (S:`N)(u:Int)(kd:Str)(a:Int):Prop:=∃k:Nat,X8 (cN S) k u=a/\(∀j,j<=k->0<=X8 (cN S) j u/\X8 (cN S) j u<(S.length:Int))/\(∀j,j<k->aT S (X8 (cN S) j u)≠kd)/\aT S a=kd
theorem uj (f:α->α)(x:α)(j:Nat):X8 f (j+1) x=X8 f j (f x):=by
 rw[show j+1=1+j by cbv,pU];rfl
theorem Up.here (h0:0<=u)(h1:u<(S.length:Int))(hk:aT S u=kd):Up S u kd u:=⟨0,rfl,λj hj=>by
 obtain rfl:j=0:=`a
 exact⟨h0,h1⟩,λj hj=>`a,hk⟩
theorem Up.step {a:Int}(h0:0<=u)(h1:u<(S.length:Int))(hk:aT S u≠kd)(h:Up S (cN S u) kd a):Up S u kd a:=by
 let⟨k,e,YU,XS,ha⟩:=h;refine⟨k+1,by rw[uj];exact e,λj hj=>?_,λj hj=>?_,ha⟩
 ·cases j with
  | zero=>exact⟨h0,h1⟩
  | succ j=>rw[uj];exact YU j `a
 ·cases j with
  | zero=>exact hk
  | succ j=>rw[uj];exact XS j `a
mutual
noncomputable def fQ (a wl pe:Int):Th->List Rl
 | .X6 _=>[[a+1]]
 | .call _=>[[a+1]]
 | .ifs _ A B=>[[a+1,a+2+XE A]]++gG (a+1) wl pe A++([[a+2+XE A+XE B]]++(gG (a+2+XE A) wl pe B++[[a+3+XE A+XE B]]))
 | .XR _ A=>[[a+1,a+2+XE A]]++(gG (a+1) (a+2+XE A) pe A++[[a]])
 | .leave=>[[wl]]
 | .back=>[[pe]]
noncomputable def gG (a wl pe:Int):List Th->List Rl
 | []=>[]
 | t::ts=>fQ a wl pe t++gG (a+bw t) wl pe ts
end
mutual
theorem pD:∀(t:Th)(a wl pe:Int),(fQ a wl pe t).length=bw t
 | .X6 _,_,_,_=>by simp[fQ,bw]
 | .call _,_,_,_=>by simp[fQ,bw]
 | .ifs x A B,a,wl,pe=>by
   simp only[fQ,bw,RY,eh A,eh B,Sb,Sv];cbv
 | .XR x A,a,wl,pe=>by
   simp only[fQ,bw,RY,eh A,Sb,Sv];cbv
 | .leave,_,_,_=>by simp[fQ,bw]
 | .back,_,_,_=>by simp[fQ,bw]
theorem eh:∀(ts:`Z)(a wl pe:Int),(gG a wl pe ts).length=XE ts
 | [],_,_,_=>by simp[gG,XE]
 | t::ts,a,wl,pe=>by rw[gG,XE,RY,pD t,eh ts]
end
section
variable {B pe:Int}{a:Nat}
noncomputable def uT (a:Int):List (Str×List Th)->List Rl
 | []=>[]
 | z::r=>[[a+1]]++(gG (a+1) 0 (a+1+XE z.2) z.2++([[]]++uT (a+2+XE z.2) r))
theorem yT:∀(zs:List (Str×List Th))(a:Int),(uT a zs).length=dt zs
 | [],_=>rfl
 | z::r,a=>by
   rw[uT,dt];simp only[RY,eh,yT r,Sb,Sv];cbv
structure mD (S:`N)(Ld:List Rl)(B pe:Int)(n:Nat):Prop where
 ld:fq S (eW S) (n:Int) (Ld.getD n [])
 rg:∀l∈Ld.getD n [],B<=l/\l<=pe
 ln:(Ld.getD n []).length<=2
 go:aW (aT S (n:Int))=false->∃l r,Ld.getD n []=l::r/\((n:Int)<l∨aW (aT S l)=true)
structure Cp (S:`N)(B pe wl u:Int)(lp:Bool)(hi:Nat):Prop where
 pt:∃p,Up S u "part" p/\bb (eW S) p∣pe
 wh:lp=true->(∃A,Up S u "while" A/\bb (eW S) A∣(wl-1))/\(hi:Int)<=wl/\wl<=pe
 pe:(hi:Int)<=pe
 u0:0<=u
 u1:u<(S.length:Int)
def iK (S:`N)(Ld:List Rl)(B pe:Int)(a k:Nat):Prop:=∀i,i<k->mD S Ld B pe (a+i)
theorem iK.app {k m:Nat}(h:iK S Ld B pe a k)(h':iK S Ld B pe (a+k) m):iK S Ld B pe a (k+m):=λi hi=>by
 by_cases q:i<k
 ·exact h i q
 ·have:=h' (i-k) `a;rwa [show a+k+(i-k)=a+i by cbv] at this
theorem iK.one (h:mD S Ld B pe a):iK S Ld B pe a 1:=λi hi=>by
 obtain rfl:i=0:=`a
 exact h
theorem iK.nil:iK S Ld B pe a 0:=λi hi=>`a
theorem sZ:aW "do"=true:=`b
theorem nT:aW "call"=true:=`b
theorem m9:aW "if"=true:=`b
theorem gO:aW "while"=true:=`b
theorem jT (hL:Ld.getD n []=[l])(h:fq S (eW S) (n:Int) [l])(h0:B<=l)(h1:l<=pe)(hg:(n:Int)<l∨aW (aT S l)=true):mD S Ld B pe n:=by
 refine⟨by rw[hL];exact h,by rw[hL];intro x hx;rw[RU.mp hx];exact⟨h0,h1⟩,by rw[hL];exact Uw 1,λ_=>⟨l,[],hL,hg⟩⟩
theorem BD (hL:Ld.getD n []=[l,m])(h:fq S (eW S) (n:Int) [l,m])(h0:B<=l)(h1:l<=pe)(h2:B<=m)(h3:m<=pe)(hg:aW (aT S (n:Int))=true):mD S Ld B pe n:=by
 refine⟨by rw[hL];exact h,by
  rw[hL];intro x hx;obtain rfl | hx:=R9.mp hx
  ·exact⟨h0,h1⟩
  ·rw[RU.mp hx];exact⟨h2,h3⟩,by rw[hL];exact Uk 2,λq=>by rw[hg] at q;cases q⟩
end
section
variable {B pe:Int}(ZR:(cw S).Nodup)
include ZR
mutual
theorem stT:∀(t:Th)(lp:Bool)(a:Nat)(w u wl:Int),bX lo m lp t->cH S a (spT XA (a:Int) w u t)->cH Ld a (fQ (a:Int) wl pe t)->Cp S B pe wl u lp (a+bw t)->B<=(a:Int)->iK S Ld B pe a (bw t)
 | .X6 x,lp,a,w,u,wl,h,hS,hL,hc,hB=>by
   rw[spT] at hS;rw[fQ] at hL;simp only[bw] at hc ⊢;let⟨k1,k2,k3⟩:=hS.k (i:=0) rfl;let e1:=(hL.d (i:=0) rfl []).1;have:=hc.pe;refine .one (jT e1 (.ZX (.inr (.inl k1))) `a (by push_cast at this;cbv) (.inl ?_));show(a:Int)<_;cbv
 | .call x,lp,a,w,u,wl,h,hS,hL,hc,hB=>by
   rw[spT] at hS;rw[fQ] at hL;simp only[bw] at hc ⊢;let⟨k1,k2,k3⟩:=hS.k (i:=0) rfl;let e1:=(hL.d (i:=0) rfl []).1;have:=hc.pe;refine .one (jT e1 (.ZX (.inr (.inr k1))) `a (by push_cast at this;cbv) (.inl ?_));show(a:Int)<_;cbv
 | .leave,lp,a,w,u,wl,h,hS,hL,hc,hB=>by
   simp only[bX] at h;rw[spT] at hS;rw[fQ] at hL;simp only[bw] at hc ⊢;let⟨k1,k2,k3⟩:=hS.k (i:=0) rfl;let e1:=(hL.d (i:=0) rfl []).1;let⟨⟨A,hA,hF⟩,w1,w2⟩:=hc.wh h;push_cast at w1;let hl:fq S (eW S) ((a+0:Nat):Int) [wl-1+1]:=.lev (a:=A) k1 (by unfold Ar;rw[k2];exact hA) hF;rw[show wl-1+1=wl by cbv] at hl;refine .one (jT e1 hl `a `a (.inl ?_));show(a:Int)<_;cbv
 | .back,lp,a,w,u,wl,h,hS,hL,hc,hB=>by
   rw[spT] at hS;rw[fQ] at hL;simp only[bw] at hc ⊢;let⟨k1,k2,k3⟩:=hS.k (i:=0) rfl;let e1:=(hL.d (i:=0) rfl []).1;let⟨p,hp,hF⟩:=hc.pt;let w1:=hc.pe;push_cast at w1;refine .one (jT e1 (.bck (a:=p) k1 (by unfold Ar;rw[show cN S (a:Int)=u from k2];exact hp) hF) `a `a (.inl ?_));show(a:Int)<_;cbv
 | .XR x A,lp,a,w,u,wl,h,hS,hL,hc,hB=>by
   simp only[bX] at h;rw[spT] at hS;rw[fQ] at hL;simp only[bw] at hc ⊢;let⟨s1,s2⟩:=hS.app;let⟨s2,s3⟩:=s2.app;let⟨d1,d2⟩:=hL.app;let⟨d2,d3⟩:=d2.app;rw[cu] at s3;rw[eh] at d3;simp only[Sb,Sv] at s2 s3 d2 d3;let⟨k1,k2,k3⟩:=s1.k (i:=0) rfl;let⟨k4,k5,k6⟩:=s3.k (i:=0) rfl;let e1:=(d1.d (i:=0) rfl []).1;let e3:=(d3.d (i:=0) rfl []).1;let hF:bb (eW S) (a:Int)∣(((a+(0+1)+XE A+0:Nat)):Int):=sQ (s:=⟨"end","",w+2+(XU XA A).length,(a:Int)⟩) ZR (s3 0 _ rfl) (show("end":Str)∈XI by decide +kernel);let hpe:=hc.pe;push_cast at hpe hF;let ZN:aT S (a:Int)="while":=k1;let k2':cN S (a:Int)=u:=k2;let ala:a<S.length:=k3;let p1:mD S Ld B pe a:=by
    let hl:fq S (eW S) (a:Int) [(a:Int)+1,(a:Int)+(0+1)+XE A+0+1]:=.row (.inr ZN) hF;rw[show(a:Int)+(0+1)+XE A+0+1=(a:Int)+2+XE A by cbv] at hl;exact BD e1 hl `a `a `a `a (by rw[ZN];exact gO)
   let c2:Cp S B pe ((a:Int)+2+XE A) (a:Int) true (a+(0+1)+XE A):=by
    let⟨p,hp,hpF⟩:=hc.pt;refine⟨⟨p,.step `a `a (by rw[ZN];decide +kernel) (by rw[k2'];exact hp),hpF⟩,λ_=>⟨⟨(a:Int),.here `a `a ZN,?_⟩,by push_cast;cbv,`a⟩,by push_cast;cbv,`a,`a⟩;rw[hF];congr 1;cbv
   let p2:=CO A true (a+(0+1)) (w+2) (a:Int) ((a:Int)+2+XE A) h.2 (by push_cast;exact s2) (by push_cast;exact d2) c2 (by push_cast;cbv);let p3:mD S Ld B pe (a+(0+1)+XE A+0):=by
    let hl:fq S (eW S) ((a+(0+1)+XE A+0:Nat):Int) [cN S ((a+(0+1)+XE A+0:Nat):Int)]:=.enw k4 (by rw[k5];show(0:Int)<=(a:Int);cbv) (by rw[k5];show(a:Int)<_;cbv) (by rw[k5];exact ZN);rw[k5] at hl;exact jT e3 hl `a `a (.inr (by rw[ZN];exact gO))
   have:=(iK.one p1).app (p2.app (iK.one p3));rwa [show 1+(XE A+1)=2+XE A by cbv] at this
 | .ifs x A Bb,lp,a,w,u,wl,h,hS,hL,hc,hB=>by
   simp only[bX] at h;rw[spT,Sj] at hS;rw[fQ,Sj] at hL;simp only[bw] at hc ⊢;let⟨s1,s2⟩:=hS.app;let⟨s2,s3⟩:=s2.app;let⟨s3,s4⟩:=s3.app;let⟨s4,s5⟩:=s4.app;let⟨d1,d2⟩:=hL.app;let⟨d2,d3⟩:=d2.app;let⟨d3,d4⟩:=d3.app;let⟨d4,d5⟩:=d4.app;rw[cu] at s3 s4 s5;rw[cu] at s5;rw[eh] at d3 d4 d5;rw[eh] at d5;simp only[Sb,Sv] at s2 s3 s4 s5 d2 d3 d4 d5;let⟨k1,k2,k3⟩:=s1.k (i:=0) rfl;let⟨k4,k5,k6⟩:=s3.k (i:=0) rfl;let⟨k7,k8,k9⟩:=s5.k (i:=0) rfl;let e1:=(d1.d (i:=0) rfl []).1;let e3:=(d3.d (i:=0) rfl []).1;let e5:=(d5.d (i:=0) rfl []).1;let hF:bb (eW S) (a:Int)∣(((a+(0+1)+XE A+0:Nat)):Int):=sQ (s:=⟨"else","",w+2+(XU XA A).length,(a:Int)⟩) ZR (s3 0 _ rfl) (show("else":Str)∈XI by decide +kernel);let hF2:bb (eW S) ((a:Int)+1+XE A)∣(((a+(0+1)+XE A+(0+1)+XE Bb+0:Nat)):Int):=sQ (s:=⟨"end","",w+3+(XU XA A).length+(XU XA Bb).length,(a:Int)+1+XE A⟩) ZR (s5 0 _ rfl) (show("end":Str)∈XI by decide +kernel);let hpe:=hc.pe;push_cast at hpe hF hF2;let ZN:aT S (a:Int)="if":=k1;let k2':cN S (a:Int)=u:=k2;let ala:a<S.length:=k3;let en:((a+(0+1)+XE A+0:Nat):Int)=(a:Int)+1+XE A:=by push_cast;cbv
   rw[en] at k4 k5;let k4':aT S ((a:Int)+1+XE A)="else":=k4;let k5':cN S ((a:Int)+1+XE A)=(a:Int):=k5;let p1:mD S Ld B pe a:=by
    let hl:fq S (eW S) (a:Int) [(a:Int)+1,(a:Int)+(0+1)+XE A+0+1]:=.row (.inl ZN) hF;rw[show(a:Int)+(0+1)+XE A+0+1=(a:Int)+2+XE A by cbv] at hl;exact BD e1 hl `a `a `a `a (by rw[ZN];exact m9)
   let cA:Cp S B pe wl (a:Int) lp (a+(0+1)+XE A):=by
    let⟨p,hp,hpF⟩:=hc.pt;refine⟨⟨p,.step `a `a (by rw[ZN];decide +kernel) (by rw[k2'];exact hp),hpF⟩,λq=>?_,by push_cast;cbv,`a,`a⟩;let⟨⟨Aw,hA,hAF⟩,w1,w2⟩:=hc.wh q;push_cast at w1;exact⟨⟨Aw,.step `a `a (by rw[ZN];decide +kernel) (by rw[k2'];exact hA),hAF⟩,by push_cast;cbv,w2⟩
   let cB:Cp S B pe wl ((a:Int)+1+XE A) lp (a+(0+1)+XE A+(0+1)+XE Bb):=by
    let⟨p,hp,hpF⟩:=cA.pt;refine⟨⟨p,.step `a `a (by rw[k4'];decide +kernel) (by rw[k5'];exact hp),hpF⟩,λq=>?_,by push_cast;cbv,`a,`a⟩;let⟨⟨Aw,hA,hAF⟩,w1,w2⟩:=cA.wh q;let⟨_,w3,_⟩:=hc.wh q;push_cast at w3;exact⟨⟨Aw,.step `a `a (by rw[k4'];decide +kernel) (by rw[k5'];exact hA),hAF⟩,by push_cast;cbv,w2⟩
   let p2:=CO A lp (a+(0+1)) (w+2) (a:Int) wl h.2.1 (by push_cast;exact s2) (by push_cast;exact d2) cA (by push_cast;cbv);let p3:mD S Ld B pe (a+(0+1)+XE A+0):=by
    let hl:fq S (eW S) ((a+(0+1)+XE A+0:Nat):Int) [(a:Int)+(0+1)+XE A+(0+1)+XE Bb+0]:=by rw[en];exact .els k4' hF2
    rw[show(a:Int)+(0+1)+XE A+(0+1)+XE Bb+0=(a:Int)+2+XE A+XE Bb by cbv] at hl;exact jT e3 hl `a `a (.inl (by push_cast;cbv))
   let q4:(((a+(0+1)+XE A+(0+1):Nat)):Int)=(a:Int)+2+XE A:=by push_cast;cbv
   let p4:=CO Bb lp (a+(0+1)+XE A+(0+1)) (w+3+(XU XA A).length) ((a:Int)+1+XE A) wl h.2.2 (by rw[q4];exact s4) (by rw[q4];exact d4) cB (by push_cast;cbv);let p5:mD S Ld B pe (a+(0+1)+XE A+(0+1)+XE Bb+0):=by
    let hl:fq S (eW S) ((a+(0+1)+XE A+(0+1)+XE Bb+0:Nat):Int) [((a+(0+1)+XE A+(0+1)+XE Bb+0:Nat):Int)+1]:=.ene k7 (by rw[k8];show(0:Int)<=(a:Int)+1+XE A;cbv) (by rw[k8];show(a:Int)+1+XE A<_;cbv) (by rw[k8];exact k4');rw[show((a+(0+1)+XE A+(0+1)+XE Bb+0:Nat):Int)+1=(a:Int)+3+XE A+XE Bb by push_cast;cbv] at hl;exact jT e5 hl `a `a (.inl (by push_cast;cbv))
   have:=(iK.one p1).app (p2.app ((iK.one p3).app (p4.app (iK.one p5))));rwa [show 1+(XE A+(1+(XE Bb+1)))=3+XE A+XE Bb by cbv] at this
theorem CO:∀(ts:`Z)(lp:Bool)(a:Nat)(w u wl:Int),bJ lo m lp ts->cH S a (cf XA (a:Int) w u ts)->cH Ld a (gG (a:Int) wl pe ts)->Cp S B pe wl u lp (a+XE ts)->B<=(a:Int)->iK S Ld B pe a (XE ts)
 | [],lp,a,w,u,wl,h,hS,hL,hc,hB=>by rw[XE];exact .nil
 | t::ts,lp,a,w,u,wl,h,hS,hL,hc,hB=>by
   simp only[bJ] at h;rw[cf] at hS;rw[gG] at hL;rw[XE] at hc ⊢;let⟨s1,s2⟩:=hS.app;let⟨d1,d2⟩:=hL.app;rw[kP] at s2;rw[pD] at d2;let hpe:=hc.pe;push_cast at hpe;let p1:=stT t lp a w u wl h.1 s1 d1 ⟨hc.pt,λq=>by
    let⟨x,y,z⟩:=hc.wh q;push_cast at y;exact⟨x,by push_cast;cbv,z⟩,by push_cast;cbv,hc.u0,hc.u1⟩ hB
   let p2:=CO ts lp (a+bw t) (w+(c6 XA t).length) u wl h.2.2 (by push_cast;exact s2) (by push_cast;exact d2) ⟨hc.pt,λq=>by
    let⟨x,y,z⟩:=hc.wh q;push_cast at y;exact⟨x,by push_cast;cbv,z⟩,by push_cast;cbv,hc.u0,hc.u1⟩ (by push_cast;cbv)
   exact p1.app p2
end
end
structure Kg (S:`N)(Ld:List Rl)(XA:Rm)(f:Nat)(w:Int)(z:Str×List Th):Prop where
 s:cH S f ([⟨"part",z.1,w, -1⟩]++(cf XA ((f:Int)+1) (w+2) (f:Int) z.2++[⟨"end","",w+2+(XU XA z.2).length,(f:Int)⟩]))
 d:cH Ld f ([[(f:Int)+1]]++(gG ((f:Int)+1) 0 ((f:Int)+1+XE z.2) z.2++[[]]))
theorem cH.pre {S:`u}{a:Nat}{x y:`u}(h:cH S a (x++y)):cH S a x:=h.app.1
theorem DT {S:`N}{Ld:List Rl}{XA:Rm}:∀{zs:List (Str×List Th)}{a:Nat}{w:Int},cH S a (iX XA (a:Int) w zs)->cH Ld a (uT (a:Int) zs)->∀(j:Nat)(z:Str×List Th),zs[j]?∣z->∃w',Kg S Ld XA (a+dt (zs.take j)) w' z
 | [],_,_,_,_,j,z,h=>by simp at h
 | y::r,a,w,hS,hL,j,z,h=>by
   rw[iX] at hS;rw[uT] at hL;cases j with
   | zero=>
     let e:y=z:= ~~~h
     subst e;refine⟨w,?_,?_⟩
     ·rw[show([⟨"part",y.1,w, -1⟩]++(cf XA ((a:Int)+1) (w+2) (a:Int) y.2++([⟨"end","",w+2+(XU XA y.2).length,(a:Int)⟩]++iX XA ((a:Int)+2+XE y.2) (w+3+(XU XA y.2).length) r)):List aH)=([⟨"part",y.1,w, -1⟩]++(cf XA ((a:Int)+1) (w+2) (a:Int) y.2++[⟨"end","",w+2+(XU XA y.2).length,(a:Int)⟩]))++iX XA ((a:Int)+2+XE y.2) (w+3+(XU XA y.2).length) r by simp only[Sj]] at hS;exact hS.pre
     ·rw[show([[(a:Int)+1]]++(gG ((a:Int)+1) 0 ((a:Int)+1+XE y.2) y.2++([[]]++uT ((a:Int)+2+XE y.2) r)):List Rl)=([[(a:Int)+1]]++(gG ((a:Int)+1) 0 ((a:Int)+1+XE y.2) y.2++[[]]))++uT ((a:Int)+2+XE y.2) r by simp only[Sj]] at hL;exact hL.pre
   | succ j=>
     let s4:=hS.app.2.app.2.app.2;let d4:=hL.app.2.app.2.app.2;rw[cu] at s4;rw[eh] at d4;simp only[Sb,Sv] at s4 d4;let e:a+(0+1)+XE y.2+(0+1)=a+2+XE y.2:=`a
     rw[e] at s4 d4;have:=DT (zs:=r) (a:=a+2+XE y.2) (w:=w+3+(XU XA y.2).length) (by push_cast;exact s4) (by push_cast;exact d4) j z (~~~h);rw[SQ,dt];rwa [show a+(2+XE y.2+dt (r.take j))=a+2+XE y.2+dt (r.take j) by cbv]
theorem cover:∀(zs:List (Str×List Th))(n:Nat),n<dt zs->∃(j:Nat)(z:Str×List Th),zs[j]?∣z/\dt (zs.take j)<=n/\n<dt (zs.take j)+2+XE z.2
 | [],n,h=>by rw[dt] at h;cbv
 | y::r,n,h=>by
   rw[dt] at h;by_cases q:n<2+XE y.2
   ·exact⟨0,y,rfl,Ul _,by show n<0+2+_;cbv⟩
   ·let⟨j,z,h1,h2,h3⟩:=cover r (n-(2+XE y.2)) `a;exact⟨j+1,z,h1,by rw[SQ,dt];cbv,by rw[SQ,dt];cbv⟩
theorem pA:∀(zs:List (Str×List Th))(j k:Nat)(z:Str×List Th),zs[j]?∣z->j<k->dt (zs.take j)+2+XE z.2<=dt (zs.take k)
 | [],j,k,z,h,_=>by simp at h
 | y::r,0,k+1,z,h,_=>by
   let e:y=z:= ~~~h
   subst e;rw[SQ,dt,Tr,dt];cbv
 | y::r,j+1,k+1,z,h,hk=>by
   have:=pA r j k z (~~~h) `a;rw[SQ,SQ,dt,dt];cbv
section
variable {f:Nat}{w:Int}
abbrev lst (f:Nat)(z:Str×List Th):Nat:=f+1+XE z.2
structure fJ (S:`N)(Ld:List Rl)(XA:Rm)(f:Nat)(w:Int)(z:Str×List Th):Prop where
 k:aT S (f:Int)="part"
 nm:S[f]?∣⟨"part",z.1,w, -1⟩
 s:cH S (f+1) `ay
 d:cH Ld (f+1) (gG (((f+1:Nat)):Int) 0 ((lst f z:Nat):Int) z.2)
 e:S[lst f z]?∣⟨"end","",w+2+(XU XA z.2).length,(f:Int)⟩
 df:Ld.getD f []=[(f:Int)+1]
 dl:Ld.getD (lst f z) []=[]
 dn:lst f z<Ld.length
theorem Kg.p (h:Kg S Ld XA f w z):fJ S Ld XA f w z:=by
 let⟨hS,hL⟩:=h;let⟨s1,s2⟩:=hS.app;let⟨s2,s3⟩:=s2.app;let⟨d1,d2⟩:=hL.app;let⟨d2,d3⟩:=d2.app;rw[cu] at s3;rw[eh] at d3;simp only[Sb,Sv] at s2 s3 d2 d3;refine⟨(s1.k (i:=0) rfl).1,s1 0 _ rfl,by push_cast;exact s2,by push_cast;exact d2,s3 0 _ rfl,(d1.d (i:=0) rfl []).1,(d3.d (i:=0) rfl []).1,(d3.d (i:=0) rfl []).2⟩
theorem dz (h:S[n]?∣s):aT S (n:Int)=s.kind/\cN S (n:Int)=s.within:=by
 let e:S.getD ((n:Nat):Int).toNat dA=s:=by rw[show((n:Nat):Int).toNat=n by cbv,RR,h];rfl
 exact⟨by unfold aT;rw[e],by show(S.getD ((n:Nat):Int).toNat dA).within=_;rw[e]⟩
theorem fJ.cl (h:fJ S Ld XA f w z)(ZR:(cw S).Nodup):bb (eW S) (f:Int)∣((lst f z:Nat):Int):=sQ ZR h.e (show("end":Str)∈XI by decide +kernel)
theorem fJ.all (h:fJ S Ld XA f w z)(ZR:(cw S).Nodup)(XJ:bJ lo m false z.2):∀n,f<=n->n<lst f z->mD S Ld ((f:Int)+1) ((lst f z:Nat):Int) n:=by
 let fl:f<S.length:=(RP.mp h.nm).1;let hs:=CO (B:=(f:Int)+1) (lo:=lo) (m:=m) ZR z.2 false (f+1) (w+2) (f:Int) 0 XJ h.s h.d ⟨⟨(f:Int),.here `a `a h.k,h.cl ZR⟩,(λq=>by cases q),RM _,`a,`a⟩ (by push_cast;cbv);intro n h1 h2;by_cases q:n=f
 ·subst q;exact jT h.df (.ZX (.inl h.k)) `a (by push_cast;cbv) (.inl `a)
 ·let h2':n<f+1+XE z.2:=h2;have:=hs (n-(f+1)) `a;rwa [show f+1+(n-(f+1))=n by cbv] at this
theorem fJ.last (h:fJ S Ld XA f w z):fq S (eW S) ((lst f z:Nat):Int) (Ld.getD (lst f z) []):=by
 let⟨k1,k2⟩:=dz h.e;let fl:f<S.length:=(RP.mp h.nm).1;rw[h.dl];exact .enp k1 (by rw[k2];show(0:Int)<=(f:Int);cbv) (by rw[k2];show(f:Int)<_;cbv) (by rw[k2];exact h.k)
end
abbrev de (XA:Rm)(Ls:`H):List (Str×List Th):=XA.zip Ls
abbrev cC (XA:Rm)(Ls:`H):List Rl:=uT 0 `M
abbrev fst (XA:Rm)(Ls:`H)(j:Nat):Nat:=dt ((de XA Ls).take j)
theorem h9 (h:(de XA Ls)[j]?∣z):∃w,fJ `i `D XA `k w z:=by
 let⟨w,hw⟩:=DT (S:=aw XA Ls) (Ld:=cC XA Ls) (XA:=XA) (zs:=de XA Ls) (a:=0) (w:=0) (cH.self _) (cH.self _) j z h;rw[Uu] at hw;exact⟨w,hw.p⟩
theorem kx:(cw `i).Nodup:=(PJ (XA:=XA) `M 0 0).1
theorem eU (h:`aK)(hz:(de XA Ls)[j]?∣z):bJ (j:Int) (Ls.length:Int) false z.2/\iI z.2/\bW z.2<=14/\XA[j]?∣z.1/\Ls[j]?∣z.2:=by
 let⟨h1,h2⟩:=lB hz;let hm:=R7 h2;exact⟨h.ok j z.2 h2,h.hd z.2 hm,h.rw z.2 hm,h1,h2⟩
theorem AH:(aw XA Ls).length=dt `M:=zB _ _ _
theorem NO:(cC XA Ls).length=dt `M:=yT _ _
theorem m8 (h:`aK)(n:Nat)(hn:n<(aw XA Ls).length):∃(j:Nat)(z:Str×List Th)(w:Int),(de XA Ls)[j]?∣z/\fJ `i `D XA `k w z/\fst XA Ls j<=n/\n<=lst `k z/\lst `k z<(aw XA Ls).length:=by
 rw[AH] at hn;let⟨j,z,h1,h2,h3⟩:=cover _ n hn;let⟨w,hb⟩:=h9 (XA:=XA) (Ls:=Ls) h1;refine⟨j,z,w,h1,hb,h2,by show n<=dt (List.take j `M)+1+XE z.2;cbv,(RP.mp hb.e).1⟩
theorem Ew (h:`aK):Am `i `D/\vM `i `D/\∀ls∈cC XA Ls,ls.length<=2:=by
 let hl:(cC XA Ls).length=(aw XA Ls).length:=by rw[AH,NO]
 let key:∀n,n<(aw XA Ls).length->fq `i (eW `i) (n:Int) ((cC XA Ls).getD n [])/\(∀l∈(cC XA Ls).getD n [],0<=l/\l<((aw XA Ls).length:Int))/\((cC XA Ls).getD n []).length<=2:=by
  intro n hn;let⟨j,z,w,hz,hb,h1,h2,h3⟩:=m8 h n hn;by_cases q:n=lst `k z
  ·subst q;refine⟨hb.last,?_,?_⟩
   ·rw[hb.dl];intro l hl;cases hl
   ·rw[hb.dl];exact Ul _
  ·let st:=hb.all kx (eU h hz).1 n h1 `a;refine⟨st.ld,λl Y9=>?_,st.ln⟩;have:=st.rg l Y9;cbv
 let mem:∀ls∈cC XA Ls,∃n,n<(aw XA Ls).length/\(cC XA Ls).getD n []=ls:=λls hm=>by
  let⟨n,hn,e⟩:=Tz hm;exact⟨n,`a,by rw[RR,RQ hn,e];rfl⟩
 refine⟨⟨hl,λn hn=>(key n hn).1⟩,⟨hl,λls hm l Y9=>?_⟩,λls hm=>?_⟩
 ·let⟨n,hn,e⟩:=mem ls hm;exact(key n hn).2.1 l (by rw[e];exact Y9)
 ·let⟨n,hn,e⟩:=mem ls hm;rw[← e];exact(key n hn).2.2
theorem Al (hi:i<S.length)(hn:n≠S.length-1-i):(Zq S Ld (i+1)).getD n 0=(Zq S Ld i).getD n 0:=by
 rw[lj hi];unfold rO;split
 ·simp only[RR];rw[Ss `a]
 ·rfl
theorem v9:∀(i n:Nat),i<=S.length->n<S.length-i->(Zq S Ld i).getD n 0=(n:Int)
 | 0,n,_,h=>by
   show(ups 0 S.length).getD n 0=_;rw[RR];unfold ups;rw[R6,SU `a];show(0:Int)+(n:Int)=_;cbv
 | i+1,n,hi,h=>by rw[Al `a `a];exact v9 i n `a `a
theorem zx {i n:Nat}(hn:S.length-i<=n):∀d:Nat,i+d<=S.length->(Zq S Ld (i+d)).getD n 0=(Zq S Ld i).getD n 0
 | 0,_=>rfl
 | d+1,h=>by rw[← UG,Al `a `a];exact zx hn d `a
theorem yq (hi:i<=S.length)(hn:S.length-i<=n):(Zq S Ld i).getD n 0=(aX S Ld).getD n 0:=by
 have:=zx (S:=S) (Ld:=Ld) hn (S.length-i) `a;rw[show i+(S.length-i)=S.length by cbv] at this;exact this.symm
theorem jr (hn:n<S.length)(h:(Ld.getD n [])=[]∨aW (aT S (n:Int))=true):(aX S Ld).getD n 0=(n:Int):=by
 rw[← yq (i:=S.length-1-n+1) `a `a,lj `a,show(S.length:Int)-1-((S.length-1-n:Nat):Int)=(n:Int) by cbv];unfold rO;rw[Xu (by
  rw[show((n:Nat):Int).toNat=n by cbv];rintro⟨h1,h2⟩;obtain h | h:=h
  ·rw[h] at h1;cases h1
  ·rw[h] at h2;cases h2)]
 exact v9 _ n `a `a
theorem nN (hn:n<S.length){r:Rl}(hL:Ld.getD n []=l::r)(hr:aW (aT S (n:Int))=false)(l0:0<=l)(l1:l<(S.length:Int)):(aX S Ld).getD n 0=if(n:Int)<l then(aX S Ld).getD l.toNat 0 else l:=by
 rw[← yq (i:=S.length-1-n+1) (n:=n) `a `a,lj `a,show(S.length:Int)-1-((S.length-1-n:Nat):Int)=(n:Int) by cbv];unfold rO;rw[show((n:Nat):Int).toNat=n by cbv,hL,Xv ⟨rfl,hr⟩];let ln:=kQ (S:=S) (Ld:=Ld) (S.length-1-n) `a;rw[RR,R8 `a];show(Zq S Ld (S.length-1-n)).getD l.toNat 0=_;by_cases q:(n:Int)<l
 ·rw[Xv q];exact yq `a `a
 ·rw[Xu q,v9 _ _ `a `a];cbv
variable {ls:Rl}
section
variable {f:Nat}{w:Int}
def Mc (S:`N)(f l:Nat)(v:Int):Prop:=(f:Int)<v/\v<=(l:Int)/\(v=(l:Int)∨aW (aT S v)=true)
theorem fJ.AX (h:fJ S Ld XA f w z)(ZR:(cw S).Nodup)(XJ:bJ lo m false z.2):∀(d n:Nat),lst f z-n=d->f<=n->n<=lst f z->Mc S f (lst f z) ((aX S Ld).getD n 0):=by
 let ll:lst f z<S.length:=(RP.mp h.e).1;let fl:f<lst f z:=by show f<f+1+XE z.2;cbv
 intro d
 induction d using Nat.strongRecOn with
 | _ d ih=>
   intro n hd h1 h2;by_cases q:n=lst f z
   ·rw[q,jr ll (.inl h.dl)];exact⟨`a,RM _,.inl rfl⟩
   ·let st:=h.all ZR XJ n h1 `a;cases hr:aW (aT S (n:Int)) with
    | true=>
      rw[jr `a (.inr hr)];have:n≠f:=λe=>by
       rw[e,h.k] at hr;exact Xt hr `b
      exact⟨`a,`a,.inr hr⟩
    | false=>
      let⟨l,r,hL,hg⟩:=st.go hr;let⟨r0,r1⟩:=st.rg l (by rw[hL];exact RZ);rw[nN `a hL hr `a `a];by_cases ql:(n:Int)<l
      ·rw[Xv ql];exact ih (lst f z-l.toNat) `a l.toNat rfl `a `a
      ·rw[Xu ql];exact⟨`a,r1,.inr (hg.resolve_left ql)⟩
theorem kY (h:fJ S Ld XA f w z)(XJ:bJ lo m false z.2)(hh:iI z.2):aW (aT S ((f+1:Nat):Int))=true/\1<=XE z.2:=by
 let⟨t,ts,e,hb⟩:=hh;let hs:=h.s;rw[e] at hs XJ ⊢;rw[cf] at hs;simp only[bJ] at XJ;rw[XE];let hs:=hs.pre;cases t with
 | X6 x=>rw[spT] at hs;refine⟨?_,by simp only[bw];cbv⟩;rw[show((f+1:Nat):Int)=((f+1+0:Nat):Int) from rfl,(hs.k (i:=0) rfl).1];exact sZ
 | call x=>rw[spT] at hs;refine⟨?_,by simp only[bw];cbv⟩;rw[show((f+1:Nat):Int)=((f+1+0:Nat):Int) from rfl,(hs.k (i:=0) rfl).1];exact nT
 | ifs x A B=>rw[spT] at hs;refine⟨?_,by simp only[bw];cbv⟩;rw[show((f+1:Nat):Int)=((f+1+0:Nat):Int) from rfl,(hs.pre.pre.k (i:=0) rfl).1];exact m9
 | XR x A=>rw[spT] at hs;refine⟨?_,by simp only[bw];cbv⟩;rw[show((f+1:Nat):Int)=((f+1+0:Nat):Int) from rfl,(hs.pre.k (i:=0) rfl).1];exact gO
 | leave=>simp only[bX] at XJ;cases XJ.1
 | back=>cases hb
theorem fJ.first (h:fJ S Ld XA f w z)(XJ:bJ lo m false z.2)(hh:iI z.2):(aX S Ld).getD f 0=((f+1:Nat):Int):=by
 let ll:lst f z<S.length:=(RP.mp h.e).1;let ll:f+1+XE z.2<S.length:=ll;let⟨hr,h1⟩:=kY h XJ hh;rw[nN (n:=f) `a h.df (by rw[h.k];decide +kernel) `a `a,Xv `a,show((f:Int)+1).toNat=f+1 by cbv];exact jr `a (.inr hr)
def m7 (Ld:List Rl)(fd:Rl):Prop:=∀n∈fd,∀l∈Ld.getD n.toNat [],l∈fd
theorem m7.on {fd:Rl}(h:m7 Ld fd)(hn:(n:Int)∈fd)(hL:Ld.getD n []=ls)(hl:l∈ls):l∈fd:=h _ hn l (by rw[show((n:Nat):Int).toNat=n by cbv,hL];exact hl)
end
section
variable {fd:Rl}(hC:m7 Ld fd)
include hC
mutual
theorem goT:∀(t:Th)(lp:Bool)(a:Nat)(w u wl pe:Int),bX lo m lp t->cH S a (spT XA (a:Int) w u t)->cH Ld a (fQ (a:Int) wl pe t)->(a:Int)∈fd->(∀i,i<bw t->aT S ((a+i:Nat):Int)∈X5->((a+i:Nat):Int)∈fd)/\(fE t=true->((a+bw t:Nat):Int)∈fd)
 | .X6 x,lp,a,w,u,wl,pe,h,hS,hL,ha=>by
   rw[fQ] at hL;simp only[bw];refine⟨(λi hi _=>by cases (show i=0 by cbv);exact ha),(λ_=>?_)⟩;have:=hC.on ha (hL.d (i:=0) rfl []).1 (l:=(a:Int)+1) (RU.mpr rfl);push_cast;exact this
 | .call x,lp,a,w,u,wl,pe,h,hS,hL,ha=>by
   rw[fQ] at hL;simp only[bw];refine⟨(λi hi _=>by cases (show i=0 by cbv);exact ha),(λ_=>?_)⟩;have:=hC.on ha (hL.d (i:=0) rfl []).1 (l:=(a:Int)+1) (RU.mpr rfl);push_cast;exact this
 | .leave,lp,a,w,u,wl,pe,h,hS,hL,ha=>by
   simp only[bw];exact⟨(λi hi _=>by cases (show i=0 by cbv);exact ha),(λq=>by simp[fE] at q)⟩
 | .back,lp,a,w,u,wl,pe,h,hS,hL,ha=>by
   simp only[bw];exact⟨(λi hi _=>by cases (show i=0 by cbv);exact ha),(λq=>by simp[fE] at q)⟩
 | .XR x A,lp,a,w,u,wl,pe,h,hS,hL,ha=>by
   simp only[bX] at h;rw[spT] at hS;rw[fQ] at hL;simp only[bw];let⟨s1,s2⟩:=hS.app;let⟨s2,s3⟩:=s2.app;let⟨d1,d2⟩:=hL.app;let⟨d2,d3⟩:=d2.app;rw[cu] at s3;simp only[Sb,Sv] at s2 s3 d2 d3;let e1:=(d1.d (i:=0) rfl []).1;let g1:(((a+(0+1):Nat)):Int)∈fd:=by
    have:=hC.on ha e1 (l:=(a:Int)+1) RZ;push_cast;simpa using this
   let g2:(((a+(2+XE A):Nat)):Int)∈fd:=by
    have:=hC.on ha e1 (l:=(a:Int)+2+XE A) (RX _ (RU.mpr rfl));rwa [show(((a+(2+XE A):Nat)):Int)=(a:Int)+2+XE A by push_cast;cbv]
   let⟨q1,_⟩:=Ck A true (a+(0+1)) (w+2) (a:Int) ((a:Int)+2+XE A) pe h.2 (by push_cast;exact s2) (by push_cast;exact d2) g1;refine⟨λi hi hk=>?_,λ_=>g2⟩;by_cases i0:i=0
   ·subst i0;exact ha
   by_cases i1:i<1+XE A
   ·have:=q1 (i-1) `a (by rw[show a+(0+1)+(i-1)=a+i by cbv];exact hk);rwa [show a+(0+1)+(i-1)=a+i by cbv] at this
   ·obtain rfl:i=1+XE A:=`a
    let ke:=(s3.k (i:=0) rfl).1;rw[show a+(0+1)+XE A+0=a+(1+XE A) by cbv] at ke;rw[ke] at hk;exact Xt hk (show("end":Str)∉X5 by decide +kernel)
 | .ifs x A B,lp,a,w,u,wl,pe,h,hS,hL,ha=>by
   simp only[bX] at h;rw[spT,Sj] at hS;rw[fQ,Sj] at hL;simp only[bw];let⟨s1,s2⟩:=hS.app;let⟨s2,s3⟩:=s2.app;let⟨s3,s4⟩:=s3.app;let⟨s4,s5⟩:=s4.app;let⟨d1,d2⟩:=hL.app;let⟨d2,d3⟩:=d2.app;let⟨d3,d4⟩:=d3.app;let⟨d4,d5⟩:=d4.app;rw[cu] at s3 s4 s5;rw[cu] at s5;rw[eh] at d3 d4 d5;rw[eh] at d5;simp only[Sb,Sv] at s2 s3 s4 s5 d2 d3 d4 d5;let e1:=(d1.d (i:=0) rfl []).1;let e3:=(d3.d (i:=0) rfl []).1;let e5:=(d5.d (i:=0) rfl []).1;let g1:(((a+(0+1):Nat)):Int)∈fd:=by
    have:=hC.on ha e1 (l:=(a:Int)+1) RZ;push_cast;simpa using this
   let g2:(((a+(0+1)+XE A+(0+1):Nat)):Int)∈fd:=by
    have:=hC.on ha e1 (l:=(a:Int)+2+XE A) (RX _ (RU.mpr rfl));rwa [show(((a+(0+1)+XE A+(0+1):Nat)):Int)=(a:Int)+2+XE A by push_cast;cbv]
   let⟨q1,q2⟩:=Ck A lp (a+(0+1)) (w+2) (a:Int) wl pe h.2.1 (by push_cast;exact s2) (by push_cast;exact d2) g1;let q4:(((a+(0+1)+XE A+(0+1):Nat)):Int)=(a:Int)+2+XE A:=by push_cast;cbv
   let⟨q3,q5⟩:=Ck B lp (a+(0+1)+XE A+(0+1)) (w+3+(XU XA A).length) ((a:Int)+1+XE A) wl pe h.2.2 (by rw[q4];exact s4) (by rw[q4];exact d4) g2;let fin:(((a+(0+1)+XE A+(0+1)+XE B+0:Nat)):Int)∈fd->(((a+(3+XE A+XE B):Nat)):Int)∈fd:=λq=>by
    have:=hC.on q e5 (l:=(a:Int)+3+XE A+XE B) (RU.mpr rfl);rwa [show(((a+(3+XE A+XE B):Nat)):Int)=(a:Int)+3+XE A+XE B by push_cast;cbv]
   refine⟨λi hi hk=>?_,λhp=>fin ?_⟩
   ·by_cases i0:i=0
    ·subst i0;exact ha
    by_cases i1:i<1+XE A
    ·have:=q1 (i-1) `a (by rw[show a+(0+1)+(i-1)=a+i by cbv];exact hk);rwa [show a+(0+1)+(i-1)=a+i by cbv] at this
    by_cases i2:i=1+XE A
    ·subst i2;let ke:=(s3.k (i:=0) rfl).1;rw[show a+(0+1)+XE A+0=a+(1+XE A) by cbv] at ke;rw[ke] at hk;exact Xt hk (show("else":Str)∉X5 by decide +kernel)
    by_cases i3:i<2+XE A+XE B
    ·have:=q3 (i-(2+XE A)) `a (by rw[show a+(0+1)+XE A+(0+1)+(i-(2+XE A))=a+i by cbv];exact hk);rwa [show a+(0+1)+XE A+(0+1)+(i-(2+XE A))=a+i by cbv] at this
    ·obtain rfl:i=2+XE A+XE B:=`a
     let ke:=(s5.k (i:=0) rfl).1;rw[show a+(0+1)+XE A+(0+1)+XE B+0=a+(2+XE A+XE B) by cbv] at ke;rw[ke] at hk;exact Xt hk (show("end":Str)∉X5 by decide +kernel)
   ·simp only[fE,RE] at hp;obtain hp | hp:=hp
    ·let hel:=q2 hp;have:=hC.on (n:=a+(0+1)+XE A+0) hel e3 (l:=(a:Int)+2+XE A+XE B) (RU.mpr rfl);rwa [show(((a+(0+1)+XE A+(0+1)+XE B+0:Nat)):Int)=(a:Int)+2+XE A+XE B by push_cast;cbv]
    ·exact q5 hp
theorem Ck:∀(ts:`Z)(lp:Bool)(a:Nat)(w u wl pe:Int),bJ lo m lp ts->cH S a (cf XA (a:Int) w u ts)->cH Ld a (gG (a:Int) wl pe ts)->(a:Int)∈fd->(∀i,i<XE ts->aT S ((a+i:Nat):Int)∈X5->((a+i:Nat):Int)∈fd)/\(dD ts=true->((a+XE ts:Nat):Int)∈fd)
 | [],lp,a,w,u,wl,pe,h,hS,hL,ha=>by
   rw[XE];exact⟨λi hi=>`a,λ_=>ha⟩
 | t::ts,lp,a,w,u,wl,pe,h,hS,hL,ha=>by
   simp only[bJ] at h;rw[cf] at hS;rw[gG] at hL;rw[XE];let⟨s1,s2⟩:=hS.app;let⟨d1,d2⟩:=hL.app;rw[kP] at s2;rw[pD] at d2;let⟨q1,q2⟩:=goT t lp a w u wl pe h.1 s1 d1 ha;obtain hp | hp:=h.2.1
   ·let⟨q3,q4⟩:=Ck ts lp (a+bw t) (w+(c6 XA t).length) u wl pe h.2.2 (by push_cast;exact s2) (by push_cast;exact d2) (q2 hp);refine⟨λi hi hk=>?_,λhpp=>?_⟩
    ·by_cases q:i<bw t
     ·exact q1 i q hk
     ·have:=q3 (i-bw t) `a (by rw[show a+bw t+(i-bw t)=a+i by cbv];exact hk);rwa [show a+bw t+(i-bw t)=a+i by cbv] at this
    ·rw[dD,Rx] at hpp;have:=q4 hpp.2;rwa [show a+bw t+XE ts=a+(bw t+XE ts) by cbv] at this
   ·subst hp;rw[XE];refine⟨λi hi hk=>q1 i `a hk,λhpp=>?_⟩;rw[dD,Rx] at hpp;exact q2 hpp.1
end
end
structure FC (XA:Rm)(lo m:Int)(s:aH):Prop where
 np:s.kind≠"part"
 cl:s.kind="call"->∃j:Int,lo<j/\j<m/\s.name=XA.getD j.toNat ""
theorem gM (h1:s.kind≠"part")(h2:s.kind≠"call"):FC XA lo m s:=⟨h1,λe=>Xt e h2⟩
theorem all1 {P:aH->Prop}(h:P s):∀x∈[s],P x:=λx hx=>by rw[RU.mp hx];exact h
theorem qC {P:aH->Prop}{a b:`N}(h:∀x∈a,P x)(h':∀x∈b,P x):∀x∈a++b,P x:=λx hx=>(Se.mp hx).elim (h x) (h' x)
mutual
theorem Mz {XA:Rm}{lo m:Int}:∀(t:Th)(lp:Bool)(a w u:Int),bX lo m lp t->∀s∈spT XA a w u t,FC XA lo m s
 | .X6 x,lp,a,w,u,h=>by rw[spT];exact all1 (gM (show("do":Str)≠"part" by decide +kernel) (show("do":Str)≠"call" by decide +kernel))
 | .call j,lp,a,w,u,h=>by
   simp only[bX] at h;rw[spT];exact all1 ⟨show("call":Str)≠"part" by decide +kernel,λ_=>⟨j,h.1,h.2,rfl⟩⟩
 | .leave,lp,a,w,u,h=>by rw[spT];exact all1 (gM (show("leave":Str)≠"part" by decide +kernel) (show("leave":Str)≠"call" by decide +kernel))
 | .back,lp,a,w,u,h=>by rw[spT];exact all1 (gM (show("back":Str)≠"part" by decide +kernel) (show("back":Str)≠"call" by decide +kernel))
 | .XR x A,lp,a,w,u,h=>by
   simp only[bX] at h;rw[spT];exact qC (all1 (gM (show("while":Str)≠"part" by decide +kernel) (show("while":Str)≠"call" by decide +kernel))) (qC (lh A true _ _ _ h.2) (all1 (gM (show("end":Str)≠"part" by decide +kernel) (show("end":Str)≠"call" by decide +kernel))))
 | .ifs x A B,lp,a,w,u,h=>by
   simp only[bX] at h;rw[spT];exact qC (qC (all1 (gM (show("if":Str)≠"part" by decide +kernel) (show("if":Str)≠"call" by decide +kernel))) (lh A lp _ _ _ h.2.1)) (qC (all1 (gM (show("else":Str)≠"part" by decide +kernel) (show("else":Str)≠"call" by decide +kernel))) (qC (lh B lp _ _ _ h.2.2) (all1 (gM (show("end":Str)≠"part" by decide +kernel) (show("end":Str)≠"call" by decide +kernel)))))
theorem lh {XA:Rm}{lo m:Int}:∀(ts:`Z)(lp:Bool)(a w u:Int),bJ lo m lp ts->∀s∈cf XA a w u ts,FC XA lo m s
 | [],lp,a,w,u,h=>by rw[cf];intro s hs;cases hs
 | t::ts,lp,a,w,u,h=>by
   simp only[bJ] at h;rw[cf];exact qC (Mz t lp _ _ _ h.1) (lh ts lp _ _ _ h.2.2)
end
theorem call_in {XA:Rm}{j:Int}:∀{ts:`Z}(a w u:Int),Th.call j∈ts->∃s∈cf XA a w u ts,s.kind="call"/\s.name=XA.getD j.toNat ""
 | t::ts,a,w,u,h=>by
   rw[cf];obtain rfl | h:=R9.mp h
   ·exact⟨_,Sg _ (by rw[spT];exact RU.mpr rfl),rfl,rfl⟩
   ·let⟨s,hs,h1⟩:=call_in (XA:=XA) (j:=j) (ts:=ts) (a+bw t) (w+(c6 XA t).length) u h;exact⟨s,Sa _ hs,h1⟩
def jS (k:Str):Nat:=((cM dF k).getD []).length
noncomputable def lK (S:`N):Nat:=(S.map λs=>jS s.kind).sum
theorem ij (a b:`N):lK (a++b)=lK a+lK b:=by unfold lK;rw[Sf,Ui]
theorem gN (s:aH):lK [s]=jS s.kind:=by unfold lK;simp
mutual
theorem rkT {XA:Rm}:∀(t:Th)(a w u:Int),lK (spT XA a w u t)=cn t
 | .X6 x,a,w,u=>by rw[spT,gN,cn];show jS "do"=1;decide +kernel
 | .call x,a,w,u=>by rw[spT,gN,cn];show jS "call"=1;decide +kernel
 | .leave,a,w,u=>by rw[spT,gN];simp only[cn];show jS "leave"=0;decide +kernel
 | .back,a,w,u=>by rw[spT,gN];simp only[cn];show jS "back"=0;decide +kernel
 | .XR x A,a,w,u=>by
   rw[spT,cn,ij,ij,gN,gN,Aj A,show jS "while"=2 by decide +kernel,show jS "end"=0 by decide +kernel];cbv
 | .ifs x A B,a,w,u=>by
   rw[spT,cn,ij,ij,ij,ij,gN,gN,gN,Aj A,Aj B,show jS "if"=2 by decide +kernel,show jS "end"=0 by decide +kernel,show jS "else"=0 by decide +kernel];cbv
theorem Aj {XA:Rm}:∀(ts:`Z)(a w u:Int),lK (cf XA a w u ts)=bW ts
 | [],a,w,u=>by rw[cf,bW];rfl
 | t::ts,a,w,u=>by rw[cf,bW,ij,rkT t,Aj ts]
end
variable {Kp:Rl}{r:Rw}
theorem Pw {XA:Rm}:∀(zs:List (Str×List Th))(a w:Int),lK (iX XA a w zs)=(zs.map λz=>bW z.2).sum
 | [],a,w=>by rw[iX];rfl
 | z::r,a,w=>by
   rw[iX,ij,ij,ij,gN,gN,Aj,Pw r,show jS "part"=0 by decide +kernel,show jS "end"=0 by decide +kernel,Sx,TZ];cbv
theorem xl {α β:Type}{f:α->List β}{g:α->Nat}(h:∀x,(f x).length<=g x):∀xs:List α,(xs.flatMap f).length<=(xs.map g).sum
 | []=>Ul _
 | x::xs=>by
   rw[S6,RY,Sx,TZ];have:=h x;have:=xl h xs;cbv
theorem Fm (S:`N)(Ld:List Rl)(St:Rl):(gc S Ld St).length<=lK S:=by
 have:=xl (f:=dX Ld St) (g:=λz=>jS z.2.kind) (λz=>by
  unfold dX jU;rw[RS,Tv];exact Uz _ _) (nums S)
 refine Um this (UI ?_);unfold lK
 conv=>rhs;rw[← qY S]
 rw[S0];rfl
theorem nK {St:Rl}(h:r∈gc S Ld St):∃(n:Nat)(s:aH)(l:Int),S[n]?∣s/\r.1=(n:Int)/\aW s.kind=true/\l∈Ld.getD n []/\r.2.1=St.getD l.toNat 0:=by
 unfold gc at h;let⟨z,hz,hr⟩:=TL.mp h;unfold dX at hr;let⟨y,hy,rfl⟩:=Sk.mp hr;let⟨i,hi⟩:=Sh.mp hz;let⟨e1,e2⟩:=fD hi;unfold jU at hy;let⟨h1,h2⟩:=TN (show(y.1,y.2)∈_ from hy);rw[e1,show((i:Nat):Int).toNat=i by cbv] at h2;refine⟨i,z.2,y.2,e2,e1,?_,h2,rfl⟩;unfold aW;cases q:cM dF z.2.kind with
 | none=>rw[q] at h1;cases h1
 | some v=>rfl
theorem Fq {k:Str}(h:aW k=true):k∈X5:=by
 unfold aW cM at h;split at h
 ·rename_i e;rw[← e];decide +kernel
 unfold cM at h;split at h
 ·rename_i e;rw[← e];decide +kernel
 unfold cM at h;split at h
 ·rename_i e;rw[← e];decide +kernel
 unfold cM at h;split at h
 ·rename_i e;rw[← e];decide +kernel
 ·cases h
theorem C9:∀{l m:Rl},l.Nodup->(∀x∈l,x∈m)->l.length<=m.length
 | [],m,_,_=>Ul _
 | x::l,m,nd,h=>by
   let⟨n1,n2⟩:=Sn.mp nd;let hx:=h x RZ;have:=C9 (l:=l) (m:=m.erase x) n2 λy hy=>by
    have:y≠x:=λe=>n1 (e▸hy);exact(List.mem_erase_of_ne this).mpr (h y (RX _ hy))
   rw[List.length_erase_of_mem hx] at this;have:0<m.length:=List.length_pos_of_mem hx;rw[Sb];cbv
noncomputable def jE (Kp:Rl)(F:Rt):Prop:=(F.map (·.1)).Nodup/\∀x∈F.map (·.1),x∈Kp
theorem jE.put (h:jE Kp F){k:Int}(hk:k∈Kp):jE Kp (cT F k):=by
 unfold cT;split
 ·exact h
 ·rename_i hn;let hnk:k∉F.map (·.1):=λz=>hn (iL.mpr z);refine⟨by rw[Sf];exact iN h.1 hnk,λx hx=>?_⟩;rw[Sf] at hx;obtain z | z:=Se.mp hx
  ·exact h.2 x z
  ·rw[show x=k by simpa using z];exact hk
theorem jE.rows {p:ic}:∀{rs:List Rw}{F:Rt},jE Kp F->(∀r∈rs,hV p r=true->r.1∈Kp/\r.2.1∈Kp)->jE Kp (rs.foldl (eu p) F)
 | [],F,h,_=>h
 | r::rs,F,h,hr=>by
   rw[SY];refine jE.rows ?_ λx hx=>hr x (RX _ hx);unfold eu;split
   ·rename_i hi;let⟨h1,h2⟩:=hr r RZ hi;exact(h.put h1).put h2
   ·exact h
theorem jE.len (h:jE Kp F):F.length<=Kp.length:=by
 have:=C9 h.1 h.2;rwa [RS] at this
theorem zy:∀S:List aH,(S.filter λs=>aW s.kind).length<=lK S
 | []=>Ul _
 | s::S=>by
   let ih:=zy S;let e:lK (s::S)=jS s.kind+lK S:=by unfold lK;rw[Sx,TZ]
   rw[e];by_cases h:aW s.kind=true
   ·rw[S4 (p:=λ(s:aH)=>aW s.kind) h,Sb];have:1<=jS s.kind:=by
     unfold jS;unfold aW cM at h;unfold cM;split at h
     ·rename_i e;rw[Xv e];decide
     rename_i e;rw[Xu e];unfold cM at h ⊢;split at h
     ·rename_i e;rw[Xv e];decide
     rename_i e;rw[Xu e];unfold cM at h ⊢;split at h
     ·rename_i e;rw[Xv e];decide
     rename_i e;rw[Xu e];unfold cM at h ⊢;split at h
     ·rename_i e;rw[Xv e];decide
     ·cases h
    cbv
   ·rw[S5 (p:=λ(s:aH)=>aW s.kind) h];cbv
theorem MF (h:∀s∈S,s.kind≠"part"):Yt S=[]:=by
 unfold Yt;rw[S9.mpr λs hs=>by simpa using h s hs];rfl
theorem JQ {XA:Rm}{m:Int}:∀(zs:List (Str×List Th))(a w:Int),(∀z∈zs,∃lo,bJ lo m false z.2)->Yt (iX XA a w zs)=zs.map (·.1)
 | [],a,w,_=>by rw[iX];rfl
 | z::r,a,w,h=>by
   let⟨lo,hz⟩:=h z RZ;rw[iX,nk,nk,nk,JQ r _ _ λy hy=>h y (RX _ hy),MF λs hs=>(lh (XA:=XA) z.2 false _ _ _ hz s hs).np];rfl
theorem xk (S:`N):(c5 S).map (·.1)=Yt S:=by
 unfold c5 Yt
 conv=>rhs;rw[← qY S]
 rw[T8,S0,S0];rfl
section
variable (h:`aK)
include h
theorem LA:(de XA Ls).map (·.1)=XA:=List.map_fst_zip (by rw[h.l];exact Uk _)
theorem My:(de XA Ls).map (·.2)=Ls:=List.map_snd_zip (by rw[h.l];exact Uk _)
theorem Nw:∀z∈de XA Ls,∃lo,bJ lo (Ls.length:Int) false z.2:=λz hz=>by
 let⟨j,hj⟩:=Sh.mp hz;exact⟨_,(eU h hj).1⟩
theorem GC:Yt `i=XA:=by
 rw[JQ (m:=(Ls.length:Int)) _ _ _ (Nw h),LA h]
theorem vI:(c5 `i).map (·.1)=XA:=by rw[xk,GC h]
theorem Nr:(aw XA Ls).length<=240:=by
 let⟨pl,_⟩:=vV h;let⟨e,_⟩:=uV h;let⟨i1,i2,_⟩:=wG (lA XA Ls) (dt (XA.zip Ls));rw[e] at i1 i2;dsimp only at i1 i2;cbv
theorem yO (hn:n<(aw XA Ls).length)(hk:aT `i (n:Int)="part"):∃(j:Nat)(z:Str×List Th)(w:Int),(de XA Ls)[j]?∣z/\fJ `i `D XA `k w z/\n=fst XA Ls j:=by
 let⟨j,z,w,hz,hb,h1,h2,h3⟩:=m8 h n hn;refine⟨j,z,w,hz,hb,?_⟩;obtain q | q:=Ut `k n
 ·exfalso;by_cases e:n=lst `k z
  ·rw[e,(dz hb.e).1] at hk;exact Xt hk (show("end":Str)≠"part" by decide +kernel)
  ·let h2':n<fst XA Ls j+1+XE z.2:=UB h2 e;let hi:n-`an<(cf XA (((fst XA Ls j+1:Nat)):Int) (w+2) (fst XA Ls j:Int) z.2).length:=by rw[cu];cbv
   let hs:=hb.s.k (RQ hi);rw[show fst XA Ls j+1+(n-`an)=n by cbv] at hs;rw[hs.1] at hk;exact(lh (XA:=XA) z.2 false _ _ _ (eU h hz).1 _ (SD hi)).np hk
 ·cbv
theorem nF {p:ic}(hp:p∈c5 `i):∃(j:Nat)(z:Str×List Th)(w:Int),(de XA Ls)[j]?∣z/\fJ `i `D XA `k w z/\p=(z.1,((fst XA Ls j:Nat):Int),((lst `k z:Nat):Int)):=by
 unfold c5 at hp;let⟨y,hy,rfl⟩:=Sk.mp hp;let⟨hy,hk⟩:=SJ.mp hy;let⟨n,nl,e1,e2⟩:=pO hy;let YN:aT `i (n:Int)="part":=by
  unfold aT;rw[show((n:Nat):Int).toNat=n by cbv,e2];exact Xw hk
 let⟨j,z,w,hz,hb,e3⟩:=yO h nl YN;refine⟨j,z,w,hz,hb,?_⟩;subst e3;unfold K4;rw[e1,hb.cl kx];have:y.2=⟨"part",z.1,w, -1⟩:=by rw[← e2,RR,hb.nm];rfl
 rw[this];rfl
end
variable {v:gZ}
theorem Dz (l:`u)(d:α)(p:α->Bool):((Sd l.length).filter λi=>p (l.getD i d)).length=(l.filter p).length:=by
 let e:(Sd l.length).map (λi=>l.getD i d)=l:=by
  refine SV λi=>?_;rw[R6];obtain h | h:=Ut i l.length
  ·rw[SU h,RQ h];show some (l.getD i d)=_;rw[RR,RQ h];rfl
  ·rw[Sr (~~~h),Sr h];rfl
 conv=>rhs;rw[← e,T8,RS]
 rfl
noncomputable def oh (S:`N)(f:Nat)(z:Str×List Th):Rl:=((Sd (XE z.2)).filter λi=>aW (aT S ((f+1+i:Nat):Int))).map (λi=>((f+1+i:Nat):Int))++[((lst f z:Nat):Int)]
theorem jQ {f:Nat}{v:Int}(h:Mc S f (lst f z) v):v∈oh S f z:=by
 let⟨h1,h2,h3⟩:=h;unfold oh;by_cases q:v=((lst f z:Nat):Int)
 ·exact Sa _ (by rw[q];exact RU.mpr rfl)
 ·let h2':v<=((f+1+XE z.2:Nat):Int):=h2;let q':v≠((f+1+XE z.2:Nat):Int):=q;refine Sg _ (Sk.mpr ⟨v.toNat-(f+1),SJ.mpr ⟨S3.mpr `a,?_⟩,`a⟩);rw[show((f+1+(v.toNat-(f+1)):Nat):Int)=v by cbv];exact h3.resolve_left q
theorem Dd {f:Nat}{w:Int}(h:fJ S Ld XA f w z)(hr:bW z.2<=14):(oh S f z).length<=16:=by
 unfold oh;rw[RY,RS,Sz];let e:((Sd (XE z.2)).filter λi=>aW (aT S ((f+1+i:Nat):Int)))=((Sd (cf XA (((f+1:Nat)):Int) (w+2) (f:Int) z.2).length).filter λi=>aW ((cf XA (((f+1:Nat)):Int) (w+2) (f:Int) z.2).getD i dA).kind):=by
  rw[cu];refine Ub λi hi=>?_;let hi:i<(cf XA (((f+1:Nat)):Int) (w+2) (f:Int) z.2).length:=by rw[cu];exact S3.mp hi
  rw[(h.s.k (RQ hi)).1,RR,RQ hi];rfl
 rw[e,Dz `ay dA λs=>aW s.kind];have:=zy `ay;rw[Aj] at this;cbv
theorem qL (h:`aK):qE `i `D/\Good (X0 `i `D):=by
 let⟨hLd,hLi,hl2⟩:=Ew h;let hS:=Nr h;refine⟨⟨hS,hLd,hLi,λn hn hk=>?_⟩,?_⟩
 ·let⟨j,z,w,hz,hb,e⟩:=yO h hn hk;subst e;rw[hb.cl kx];rfl
 let bl:∀{j:Nat}{z:Str×List Th}{w:Int},fJ `i `D XA `k w z->fst XA Ls j<(aw XA Ls).length:=λhb=>(RP.mp hb.nm).1;let hn:=vI h;let hlp:(c5 `i).length=XA.length:=by rw[← congrArg List.length hn,RS]
 refine⟨hS,?_,?_,λp hp=>?_,hLi,hl2,kQ _ (Uk _),?_,λn t ht hk=>?_,λfd hR n Z1 hk=>?_,λp hp=>?_,λp hp=>?_,?_,λr hr=>?_,λp hp=>?_⟩
 ·show(c5 `i).length<=4;rw[hlp,h.l];exact h.l4
 ·show((c5 `i).map (·.1)).Nodup;rw[hn];exact h.nd
 ·let⟨j,z,w,hz,hb,rfl⟩:=nF h hp;have:=bl hb;exact⟨by show(0:Int)<=((fst XA Ls j:Nat):Int);cbv,by show((fst XA Ls j:Nat):Int)<((aw XA Ls).length:Int);cbv⟩
 ·show(Yt `i).Nodup;rw[GC h];exact h.nd
 ·-- XB
  let ht:(aw XA Ls)[n]?∣t:=ht;let Z1:=(RP.mp ht).1;let⟨j,z,w,hz,hb,h1,h2,h3⟩:=m8 h n Z1;let YN:=(dz ht).1;let XS:n≠fst XA Ls j:=λe=>by
   rw[e,hb.k,hk] at YN;exact Xt YN `b
  let hnl:n≠lst `k z:=λe=>by
   rw[e,(dz hb.e).1,hk] at YN;exact Xt YN (show("end":Str)≠"call" by decide +kernel)
  let h2':n<fst XA Ls j+1+XE z.2:=UB h2 hnl;let hi:n-`an<(cf XA (((fst XA Ls j+1:Nat)):Int) (w+2) (fst XA Ls j:Int) z.2).length:=by rw[cu];cbv
  let hs:=hb.s _ _ (RQ hi);rw[show fst XA Ls j+1+(n-`an)=n by cbv,ht] at hs;let ko:=lh (XA:=XA) z.2 false _ _ _ (eU h hz).1 _ (SD hi);rw[← Option.some.inj hs] at ko;let⟨c,c1,c2,c3⟩:=ko.cl hk;let hcl:c.toNat<XA.length:=by rw[h.l];cbv
  let hcz:c.toNat<(de XA Ls).length:=by rw[Tv,h.l];cbv
  let⟨w',YO⟩:=h9 (XA:=XA) (Ls:=Ls) (RQ hcz);let Yq:=pA `M j c.toNat z hz `a;refine⟨fst XA Ls c.toNat,_,?_,YO.nm,rfl,?_⟩
  ·have:fst XA Ls j+2+XE z.2<=fst XA Ls c.toNat:=Yq;cbv
  ·rw[c3];let hz':=(eU h (RQ hcz)).2.2.2.1;rw[RR,hz'];rfl
 ·-- coming to each sentence
  let⟨hR1,Zu⟩:=hR;let Z1:n<(aw XA Ls).length:=Z1;let⟨j,z,w,hz,hb,h1,h2,h3⟩:=m8 h n Z1;let YN:aT `i (n:Int)∈X5:=hk;let XS:n≠fst XA Ls j:=λe=>by
   rw[e,hb.k] at YN;exact Xt YN `b
  let hnl:n≠lst `k z:=λe=>by
   rw[e,(dz hb.e).1] at YN;exact Xt YN (show("end":Str)∉X5 by decide +kernel)
  let h2':n<fst XA Ls j+1+XE z.2:=UB h2 hnl;let hf:((fst XA Ls j:Nat):Int)∈fd:=by
   refine hR1 (z.1,((fst XA Ls j:Nat):Int),(bb (eW `i) ((fst XA Ls j:Nat):Int)).getD 0) ?_;show _∈c5 `i;unfold c5;exact Sk.mpr ⟨(((fst XA Ls j:Nat):Int),⟨"part",z.1,w, -1⟩),SJ.mpr ⟨qF hb.nm,Xy rfl⟩,rfl⟩
  let hC:m7 `D fd:=Zu;let hf1:=hC.on hf hb.df (l:=((fst XA Ls j:Nat):Int)+1) (RU.mpr rfl);have:=(Ck (XA:=XA) (S:=aw XA Ls) hC z.2 false `an (w+2) _ 0 _ (eU h hz).1 hb.s hb.d (by push_cast;exact hf1)).1 (n-`an) `a (by rw[show fst XA Ls j+1+(n-`an)=n by cbv];exact YN);rwa [show fst XA Ls j+1+(n-`an)=n by cbv] at this
 ·-- each later part is called
  let hp:p∈(c5 `i).drop 1:=hp;let⟨k,hk⟩:=Sh.mp hp;rw[T6] at hk;let hnk:XA[1+k]?∣p.1:=by rw[← hn,R6,hk];rfl
  let hkl:=(RP.mp hnk).1;let⟨L,hL,hcL⟩:=h.cl (1+k) `a (by rw[← h.l];exact hkl);let⟨i,hi⟩:=Sh.mp hL;let il:=(RP.mp hi).1;let hiz:i<(de XA Ls).length:=by rw[Tv,h.l];cbv
  let⟨w',YO⟩:=h9 (XA:=XA) (Ls:=Ls) (RQ hiz);let e2:=(eU h (RQ hiz)).2.2.2.2;rw[hi] at e2;let e2:=Option.some.inj e2;let⟨s,hs,s1,s2⟩:=call_in (XA:=XA) (((fst XA Ls i+1:Nat)):Int) (w'+2) ((fst XA Ls i:Nat):Int) hcL;rw[e2] at hs;let⟨q,hq⟩:=Sh.mp hs;refine⟨s,R7 (YO.s q s hq),s1,?_⟩;rw[s2,show(((1+k:Nat)):Int).toNat=1+k by cbv,RR,hnk];rfl
 ·-- no part ends at XF begin
  let⟨j,z,w,hz,hb,rfl⟩:=nF h hp;let⟨YZ,Zr,ok3,_⟩:=eU h hz;show(aX `i `D).getD ((fst XA Ls j:Nat):Int).toNat 0≠((lst `k z:Nat):Int);rw[show((fst XA Ls j:Nat):Int).toNat=fst XA Ls j by cbv,hb.first YZ Zr];have:=(kY hb YZ Zr).2;show((fst XA Ls j+1:Nat):Int)≠((fst XA Ls j+1+XE z.2:Nat):Int);cbv
 ·-- rows
  show(gc `i `D (aX `i `D)).length<=30;refine Um (Fm _ _ _) ?_;rw[Pw];let e:(de XA Ls).map (λz=>bW z.2)=Ls.map bW:=by
   conv=>rhs;rw[← My h]
   rw[S0];rfl
  show((de XA Ls).map λz=>bW z.2).sum<=30;rw[e];exact h.tot
 ·let⟨n,s,l,h1,h2,h3,_⟩:=nK hr;let Z1:=(RP.mp h1).1;rw[h2];refine⟨⟨`a,by show(n:Int)<((aw XA Ls).length:Int);cbv⟩,?_⟩;show aT `i (n:Int)∈X5;rw[(dz h1).1];exact Fq h3
 ·-- places
  let⟨j,z,w,hz,hb,rfl⟩:=nF h hp;let⟨YZ,Zr,ok3,_⟩:=eU h hz;let fl:fst XA Ls j<lst `k z:=by show _<fst XA Ls j+1+XE z.2;cbv
  let YE:=λn h1 h2=>hb.AX kx YZ _ n rfl h1 h2;refine Um (jE.len (Kp:=oh `i `k z) ?_) (Dd hb ok3);refine jE.rows ?_ λr hr hi=>?_
  ·let XS:(aX `i `D).getD `k 0≠((lst `k z:Nat):Int):=by
    rw[hb.first YZ Zr];have:=(kY hb YZ Zr).2;show((fst XA Ls j+1:Nat):Int)≠((fst XA Ls j+1+XE z.2:Nat):Int);cbv
   let e0:(X0 `i `D).St.getD ((fst XA Ls j:Nat):Int).toNat 0=(aX `i `D).getD `k 0:=by rw[show((fst XA Ls j:Nat):Int).toNat=fst XA Ls j by cbv];rfl
   dsimp only;rw[e0];refine⟨?_,λx hx=>?_⟩
   ·exact Sn.mpr ⟨λq=>XS (RU.mp q),Sn.mpr ⟨`d,Tx⟩⟩
   ·let hx:x=(aX `i `D).getD `k 0∨x=((lst `k z:Nat):Int):= ~~~hx
    obtain rfl | rfl:=hx
    ·exact jQ (YE _ (Uk _) `a)
    ·exact jQ ⟨`a,RM _,.inl rfl⟩
  ·let⟨n,s,l,h1,h2,h3,h4,h5⟩:=nK hr;unfold hV at hi;rw[Rx] at hi;let i1:((fst XA Ls j:Nat):Int)<r.1:=Xw hi.1;let i2:r.1<((lst `k z:Nat):Int):=Xw hi.2;rw[h2] at i1 i2;let YN:aT `i (n:Int)=s.kind:=(dz h1).1;let st:=hb.all kx YZ n `a `a;let rg:=st.rg l h4;refine⟨?_,?_⟩
   ·rw[h2];exact jQ ⟨i1,`a,.inr (by rw[YN];exact h3)⟩
   ·rw[h5];exact jQ (YE l.toNat `a `a)
theorem HZ:Pure:=λXA Ls h=>⟨cC XA Ls,qL h⟩
structure kJ (mg:Rj):Prop where
 isinstance:mg "isinstance"=none
 bool:mg "bool"=none
 max:mg "max"=none
 ZK:∃t,mg "NO_CALL"∣(.int (-1) t)
 first:∃t,mg "FIRST_PART"∣.int 0 t
 yes:∃t,mg "YES"∣.int 1 t
 ended:∃t,mg "ENDED"∣(.str "ended" t)
 bound:∃t,mg "BOUND"∣(.str "bound" t)
 Z6:∃t,mg "WANTING"∣(.str "wanting" t)
abbrev g8:=Rt
abbrev n6:Row:=(0,0,0,0)
def rowOf (v:gZ)(k:Int):Row:=v.2.getD k.toNat n6
noncomputable def me (v:gZ)(p q:Int):Rl:=(ups 0 v.2.length).filter λk=>decide (((rowOf v k).1,(rowOf v k).2.1)=(p,q))
theorem kD {st:g8}(h:st≠[]):st.dropLast++[st.getLast h]=st:=SS h
def trim (st:g8):g8:=(st.reverse.dropWhile λt=>decide (t.2=1)).reverse
theorem wZ:trim []=[]:=rfl
theorem qR {st:g8}(h:st≠[])(e:(st.getLast h).2=1):trim st=trim st.dropLast:=by
 let e1:st.reverse=st.getLast h::st.dropLast.reverse:=by
  have:=congrArg List.reverse (kD h);rw[← this];simp
 unfold trim;rw[e1,List.dropWhile_cons,Xv (Xy e)]
theorem oU {st:g8}(h:st≠[])(e:(st.getLast h).2≠1):trim st=st:=by
 let e1:st.reverse=st.getLast h::st.dropLast.reverse:=by
  have:=congrArg List.reverse (kD h);rw[← this];simp
 unfold trim;rw[e1,List.dropWhile_cons,Xu (~~~e),← e1,List.reverse_reverse]
theorem qM:∀(n:Nat)(st:g8),st.length=n->∃s',st=trim st++s'/\(∀t∈s',t.2=1)/\∀h:trim st≠[],((trim st).getLast h).2≠1
 | 0,st,hn=>by
   have:st=[]:=T2.mp hn;subst this;rw[wZ];exact⟨[],rfl,`d,λh=>Xt rfl h⟩
 | n+1,st,hn=>by
   let XS:st≠[]:=λe=>by rw[e] at hn;simp at hn
   by_cases e:(st.getLast XS).2=1
   ·let⟨s',h1,h2,h3⟩:=qM n st.dropLast (by rw[Tw,hn];rfl);rw[qR XS e];refine⟨s'++[st.getLast XS],?_,λt ht=>?_,h3⟩
    ·rw[← Sj,← h1];exact(kD XS).symm
    ·obtain q | q:=Se.mp ht
     ·exact h2 t q
     ·rw[RU.mp q];exact e
   ·rw[oU XS e];exact⟨[],`d,`d,λ_=>e⟩
structure mx (v:gZ):Prop where
 pl:v.1.length<=4
 p1:1<=v.1.length
 rl:v.2.length<=30
 sz:∀n∈v.1,2<=n/\n<=16
 rw:∀r∈v.2,(0<=r.1/\r.1<(v.1.length:Int))/\(0<=r.2.1/\r.2.1<v.1.getD r.1.toNat 0)/\(0<=r.2.2.1/\r.2.2.1<v.1.getD r.1.toNat 0)/\(r.2.2.2= -1∨(0<=r.2.2.2/\r.2.2.2<(v.1.length:Int)))
 fr:∀p k:Nat,p<v.1.length->(k:Int)<v.1.getD p 0->k≠1->∃(n:Nat)(r:Row),v.2[n]?∣r/\r.1=(p:Int)/\r.2.1=(k:Int)
theorem qv {α β:Type}{P:α->List β->Prop}(hp:∀x ys,P x ys->ys=[]):∀{xs:`u}{Yl:List (List β)},PySem.Paired P xs Yl->Yl=SW xs.length []
 | _,_,.nil=>rfl
 | _,_,.cons h t=>by rw[Sb,List.replicate_succ,qv hp t,hp _ _ h]
noncomputable def kG (v:gZ)(p:Int)(i:Nat)(q:Int):Rl:=(ups 0 i).filter λk=>decide (((rowOf v k).1,(rowOf v k).2.1)=(p,q))
theorem xc (i:Nat):ups 0 (i+1)=ups 0 i++[(i:Int)]:=by
 unfold ups;rw[Tf,Sf];simp
theorem sh (v:gZ)(p:Int)(i:Nat)(q:Int):kG v p (i+1) q=kG v p i q++(if(rowOf v (i:Int)).1=p/\(rowOf v (i:Int)).2.1=q then[(i:Int)] else[]):=by
 unfold kG;rw[xc,SH];congr 1;by_cases h:(rowOf v (i:Int)).1=p/\(rowOf v (i:Int)).2.1=q
 ·rw[Xv h,S4 (by simp[h.1,h.2])];rfl
 ·rw[Xu h,S5 (by simp;exact λa b=>h ⟨a,b⟩)];rfl
noncomputable def jK (v:gZ)(p:Int)(n i:Nat):List Rl:=(ups 0 n).map (kG v p i)
noncomputable def kg (v:gZ)(p:Int):List Rl:=(ups 0 (v.1.getD p.toNat 0).toNat).map (me v p)
theorem kZ (v:gZ)(p:Int)(n i:Nat):(jK v p n i).length=n:=by unfold jK;rw[RS,bp]
theorem tN (h:j<n):(ups 0 n)[j]?∣(j:Int):=by unfold ups;rw[R6,SU h];simp
theorem pQ {p:Int}(h:j<n):(jK v p n i)[j]?∣(kG v p i (j:Int)):=by unfold jK;rw[R6,tN h];rfl
theorem B6 {p:Int}(h:(rowOf v (i:Int)).1≠p):jK v p n (i+1)=jK v p n i:=by
 unfold jK;refine Tj λq hq=>?_;rw[sh,Xu (λz=>h z.1),Sl]
theorem F3 {p:Int}(h:(rowOf v (i:Int)).1=p)(s0:0<=(rowOf v (i:Int)).2.1)(s1:(rowOf v (i:Int)).2.1<(n:Int)):(jK v p n i).set (rowOf v (i:Int)).2.1.toNat (kG v p i (rowOf v (i:Int)).2.1++[(i:Int)])=jK v p n (i+1):=by
 apply SV;intro j;by_cases hj:j<n
 ·rw[pQ hj,sh];by_cases e:(rowOf v (i:Int)).2.1.toNat=j
  ·subst e;rw[R8 (by rw[kZ];exact hj),Xv ⟨h,`a⟩];rw[show(((rowOf v (i:Int)).2.1.toNat:Nat):Int)=(rowOf v (i:Int)).2.1 by cbv]
  ·rw[Ss e,pQ hj,Xu (λz=>e (by have:=z.2;cbv)),Sl]
 ·rw[Sr (by rw[SF,kZ];cbv),Sr (by rw[kZ];cbv)]
theorem uP (v:gZ)(p:Int)(i:Nat)(q:Int):(kG v p i q).length<=i:=by
 unfold kG;refine Um (Tn _ _) ?_;rw[bp];exact Uk _
theorem Ei {p q:Int}(q0:0<=q)(q1:q<v.1.getD p.toNat 0):(kg v p)[q.toNat]?∣me v p q:=by
 have:=pQ (v:=v) (p:=p) (n:=(v.1.getD p.toNat 0).toNat) (i:=v.2.length) (j:=q.toNat) `a;rw[show((q.toNat:Nat):Int)=q by cbv] at this;exact this
theorem boot_bool:Vq "bool"∣(.type "bool"):=`b
variable {st:g8}
theorem rJ (h:st≠[]):st[st.length-1]?∣st.getLast h:=by rw[List.getLast_eq_getElem];exact RQ _
abbrev JV:Stmt:=top tL
abbrev O7:Rm:=["web","part","leaving","number","row"]
noncomputable def Qi (fr:Bool):dc:=λK ps T=>∃(v:gZ)(p:Int),ps=[⟨gB,v⟩,⟨ag,p⟩]/\mx v/\0<=p/\p<(v.1.length:Int)/\T=if fr=true then C5 K (ae ag) (· =kg v p) else OZ K ag (· =kg v p)
theorem N9 (fr:Bool)(M:cb K mg)(Df:Def K mg "rows_leaving" JV ["web","part"]):aE P w K mg base "rows_leaving" 1 (aQ (Qi fr) K):=by
 let Y3:Sw [("place":Str)]:=`c
 refine bO (N:=O7) Df `n;let⟨v,p,rfl,hv,p0,p1,rfl⟩:=hS;let pl:=hv.pl;let rl:=hv.rl;let hn:bP v.1 p∣v.1.getD p.toNat 0:=a7 0 p0 p1;let nb:=hv.sz (v.1.getD p.toNat 0) (by rw[RR,RQ `a];exact SD _);generalize hN:v.1.getD p.toNat 0=n at hn nb;change WS _ _ [ON v,aA p,.no,.no,.no] _ _;refine ai (IU 2 (own:=["place"]) (fr:=[]) (ix:=[]) (ra:=ag) (rb:=ag) (P:=λ_ ys=>ys=[]) (bH (so:=ao JV) (N0:=O7) rfl rfl `Q `b) (dy M.range (aL (sq `e) `g hn) ⟨`a,`a⟩)
  `F `V (λx=>⟨trivial,trivial⟩) (λC s H ex x hx=>aZ.evr (aN aK `c) rfl) λa bs Yl pq _=>?_)
 let ey:=qv (λ_ _ h=>h) pq;rw[bp] at ey;let e0:SW n.toNat ([]:Rl)=jK v p n.toNat 0:=by
  unfold jK kG;apply SV;intro j;rw[Tp,R6];by_cases hj:j<n.toNat
  ·rw[Xv hj,tN hj];rfl
  ·rw[Xu hj,Sr (by rw[bp];cbv)];rfl
 rw[e0] at ey;subst ey;refine ai (bN (r:=cz ag dU) (λi Z=>∃v3 v4,Z=[ON v,aA p,.ob (fN ag a bs (jK v p n.toNat i)),v3,v4])
  (i6 M.enumerate (hZ `e)) (d9 3 4) ⟨_,_,rfl⟩ ?_ ?_)
 ·rintro i x Z hx ⟨v3,v4,rfl⟩;let⟨e1,e2⟩:=fD hx;let il:=(RP.mp e2).1;let er:rowOf v i=x.2:=by unfold rowOf;rw[RR,show((i:Int)).toNat=i by cbv,e2];rfl
  refine aj (a9 (ay gi (zF `T) `g) (λh=>?_) `J)
  ·let h:x.2.1=p:=Xw h;let rp:=hv.rw _ (R7 e2);let q0:=rp.2.1.1;let q1:=rp.2.1.2;rw[h,hN] at q1;let len:=kZ v p n.toNat i;refine aj (A7 2 (HW `T) `p rfl (xU q0 `a) (pQ (j:=x.2.2.1.toNat) `a) (Uo (Um (uP v p i _) (show i<=100 by cbv)) `c) ?_);refine⟨aA x.1,.im dU x.2,?_⟩;have:=F3 (v:=v) (p:=p) (n:=n.toNat) (i:=i) (by rw[er];exact h) (by rw[er];exact q0) (by rw[er];cbv);rw[er] at this;rw[e1,show((x.2.2.1.toNat:Nat):Int)=x.2.2.1 by cbv,this];rfl
  ·let h:x.2.1≠p:=Xx h;refine⟨aA x.1,.im dU x.2,?_⟩;rw[B6 (by rw[er];exact h)];rfl
 ·rintro Z ⟨v3,v4,rfl⟩;rw[cL];let e:jK v p n.toNat v.2.length=kg v p:=by unfold kg;rw[hN];rfl
  rw[e];let ll:(kg v p).length<=16:=by rw[← e,kZ];cbv
  cases fr with
  | false=>exact aj (Mj 2 rfl rfl)
  | true=>
    refine aj (HM 2 rfl (aM `a) (λxs hx=>?_) rfl);rw[← e] at hx;let⟨q,_,rfl⟩:=Sk.mp hx;exact aM (Um (uP v p _ q) `a)
abbrev Qq:Stmt:=top yv
def Ke:dc:=λK ps T=>∃x:Int,ps=[⟨ag,x⟩]/\T=cP K c7 (· =true)
theorem OC (M:cb K mg)(M4:kJ mg)(Df:Def K mg "is_whole" Qq ["value"]):aE P w K mg base "is_whole" 1 (aQ Ke K):=by
 refine bO (N:=["value"]) Df `n;let⟨x,rfl,rfl⟩:=hS;exact aj (aU (pf (bu M4.isinstance M.int UU `e ty_int) (λ_=>sT (yi (bu M4.isinstance M4.bool boot_bool `e ty_int)))) rfl)
abbrev C7:Stmt:=top xM
theorem LZ:bE ["values"] ["values"] (ao C7):=YV
def PD:dc:=λK ps T=>((∃ns:Rl,ps=[⟨ae ag,ns⟩])∨(∃r:Row,ps=[⟨dU,r⟩]))/\T=cP K c7 (· =true)
theorem Bu (xs:`u):((xs.filter λ_=>true).map λ_=>true).all id=true:=by
 rw[TJ];intro b hb;let⟨_,_,rfl⟩:=Sk.mp hb;rfl
theorem N7 (M:cb K mg)(M4:kJ mg)(CI:aE P w K mg base "is_whole" 1 (aQ Ke K))(F:dI K "are_whole" "are_whole" C7 f fd)(hm:mg "are_whole"∣.ref f)(hb:Binds K fd ["values"] []):aE P w K mg base "are_whole" 2 (aQ PD K):=by
 let nd:=LZ.nd;let Y3:Sw [("value":Str)]:=`c
 refine gW F LZ hm hb (λqs T ⟨e,_⟩=>by rcases e with⟨_,e⟩ | ⟨_,e⟩<;>(rw[e];rfl)) `ac
 obtain⟨⟨ns,rfl⟩ | ⟨r,rfl⟩,rfl⟩:=hS
 ·exact aj (aU (tH M.all (aZ.im (bV (own:=["value"]) (fr:=[]) (ix:=[]) (p:=λ_=>true) (f:=λ_=>true) (bH (so:=ao C7) (N0:=["values"]) rfl rfl `Q `b) (bI `e)
   `F `V (λC s H ex x hx=>dv) (λC s H ex x hx _=>aJ CI hr (ah `e ax) ⟨_,rfl,rfl⟩)))) (Bu ns))
 ·exact aj (aU (tH M.all (aZ.im (bV (own:=["value"]) (fr:=[]) (ix:=[]) (p:=λ_=>true) (f:=λ_=>true) (bH (so:=ao C7) (N0:=["values"]) rfl rfl `Q `b) (K0 `e)
   `F `V (λC s H ex x hx=>dv) (λC s H ex x hx _=>aJ CI hr (ah `e ax) ⟨_,rfl,rfl⟩)))) (Bu _))
abbrev Gn:Stmt:=top sf
abbrev GN:Rm:=["answers","bound"]
theorem JA:bE GN GN (ao Gn):=YV
noncomputable def oW (ans:Rl):Bool:=((ans.filter λ_=>true).map λa=>decide (0<=a)&&decide (a<=1)).all id
def PM:dc:=λK ps T=>∃(ans:Rl)(bound:Int),ps=[⟨ae ag,ans⟩,⟨ag,bound⟩]/\oW ans=true/\0<=bound/\T=cP K nS (λ_=>True)
theorem Nl (M:cb K mg)(M4:kJ mg)(CI:aE P w K mg base "is_whole" 1 (aQ Ke K))(CA:aE P w K mg base "are_whole" 2 (aQ PD K))(F:dI K "need_answers" "need_answers" Gn f fd)(hm:mg "need_answers"∣.ref f)(hb:Binds K fd GN []):aE P w K mg base "need_answers" 3 (aQ PM K):=by
 let nd:=JA.nd;let Y3:Sw [("answer":Str)]:=`c
 refine MB F JA hm hb (λqs T ⟨_,_,e,_⟩=>by rw[e];rfl) `ac;let⟨ans,bound,rfl,ha,hb,rfl⟩:=hS;refine⟨λ_ _ _=>⟨(),rfl,trivial⟩,?_⟩;change WS _ _ [dR ans,aA bound] _ _;refine ai (a9 (TW.tv (jb (gu (bU (bu M4.isinstance M.list UP `e ty_list))) (λ_=>jb (gu (bU (aJ CA hr (ah `e ax) ⟨.inl ⟨_,rfl⟩,rfl⟩))) (λ_=>jt (gu (bU (tH M.all (aZ.im (bV (own:=["answer"]) (fr:=[]) (ix:=[]) (p:=λ_=>true) (f:=λa=>decide (0<=a)&&decide (a<=1)) (bH (so:=ao Gn) (N0:=GN) rfl rfl `Q `b) (bI `e)
  `F `V (λC s H ex x hx=>dv) (λC s H ex x hx _=>qX wU wU ev_int `e ev_int)))))))))) (λh=>?_) `J)
 ·let h2:(false ||(false || !oW ans))=true:=h;rw[ha] at h2;cases h2
 refine aj (a9 (TW.tv (jb (gu (bU (aJ (CI.mono `c) hr (ah `g ax) ⟨_,rfl,rfl⟩))) (λ_=>jt (ay n5 `g ev_int)))) (λh=>?_) (λh=>aF trivial));let h2:(false ||decide (bound<0))=true:=h;simp at h2;cbv
abbrev Qb:Stmt:=top yC
def KG:dc:=λK ps T=>∃p:Int,ps=[⟨ag,p⟩]/\T=cP K js (· =(p,0))
theorem Nc (M3:kE mg)(Df:Def K mg "at_begin" Qb ["part"]):aE P w K mg base "at_begin" 1 (aQ KG K):=by
 let⟨t1,hB⟩:=M3.beg;refine bO (N:=["part"]) Df `n;let⟨p,rfl,rfl⟩:=hS;change WS _ _ [aA p] _ _;exact aj (aU (gX (ah `e (ah (fY hB) ax))) rfl)
abbrev GF:Stmt:=top Ni
noncomputable def jx (st:g8)(r:Row):g8:=trim (if r.2.2.2= -1 then st.set (st.length-1) (r.1,r.2.2.1) else st.set (st.length-1) (r.1,r.2.2.1)++[(r.2.2.2,0)])
def PU:ma (Int×Int):=λK xs ps T=>∃r:Row,ps=[⟨dU,r⟩]/\xs≠[]/\xs.length<=200000/\T=λxs'=>cP K nS λz=>xs'=jx xs r/\z=()
theorem Na (M3:kE mg)(M4:kJ mg)(CA:aE P w K mg base "at_begin" 1 (aQ KG K))(Df:Def K mg "go" GF ["stack","row"]):aE P w K mg base "go" 2 (gI js PU K):=by
 let⟨t1,hNC⟩:=M4.ZK;let⟨t2,hEND⟩:=M3.end_;refine E7 (N:=["stack","row"]) Df (λf XH A outer s H E a xs qs T nd hr hS=>?_);let⟨r,rfl,ne,hl,rfl⟩:=hS;change WS _ _ [.ob (aP a js xs),.im dU r] _ _;let hpos:0<xs.length:=TB.mpr ne;let hix:fO xs.length (-1)∣(xs.length-1):=by unfold fO;rw[Xu `a,Xv `a];congr 1;cbv
 refine ai (eN 0 (j:=xs.length-1) (gX (ah (zF `g) (ah (Ad `g) ax))) `ag rfl rfl hix ?_);let two:∀s2:g8,trim s2=jx xs r->WS (eK eo P w K mg base ["stack","row"] "go" (ao GF) f XH A outer s H E).gF ((bD GF).drop 2) [.ob (aP a js s2),.im dU r] (λZ=>∃xs',Z[0]?∣(.ob (aP a js xs'))/\∀H0 H' R',(cP K nS λz=>xs'=jx xs r/\z=()) H0 .XT H' R') (wQ K a js λxs'=>cP K nS λz=>xs'=jx xs r/\z=()):=by
  intro s2 he;refine aj (jA (λm Z=>∃s3:g8,Z=[.ob (aP a js s3),.im dU r]/\m=s3.length/\trim s3=jx xs r) (m0:=s2.length) ⟨s2,rfl,rfl,he⟩ ?_);rintro m Z ⟨s3,rfl,rfl,ht⟩;by_cases XS:s3=[]
  ·subst XS;refine⟨_,_,TV.box 0 (TW.tv (cZ (y:=false) (nB 0 rfl) `aG)) rfl rfl,λh=>Xt h `c,λ_=>?_⟩;exact⟨[],rfl,λ_ _ _=>⟨(),rfl,by rw[← ht,wZ],rfl⟩⟩
  ·let hl3:=rJ XS;let ne':s3.isEmpty=false:=by cases s3 with
    | nil=>exact Xt rfl XS
    | cons a b=>rfl
   refine⟨_,_,TV.box 0 (TW.tv (cZ (nB 0 rfl) (λ_=>eL (ay gi (hZ (oV 0 `ag rfl rfl (kX hl3))) (fY hEND))))) rfl rfl,λh=>?_,λh=>?_⟩
   ·rw[Rx] at h;let h1:(s3.getLast XS).2=1:=Xw h.2;refine aj (oR (EV.box 0 (xC 0 rfl hl3) rfl rfl) ?_);exact⟨s3.dropLast.length,by rw[Tw];have:=TB.mpr XS;cbv,s3.dropLast,rfl,rfl,by rw[← qR XS h1];exact ht⟩
   ·rw[ne'] at h;let h1:(s3.getLast XS).2≠1:= ~~~h
    rw[oU XS h1] at ht;exact⟨s3,rfl,λ_ _ _=>⟨(),rfl,ht,rfl⟩⟩
 refine ai (a9 (ay Fb (px `g) (fY hNC)) (λh=>?_) `J)
 ·let h:r.2.2.2≠ -1:= ~~~h
  refine aj (oR (EV.box 0 (vb 0 (aJ CA hr (ah (px `g) ax) ⟨_,rfl,rfl⟩) rfl rfl (Uo (show _<=200001 by rw[SF];cbv) `c)) rfl rfl) ?_);exact two _ (by rw[jx,Xu h])
 ·let h:r.2.2.2= -1:= ~~~h
  exact two _ (by rw[jx,Xv h])
abbrev vH:ic:=("",0,0)
noncomputable def cV (s:iR)(n:Int):Int:=((s.parts.filter λp=>decide (p.2.1<=n)).length:Int)-1
noncomputable def eO (s:iR):List Rt:=s.parts.map (cJ s)
def Yy (XA:Rm)(x:Str):Nat:=XA.findIdx λy=>decide (y=x)
noncomputable def fK (s:iR)(r:Rw):Row:=
 (cV s r.1,(bb ((eO s).getD (cV s r.1).toNat []) r.1).getD 0,(bb ((eO s).getD (cV s r.1).toNat []) r.2.1).getD 0,if r.2.2.1="call" then(Yy (s.parts.map (·.1)) r.2.2.2:Int) else -1)
noncomputable def Yn (s:iR):gZ:=((eO s).map λF=>(F.length:Int),s.rows.map (fK s))
structure Ep (s:iR):Prop where
 pt:∀r∈s.rows,0<=cV s r.1/\cV s r.1<(s.parts.length:Int)
 f1:∀r∈s.rows,(bb ((eO s).getD (cV s r.1).toNat []) r.1).isSome
 f2:∀r∈s.rows,(bb ((eO s).getD (cV s r.1).toNat []) r.2.1).isSome
 cl:∀r∈s.rows,r.2.2.1="call"->r.2.2.2∈s.parts.map (·.1)
theorem sV (h:x∈XA):XA[Yy XA x]?∣x/\∀m,m<Yy XA x->XA[m]?≠some x:=by
 unfold Yy;let hl:(XA.findIdx λy=>decide (y=x))<XA.length:=List.findIdx_lt_length_of_exists ⟨x,h,Xy rfl⟩;refine⟨?_,λm hm e=>?_⟩
 ·have:=List.findIdx_getElem (w:=hl);rw[RQ hl,Xw this]
 ·have:=List.not_of_lt_findIdx hm;let⟨ml,em⟩:=RP.mp e;rw[em] at this;simp at this
theorem mm {o:Option Int}(h:o.isSome=true):o∣o.getD 0:=by
 cases o with
 | none=>cases h
 | some x=>rfl
abbrev EO:Stmt:=top AE
def K7 (C D:Addr):dc:=λK ps T=>∃(s:iR)(n:Int),ps=[⟨cY C D,s⟩,⟨ag,n⟩]/\s.parts.length<=4/\T=cP K ag (· =cV s n)
theorem Kh (M:cb K mg)(HD:bM K D gE)(Df:Def K mg "part_at" EO ["spots","number"]):aE P w K mg base "part_at" 1 (aQ (K7 C D) K):=by
 let Y3:Sw [("part":Str),"number"]:=`c
 refine bO (N:=["spots","number"]) Df `z;let⟨s,n,rfl,hl,rfl⟩:=hS;change WS _ _ [.im (cY C D) s,aA n] _ _;refine aj (aU (gP (da M.len (aZ.im (bV (own:=["part"]) (fr:=["number"]) (ix:=[1]) (ra:=au) (rb:=au) (p:=λz=>decide (AS z<=n)) (f:=λz=>z) (bH (so:=ao EO) (N0:=["spots","number"]) rfl rfl `Q `b) (bI (jf (C:=C) HD `e))
  `F `O (λC' s' H ex z hz=>?_) (λC' s H ex z hz _=>aa 0 rfl)))) ev_int) ?_)
 ·let⟨p,hp,rfl⟩:=Sk.mp hz;exact hU (ay wU (EV.iP (n:=p.2.1) (dJ `e ev_int rfl)) `g)
 ·unfold cV;rw[RS,T8,RS];rfl
abbrev zu:Stmt:=top Dk
abbrev Gv:Rm:=["text","spots","names","places","rows","row","part","calls"]
theorem LM:bE Gv ["text"] (ao zu):=YV
def P2:dc:=λK ps T=>∃(x:Str)(S:`N)(Ld:List Rl),ps=[⟨aq,x⟩]/\uB x S/\qE S Ld/\Good (X0 S Ld)/\Ep (X0 S Ld)/\T=cP K gB (· =Yn (X0 S Ld))
theorem OH (M:cb K mg)(M4:kJ mg)(HD:bM K D gE)(CN:aE P w K mg base "need_program" 6 (aQ (Po C D) K))(CP:aE P w K mg base "places_in" 1 (aQ (ET C D) K))(CA:aE P w K mg base "part_at" 1 (aQ (K7 C D) K))(F:dI K "web_of" "web_of" zu f fd)(hm:mg "web_of"∣.ref f)(hb:Binds K fd ["text"] []):aE P w K mg base "web_of" 7 (aQ P2 K):=by
 let nd:=LM.nd;let Y3:Sw [("part":Str)]:=`c
 let ZM:Sw [("part":Str),"spots"]:=`c
 let ndc3:Sw [("known":Str)]:=`c
 let CP:=CP.mono (show 1<=6 by decide);let CA:=CA.mono (show 1<=6 by decide);refine gW (k:=6) F LM hm hb (λqs T ⟨_,_,_,e,_⟩=>by rw[e];rfl) (λXH A outer st H E qs T hr hS=>?_);let⟨x,S,Ld,rfl,hx,hk,hG,hW,rfl⟩:=hS;let⟨t,hnc⟩:=M4.ZK;let hu:=ru hr;change WS _ _ [.im aq x,.no,.no,.no,.no,.no,.no,.no] _ _;refine ai (ba 1 (y:=X0 S Ld) (aJ CN hr (ah `e ax) ⟨x,S,Ld,rfl,hx,hk,hG,rfl⟩) ?_);generalize X0 S Ld=s at hG hW;let X1:=hG.pl;let hrl:=hG.rl;change WS _ _ [.im aq x,.im (cY C D) s,.no,.no,.no,.no,.no,.no] _ _;let hnm:((s.parts.map og).filter λ_=>true).map wI=s.parts.map (·.1):=by rw[SE.mpr λ_ _=>rfl,S0];rfl
 refine ai (nh 2 (own:=["part"]) (fr:=[]) (ix:=[]) (ra:=au) (rb:=aq) (p:=λ_=>true) (f:=wI) (bH (so:=ao zu) (N0:=Gv) rfl rfl `Q `b) (bI (jf (C:=C) HD `g))
  `F `V `aj (λC' s H ex o ho _=>by
   let⟨p,_,rfl⟩:=Sk.mp ho;exact EV.sP (x:=p.1) (dJ `e ev_int rfl)) ?_)
 rw[hnm];generalize hns:s.parts.map (·.1)=XA;let hnl:XA.length=s.parts.length:=by rw[← hns,RS]
 refine WS.freeze 2 rfl (aM `a) ?_;change WS _ _ [.im aq x,.im (cY C D) s,.im (ae aq) XA,.no,.no,.no,.no,.no] _ _;let hpls:((ups 0 XA.length).filter λ_=>true).map (λi=>cJ s (s.parts.getD i.toNat vH))=eO s:=by
  rw[SE.mpr λ_ _=>rfl,hnl];unfold eO;refine SV λi=>?_;unfold ups;rw[R6,R6,R6];obtain h | h:=Ut i s.parts.length
  ·rw[SU h,RQ h];show some (cJ s (s.parts.getD (0+(i:Int)).toNat vH))=_;rw[show(0+(i:Int)).toNat=i by cbv,RR,RQ h];rfl
  ·rw[Sr (~~~h),Sr h];rfl
 refine ai (nh 3 (own:=["part"]) (fr:=["spots"]) (ix:=[1]) (ra:=ag) (rb:=jz) (p:=λ_=>true) (f:=λi=>cJ s (s.parts.getD i.toNat vH)) (bH (so:=ao zu) (N0:=Gv) rfl rfl `Q `b) (dy M.range (da M.len `r) ⟨`a,`a⟩)
  `F `O `aj (λC' s' H ex o ho _=>by
   let⟨i,hi⟩:=Sh.mp ho;let⟨il,rfl⟩:=eQ hi;let il:i<s.parts.length:=`a
   rw[show(0:Int)+(i:Int)=(i:Int) by cbv];exact aJ CP hr (ah `g (ah `e ax)) ⟨s,i,s.parts.getD i vH,rfl,hG,by rw[RR,RQ il];rfl,rfl⟩) ?_)
 rw[show((XA.length:Int)).toNat=XA.length by cbv,hpls];let hpll:(eO s).length=s.parts.length:=by unfold eO;rw[RS]
 refine WS.freeze 3 rfl (aM `a) ?_;refine ai (cD 4 (r:=dU) (ys:=[]) `aq ?_);change WS _ _ [.im aq x,.im (cY C D) s,.im (ae aq) XA,.im (ae jz) (eO s),.mu dU [],.no,.no,.no] _ _;refine bA (N1:=λZ=>∃e5 e6 e7,Z=[.im aq x,.im (cY C D) s,.im (ae aq) XA,.im (ae jz) (eO s),.mu dU (s.rows.map (fK s)),e5,e6,e7]) (bN (λi Z=>∃e5 e6 e7,Z=[.im aq x,.im (cY C D) s,.im (ae aq) XA,.im (ae jz) (eO s),.mu dU ((s.rows.take i).map (fK s)),e5,e6,e7]) (bI (vE (C:=C) HD `g)) (aY 5) ⟨_,_,_,rfl⟩ (λi z Z hz hΓ=>?_) `W) ?_
 ·let⟨e5,e6,e7,rfl⟩:=hΓ;rw[R6] at hz;let⟨r,YK,rfl⟩:=UK.mp hz;let rm:=R7 YK;let il:=(RP.mp YK).1;let⟨q0,q1⟩:=hW.pt r rm;let YT:(s.rows.take (i+1)).map (fK s)=(s.rows.take i).map (fK s)++[fK s r]:=by rw[SG,YK,Sf];rfl
  rw[YT];let tl:((s.rows.take i).map (fK s)).length<=30:=by rw[RS,Sm];cbv
  generalize (s.rows.take i).map (fK s)=rs at tl;change WS _ _ [.im aq x,.im (cY C D) s,.im (ae aq) XA,.im (ae jz) (eO s),.mu dU rs,.im au (jV r),e6,e7] _ _;refine ai (ba 6 (y:=cV s r.1) (aJ CA hr (ah `g (ah (EV.iP (n:=r.1) (dJ `aa ev_int rfl)) ax)) ⟨s,r.1,rfl,X1,rfl⟩) ?_);let hcl:r.2.2.1="call"->r.2.2.2∈XA:=λq=>by rw[← hns];exact hW.cl r rm q
  refine ai (ba 7 (y:=if r.2.2.1="call" then(Yy XA r.2.2.2:Int) else -1) (EV.cast (lU (ay cq (EV.sP (x:=r.2.2.1) (dJ `aa ev_int rfl)) aB) (λh=>Bq `r (EV.sP (x:=r.2.2.2) (dJ `aa ev_int rfl)) (sV (hcl (Xw h))).1 (sV (hcl (Xw h))).2) (λ_=>fY hnc)) (by by_cases q:r.2.2.1="call"<;>simp[q])) ?_)
  let Ym:bP (eO s) (cV s r.1)∣((eO s).getD (cV s r.1).toNat []):=a7 (xs:=eO s) (i:=cV s r.1) [] q0 `a;refine aj (ee 4 (y:=fK s r) (Ic (ak (EV.pI `aw) (ak (EV.pI (jn hu (aL `p `aw Ym) (EV.iP (n:=r.1) (dJ `aa ev_int rfl)) (mm (hW.f1 r rm)))) (ak (EV.pI (jn hu (aL `p `aw Ym) (EV.iP (n:=r.2.1) (dJ `aa ev_int rfl)) (mm (hW.f2 r rm)))) (ak (EV.cast (EV.pI (aa 7 rfl)) (by unfold fK;rw[hns])) aK))))) rfl rfl (Uo tl `c) ⟨.im au (jV r),aA (cV s r.1),aA (if r.2.2.1="call" then(Yy XA r.2.2.2:Int) else -1),rfl⟩)
 ·let⟨e5,e6,e7,rfl⟩:=hΓ;refine⟨e5,e6,e7,?_⟩;rw[RS,SK]
 rintro _ ⟨e5,e6,e7,rfl⟩;refine WS.freeze 4 rfl (aM (by rw[RS];cbv)) ?_;refine aj (aU (gX (ah (aZ.im (bV (own:=["known"]) (fr:=[]) (ix:=[]) (ra:=jz) (rb:=ag) (p:=λ_=>true) (f:=λF=>(F.length:Int)) (bH (so:=ao zu) (N0:=Gv) rfl rfl `Q `b) (bI `p)
  `F `V `aj (λC' s' H ex o ho _=>rG M.len `e))) (ah `T ax))) ?_)
 unfold Yn;rw[SE.mpr λ_ _=>rfl]
def Ix (F:Rt):Prop:=∀(i:Nat)(y:Int×Int),F[i]?∣y->y.2=(i:Int)
theorem Ix.put (h:Ix F)(k:Int):Ix (cT F k):=by
 unfold cT;split
 ·exact h
 ·intro i y hy;obtain q | q:=Ut i F.length
  ·rw[So q] at hy;exact h i y hy
  ·rw[Su q] at hy;have:i-F.length=0:=by
    have:=(RP.mp hy).1;rw[Sz] at this;cbv
   rw[this] at hy;let hy:(k,(F.length:Int))=y:= ~~~hy
   rw[← hy];show(F.length:Int)=(i:Int);cbv
theorem nv (F:Rt)(k:Int):F <+:cT F k:=by
 unfold cT;split
 ·exact prefix_rfl
 ·exact List.prefix_append _ _
theorem pC (F:Rt)(k:Int):k∈(cT F k).map (·.1):=by
 unfold cT;split
 ·rename_i h;exact iL.mp h
 ·rw[Sf];exact Sa _ `d
theorem IP (p:ic)(F:Rt)(r:Rw):F <+:eu p F r:=by
 unfold eu;split
 ·exact(nv _ _).trans (nv _ _)
 ·exact prefix_rfl
theorem Ix.rows {p:ic}:∀{rs:List Rw}{F:Rt},Ix F->Ix (rs.foldl (eu p) F)
 | [],F,h=>h
 | r::rs,F,h=>by
   rw[SY];refine Ix.rows ?_;unfold eu;split
   ·exact(h.put _).put _
   ·exact h
theorem qO {p:ic}:∀{rs:List Rw}{F:Rt},F <+:rs.foldl (eu p) F
 | [],F=>prefix_rfl
 | r::rs,F=>by rw[SY];exact(IP p F r).trans qO
theorem qH {p:ic}{r:Rw}(hi:hV p r=true):∀{rs:List Rw}{F:Rt},r∈rs->r.1∈(rs.foldl (eu p) F).map (·.1)/\r.2.1∈(rs.foldl (eu p) F).map (·.1)
 | x::rs,F,h=>by
   rw[SY];obtain rfl | h:=R9.mp h
   ·let pre:=qO (p:=p) (rs:=rs) (F:=eu p F r);let e:eu p F r=cT (cT F r.1) r.2.1:=by unfold eu;rw[Xv hi]
    let sub:∀y,y∈(eu p F r).map (·.1)->y∈(rs.foldl (eu p) (eu p F r)).map (·.1):=λy hy=>by
     let⟨z,hz,rfl⟩:=Sk.mp hy;exact Sk.mpr ⟨z,pre.subset hz,rfl⟩
    refine⟨sub _ ?_,sub _ ?_⟩
    ·rw[e];let⟨z,hz,ez⟩:=Sk.mp (pC F r.1);exact Sk.mpr ⟨z,(nv _ _).subset hz,ez⟩
    ·rw[e];exact pC _ _
   ·exact qH hi h
theorem DW (a b:Int):Ix [(a,0),(b,1)]:=by
 intro i y hy
 match i with
 | 0=>have:(a,(0:Int))=y:= ~~~hy
      rw[← this];rfl
 | 1=>have:(b,(1:Int))=y:= ~~~hy
      rw[← this];rfl
 | i+2=>simp at hy
theorem Ho {k v:Int}(h:bb F k∣v):(k,v)∈F:=by
 unfold bb at h;let⟨y,hy,rfl⟩:=UK.mp h;let h1:=List.mem_of_find?_eq_some hy;let h2:=List.find?_some hy;let h2:y.1=k:=Xw h2;rw[← h2];exact h1
theorem Ac {k v:Int}:∀{F:Rt},(F.map (·.1)).Nodup->(k,v)∈F->bb F k∣v
 | y::F,nd,h=>by
   let⟨n1,n2⟩:=Sn.mp (show(y.1::F.map (·.1)).Nodup from nd);unfold bb;obtain e | h:=R9.mp h
   ·rw[← e,T7 `d];rfl
   ·rw[TC (by
     simp only[decide_eq_true_eq];intro e;exact n1 (by rw[e];exact Sk.mpr ⟨_,h,rfl⟩))]
    exact Ac n2 h
theorem Ix.val (h:Ix F){k:Int}(hk:k∈F.map (·.1)):∃i:Nat,bb F k∣(i:Int)/\i<F.length/\F[i]?∣(k,(i:Int)):=by
 let hs:=iL.mpr hk;cases e:bb F k with
 | none=>rw[e] at hs;cases hs
 | some v=>
   let hm:=Ho e;let⟨i,hi⟩:=Sh.mp hm;have:=h i _ hi;let hv:v=(i:Int):=this;rw[hv] at hi ⊢;exact⟨i,rfl,(RP.mp hi).1,hi⟩
theorem Bg {p:α->Bool}{l:`u}(hj:j<l.length)(h:∀(i:Nat)(x:α),l[i]?∣x->(p x=true↔i<=j)):(l.filter p).length=j+1:=by
 conv=>lhs;rw[← To (j+1) l]
 rw[SH,SE.mpr λx hx=>?_,S9.mpr λx hx=>?_,Sl,Sm]
 ·cbv
 ·let⟨i,hi⟩:=Sh.mp hx;rw[T6] at hi;intro q;have:=(h _ _ hi).mp q;cbv
 ·let⟨i,hi⟩:=Sh.mp hx;let il:i<(l.take (j+1)).length:=(RP.mp hi).1;rw[Sm] at il;rw[List.getElem?_take_of_lt `a] at hi;exact(h _ _ hi).mpr `a
theorem DX {St:Rl}(h:r∈gc S Ld St):∃(n:Nat)(s:aH)(l:Int),S[n]?∣s/\r.1=(n:Int)/\aW s.kind=true/\l∈Ld.getD n []/\r.2.1=St.getD l.toNat 0/\r.2.2.1∈(cM dF s.kind).getD []/\r.2.2.2=s.name:=by
 unfold gc at h;let⟨z,hz,hr⟩:=TL.mp h;unfold dX at hr;let⟨y,hy,rfl⟩:=Sk.mp hr;let⟨i,hi⟩:=Sh.mp hz;let⟨e1,e2⟩:=fD hi;unfold jU at hy;let⟨h1,h2⟩:=TN (show(y.1,y.2)∈_ from hy);rw[e1,show((i:Nat):Int).toNat=i by cbv] at h2;refine⟨i,z.2,y.2,e2,e1,?_,h2,rfl,h1,rfl⟩;unfold aW;cases q:cM dF z.2.kind with
 | none=>rw[q] at h1;cases h1
 | some v=>rfl
theorem DD {k:Str}(h:("call":Str)∈(cM dF k).getD []):k="call":=by
 unfold cM at h;split at h
 ·exact Xt h `b
 unfold cM at h;split at h
 ·rename_i e;exact e.symm
 unfold cM at h;split at h
 ·exact Xt h `b
 unfold cM at h;split at h
 ·exact Xt h `b
 ·unfold cM at h;cases h
theorem D6 {n:Int}(h:fq S F n ls)(hr:aW (aT S n)=true):ls≠[]:=by
 cases h with
 | enp h _ _ _=>rw[h] at hr;exact Xt hr `b
 | _=>simp
theorem D7 {k:Str}(h:aW k=true):(cM dF k).getD []≠[]:=by
 unfold aW cM at h;unfold cM;split at h
 ·rename_i e;rw[Xv e];decide
 rename_i e;rw[Xu e];unfold cM at h ⊢;split at h
 ·rename_i e;rw[Xv e];decide
 rename_i e;rw[Xu e];unfold cM at h ⊢;split at h
 ·rename_i e;rw[Xv e];decide
 rename_i e;rw[Xu e];unfold cM at h ⊢;split at h
 ·rename_i e;rw[Xv e];decide
 ·cases h
theorem Mi {St:Rl}(hs:S[n]?∣s)(hk:aW s.kind=true)(hl:Ld.getD n []≠[]):∃r∈gc S Ld St,r.1=(n:Int):=by
 let hw:=D7 hk;cases e1:(cM dF s.kind).getD [] with
 | nil=>exact Xt e1 hw
 | cons x xs=>cases e2:Ld.getD n [] with
   | nil=>exact Xt e2 hl
   | cons y ys=>
     refine⟨rQ St ((n:Int),s) (x,y),TL.mpr ⟨((n:Int),s),qF hs,?_⟩,rfl⟩;unfold dX;refine Sk.mpr ⟨(x,y),?_,rfl⟩;unfold jU;rw[show(((n:Int),s).1).toNat=n by show((n:Nat):Int).toNat=n;cbv,e2];show(x,y)∈((cM dF s.kind).getD []).zip (y::ys);rw[e1];exact RZ
abbrev bK (XA:Rm)(Ls:`H):iR:=X0 `i `D
abbrev iT (f:Nat)(z:Str×List Th):ic:=(z.1,(f:Int),((lst f z:Nat):Int))
theorem we (h:`aK)(hz:(de XA Ls)[j]?∣z):(c5 `i)[j]?∣(iT `k z):=by
 let hn:=vI h;let hlp:(c5 `i).length=XA.length:=by rw[← congrArg List.length hn,RS]
 let⟨_,_,_,hnj,_⟩:=eU h hz;let jl:=(RP.mp hnj).1;let jp:j<(c5 `i).length:=`a
 rw[RQ jp];let⟨j',z',w',hz',YO,e⟩:=nF h (SD jp);let h1:XA[j]?=some ((c5 `i)[j]).1:=by
  conv=>lhs;rw[← hn]
  rw[R6,RQ jp];rfl
 let⟨_,_,_,hnj',_⟩:=eU h hz';rw[e] at h1;let h1:XA[j]?∣z'.1:=h1;let jl':=(RP.mp hnj').1;let ej:j=j':=by
  rw[RQ jl] at h1;rw[RQ jl'] at hnj';exact(T1 h.nd).mp ((Option.some.inj h1).trans (Option.some.inj hnj').symm)
 subst ej;rw[hz] at hz';cases Option.some.inj hz'
 rw[e]
theorem oF (h:`aK):(de XA Ls).length=Ls.length:=by rw[Tv,h.l];cbv
theorem mf (h:`aK):(c5 `i).length=Ls.length:=by
 rw[← h.l,← congrArg List.length (vI h),RS]
theorem pB (h:`aK)(hz:(de XA Ls)[j]?∣z)(h1:fst XA Ls j<=n)(h2:n<=lst `k z):cV `B (n:Int)=(j:Int):=by
 let jl:=(RP.mp hz).1;let zl:=oF h;let pl:=mf h;unfold cV;show(((c5 `i).filter λp=>decide (p.2.1<=(n:Int))).length:Int)-1=_;rw[Bg (j:=j) `a λi x hx=>?_]
 ·push_cast;cbv
 ·let il:=(RP.mp hx).1;let ZY:(de XA Ls)[i]?∣((de XA Ls)[i]'`a):=RQ `a;rw[we h ZY] at hx;let hx:=Option.some.inj hx;rw[← hx];show decide (((fst XA Ls i:Nat):Int)<=(n:Int))=true↔i<=j;rw[decide_eq_true_eq];constructor
  ·intro q;refine Classical.byContradiction λc=>?_;have:=pA `M j i z hz `a;let h2:n<=fst XA Ls j+1+XE z.2:=h2;have:fst XA Ls j+2+XE z.2<=fst XA Ls i:=this;cbv
  ·intro q;obtain c | c:=Ut i j
   ·have:=pA `M i j _ ZY c;have:fst XA Ls i+2+XE ((de XA Ls)[i]'`a).2<=fst XA Ls j:=this;cbv
   ·have:i=j:=`a
    subst this;cbv
structure NK (S:`N)(f l:Nat)(F:Rt):Prop where
 ix:Ix F
 nd:(F.map (·.1)).Nodup
 le:F.length<=16
 ge:2<=F.length
 kp:∀k∈F.map (·.1),(f:Int)<k/\k<=(l:Int)/\(k=(l:Int)∨aW (aT S k)=true)
 en:F[1]?∣((l:Int),1)
 bg:∃b,F[0]?∣(b,0)
theorem wR {f:Nat}{v:Int}(h:v∈oh S f z):Mc S f (lst f z) v:=by
 unfold oh at h;obtain h | h:=Se.mp h
 ·let⟨i,hi,rfl⟩:=Sk.mp h;let⟨h1,h2⟩:=SJ.mp hi;let h1:=S3.mp h1;refine⟨`a,?_,.inr h2⟩;show((f+1+i:Nat):Int)<=((f+1+XE z.2:Nat):Int);cbv
 ·rw[RU.mp h];exact⟨by show(f:Int)<((f+1+XE z.2:Nat):Int);cbv,RM _,.inl rfl⟩
theorem vQ (h:`aK){w:Int}(hz:(de XA Ls)[j]?∣z)(hb:fJ `i `D XA `k w z)(hr:r∈(bK XA Ls).rows)(hi:hV (iT `k z) r=true):r.1∈oh `i `k z/\r.2.1∈oh `i `k z:=by
 let⟨YZ,Zr,ok3,_⟩:=eU h hz;let YE:=λn h1 h2=>hb.AX kx YZ _ n rfl h1 h2;let⟨n,s,l,h1,h2,h3,h4,h5⟩:=nK hr;unfold hV at hi;rw[Rx] at hi;let i1:((fst XA Ls j:Nat):Int)<r.1:=Xw hi.1;let i2:r.1<((lst `k z:Nat):Int):=Xw hi.2;rw[h2] at i1 i2;let YN:aT `i (n:Int)=s.kind:=(dz h1).1;let st:=hb.all kx YZ n `a `a;let rg:=st.rg l h4;refine⟨?_,?_⟩
 ·rw[h2];exact jQ ⟨i1,`a,.inr (by rw[YN];exact h3)⟩
 ·rw[h5];exact jQ (YE l.toNat `a `a)
theorem oo (h:`aK)(hz:(de XA Ls)[j]?∣z):NK `i `k (lst `k z) (cJ `B (iT `k z)):=by
 let⟨w,hb⟩:=h9 (XA:=XA) (Ls:=Ls) hz;let⟨YZ,Zr,ok3,_⟩:=eU h hz;let fl:fst XA Ls j<lst `k z:=by show _<fst XA Ls j+1+XE z.2;cbv
 let YE:=λn h1 h2=>hb.AX kx YZ _ n rfl h1 h2;let XS:(aX `i `D).getD `k 0≠((lst `k z:Nat):Int):=by
  rw[hb.first YZ Zr];have:=(kY hb YZ Zr).2;show((fst XA Ls j+1:Nat):Int)≠((fst XA Ls j+1+XE z.2:Nat):Int);cbv
 let e0:(bK XA Ls).St.getD ((fst XA Ls j:Nat):Int).toNat 0=(aX `i `D).getD `k 0:=by rw[show((fst XA Ls j:Nat):Int).toNat=fst XA Ls j by cbv];rfl
 unfold cJ;dsimp only;rw[e0];generalize hb0:(aX `i `D).getD `k 0=b at XS;let ks:jE (oh `i `k z) ((bK XA Ls).rows.foldl (eu (iT `k z)) [(b,0),(((lst `k z:Nat):Int),1)]):=by
  refine jE.rows ⟨?_,λx hx=>?_⟩ λr hr hi=>vQ h hz hb hr hi
  ·exact Sn.mpr ⟨λq=>XS (RU.mp q),Sn.mpr ⟨`d,Tx⟩⟩
  ·let hx:x=b∨x=((lst `k z:Nat):Int):= ~~~hx
   obtain rfl | rfl:=hx
   ·rw[← hb0];exact jQ (YE _ (Uk _) `a)
   ·exact jQ ⟨`a,RM _,.inl rfl⟩
 let pre:=qO (p:=(iT `k z)) (rs:=(bK XA Ls).rows) (F:=[(b,0),(((lst `k z:Nat):Int),1)]);let⟨t,ht⟩:=pre;refine⟨Ix.rows (DW _ _),ks.1,Um ks.len (Dd hb ok3),?_,λk hk=>wR (ks.2 k hk),?_,⟨b,?_⟩⟩
 ·rw[← ht];simp
 ·rw[← ht];rfl
 ·rw[← ht];rfl
theorem wj (h:`aK)(hr:r∈(bK XA Ls).rows):∃(j:Nat)(z:Str×List Th),(de XA Ls)[j]?∣z/\cV `B r.1=(j:Int)/\hV (iT `k z) r=true:=by
 let⟨n,s,l,h1,h2,h3,h4,h5⟩:=nK hr;let hn:=(RP.mp h1).1;let⟨j,z,w,hz,hb,q1,q2,q3⟩:=m8 h n hn;let YN:aT `i (n:Int)=s.kind:=(dz h1).1;refine⟨j,z,hz,by rw[h2];exact pB h hz q1 q2,?_⟩;let n1:n≠fst XA Ls j:=λe=>by
  rw[e,hb.k] at YN;rw[← YN] at h3;exact Xt h3 `b
 let n2:n≠lst `k z:=λe=>by
  rw[e,(dz hb.e).1] at YN;rw[← YN] at h3;exact Xt h3 (show¬aW "end"=true by decide +kernel)
 unfold hV;rw[Rx,h2];exact⟨Xy (show((fst XA Ls j:Nat):Int)<(n:Int) by cbv),Xy (show(n:Int)<((lst `k z:Nat):Int) by cbv)⟩
theorem kW (h:`aK)(hz:(de XA Ls)[j]?∣z):(eO `B)[j]?∣(cJ `B (iT `k z)):=by
 unfold eO;rw[R6];show((c5 `i)[j]?).map _=_;rw[we h hz];rfl
theorem zZ (h:`aK):(eO `B).length=Ls.length:=by
 unfold eO;rw[RS];exact mf h
theorem G9 (h:`aK):Ep `B:=by
 let zl:=oF h;let pl:=mf h;let key:∀r∈(bK XA Ls).rows,r.1∈((eO `B).getD (cV `B r.1).toNat []).map (·.1)/\r.2.1∈((eO `B).getD (cV `B r.1).toNat []).map (·.1):=λr hr=>by
  let⟨j,z,hz,e,hi⟩:=wj h hr;rw[e,show((j:Nat):Int).toNat=j by cbv,RR,kW h hz];exact qH hi hr
 refine⟨λr hr=>?_,λr hr=>iL.mpr (key r hr).1,λr hr=>iL.mpr (key r hr).2,λr hr hc=>?_⟩
 ·let⟨j,z,hz,e,_⟩:=wj h hr;let jl:=(RP.mp hz).1;rw[e];exact⟨`a,by show(j:Int)<((c5 `i).length:Int);cbv⟩
 ·let⟨n,s,l,h1,h2,h3,h4,h5,h6,h7⟩:=DX hr;rw[hc] at h6;let hk:=DD h6;let⟨Ld,Zx,hG⟩:=HZ XA Ls h;let⟨m,u,_,hm,hu,hun⟩:=hG.ca n s h1 hk;rw[h7,← hun];show u.name∈(c5 `i).map (·.1);rw[xk];unfold Yt;exact Sk.mpr ⟨u,SJ.mpr ⟨R7 hm,Xy hu⟩,rfl⟩
theorem Gx (h:`aK)(hG:Good `B):mx (Yn `B):=by
 let zl:=oF h;let pl:=mf h;let wb:=G9 h;let sl:=zZ h;let l1:=h.l1;let l4:=h.l4;let vl:(Yn `B).1.length=Ls.length:=by unfold Yn;rw[RS];exact sl
 let vat:∀{j:Nat}{z:Str×List Th},(de XA Ls)[j]?∣z->(Yn `B).1.getD j 0=((cJ `B (iT `k z)).length:Int):=λ{j z} hz=>by
  unfold Yn;rw[RR,R6,kW h hz];rfl
 refine⟨`a,`a,?_,λn hn=>?_,λr hr=>?_,λp k hp hk hk1=>?_⟩
 ·unfold Yn;rw[RS];exact hG.rl
 ·unfold Yn at hn;let⟨F,hF,rfl⟩:=Sk.mp hn;let⟨j,hj⟩:=Sh.mp hF;let jl:=(RP.mp hj).1;let hz:(de XA Ls)[j]?∣((de XA Ls)[j]'`a):=RQ `a;let po:=oo h hz;rw[kW h hz] at hj;rw[← Option.some.inj hj];have:=po.le;have:=po.ge;cbv
 ·unfold Yn at hr;let⟨q,hq,rfl⟩:=Sk.mp hr;let⟨j,z,hz,e,hi⟩:=wj h hq;let jl:=(RP.mp hz).1;let po:=oo h hz;let⟨k1,k2⟩:=qH hi hq (F:=[((bK XA Ls).St.getD ((fst XA Ls j:Nat):Int).toNat 0,0),(((lst `k z:Nat):Int),1)]);let⟨i1,e1,l1',_⟩:=po.ix.val k1;let⟨i2,e2,l2',_⟩:=po.ix.val k2;let eF:(eO `B).getD (cV `B q.1).toNat []=cJ `B (iT `k z):=by
   rw[e,show((j:Nat):Int).toNat=j by cbv,RR,kW h hz];rfl
  let w1:(fK `B q).1=(j:Int):=e;let w2:(fK `B q).2.1=(i1:Int):=by unfold fK;dsimp only;rw[eF,e1];rfl
  let w3:(fK `B q).2.2.1=(i2:Int):=by unfold fK;dsimp only;rw[eF,e2];rfl
  rw[w1,w2,w3,vl,show((j:Nat):Int).toNat=j by cbv,vat hz];refine⟨⟨`a,`a⟩,⟨`a,`a⟩,⟨`a,`a⟩,?_⟩;show(if q.2.2.1="call" then _ else _)= -1∨_;unfold fK;dsimp only;by_cases c:q.2.2.1="call"
  ·rw[Xv c];have:=(RP.mp (sV (wb.cl q hq c)).1).1;let X1:((bK XA Ls).parts.map (·.1)).length=Ls.length:=by rw[RS];exact pl
   exact .inr ⟨`a,`a⟩
  ·rw[Xu c];exact .inl rfl
 ·let hz:(de XA Ls)[p]?∣((de XA Ls)[p]'`a):=RQ `a;rw[vat hz] at hk;let po:=oo h hz;generalize hzz:((de XA Ls)[p]'`a)=z at hz po hk;generalize hF:cJ `B (iT (fst XA Ls p) z)=F at po hk;let kl:k<F.length:=`a
  let hFk:F[k]?=some F[k]:=RQ kl;let hv:=po.ix k _ hFk;let Zm:F[k]∈F:=SD kl;let⟨a1,a2,a3⟩:=po.kp _ (Sk.mpr ⟨_,Zm,rfl⟩);let XS:F[k].1≠((lst (fst XA Ls p) z:Nat):Int):=λc=>by
   let h1:(F.map (·.1))[k]?=some F[k].1:=by rw[R6,hFk];rfl
   let h2:(F.map (·.1))[1]?∣((lst (fst XA Ls p) z:Nat):Int):=by rw[R6,po.en];rfl
   rw[c] at h1;let k1:=(RP.mp h1);let k2:=(RP.mp h2);let⟨x1,y1⟩:=k1;let⟨x2,y2⟩:=k2;exact hk1 ((T1 po.nd).mp (y1.trans y2.symm))
  let Y8:=a3.resolve_left XS;let⟨w,hb⟩:=h9 (XA:=XA) (Ls:=Ls) hz;let⟨YZ,Zr,ok3,_⟩:=eU h hz;let ll:lst (fst XA Ls p) z<(aw XA Ls).length:=(RP.mp hb.e).1;obtain⟨n,hn⟩:∃n:Nat,F[k].1=(n:Int):=⟨F[k].1.toNat,`a⟩;rw[hn] at a1 a2 Y8 XS;let nl:n<(aw XA Ls).length:=`a
  let hs:(aw XA Ls)[n]?=some (aw XA Ls)[n]:=RQ nl;let YN:aT `i (n:Int)=((aw XA Ls)[n]).kind:=(dz hs).1;let st:=hb.all kx YZ n `a `a;let⟨r,hr,er⟩:=Mi (St:=(bK XA Ls).St) hs (by rw[← YN];exact Y8) (D6 st.ld Y8);let hr:r∈(bK XA Ls).rows:=hr;let⟨i,hi⟩:=Sh.mp hr;refine⟨i,fK `B r,by unfold Yn;rw[R6,hi];rfl,?_,?_⟩
  ·show cV _ r.1=_;rw[er];exact pB h hz `a `a
  ·unfold fK;dsimp only;rw[er,pB h hz `a `a,show((p:Nat):Int).toNat=p by cbv,RR,kW h hz,hF];show(bb F (n:Int)).getD 0=_;rw[Ac (v:=(k:Int)) po.nd (by
    have:F[k]=((n:Int),(k:Int)):=UO hn hv;rw[← this];exact Zm)]
   rfl
variable {ans:Rl}
abbrev Wk:=Rl×Str×g8
abbrev qz:=Rl×Nat×g8
noncomputable def qw (x:Wk):PV:=.tup [.lst (x.1.map PV.int),.str x.2.1,.lst (x.2.2.map qW)]
def dS (st:g8):Int×Int:=st.getLastD (0,0)
def dB (v:gZ)(st:g8):Rl:=me v (dS st).1 (dS st).2
noncomputable def lR (v:gZ)(ans:Rl)(u:Nat)(st:g8):Option (Int×Nat):=
 if 1<(dB v st).length then(ans[u]?).map λa=>((dB v st).getD (1-a).toNat 0,u+1) else some ((dB v st).getD 0 0,u)
noncomputable def l9 (v:gZ)(ans:Rl)(s:qz):Option qz:=(lR v ans s.2.1 s.2.2).map λc=>(s.1++[c.1],c.2,jx s.2.2 (rowOf v c.1))
noncomputable def gH (v:gZ)(ans:Rl):Nat->qz->Wk
 | 0,s=>if s.2.2=[] then(s.1,"ended",[]) else(s.1,"bound",s.2.2)
 | n+1,s=>if s.2.2=[] then(s.1,"ended",[]) else
   match l9 v ans s with
   | none=>(s.1,"wanting",s.2.2)
   | some s'=>gH v ans n s'
theorem xo:∀{n:Nat}{s:qz},s.2.2=[]->gH v ans n s=(s.1,("ended":Str),[])
 | 0,s,h=>by rw[gH,Xv h]
 | n+1,s,h=>by rw[gH,Xv h]
theorem yU {s:qz}(h:s.2.2≠[]):gH v ans 0 s=(s.1,("bound":Str),s.2.2):=by rw[gH,Xu h]
theorem tT {s:qz}(h:s.2.2≠[])(hn:l9 v ans s=none):gH v ans (n+1) s=(s.1,("wanting":Str),s.2.2):=by rw[gH,Xu h,hn]
theorem tV {s s':qz}(h:s.2.2≠[])(hn:l9 v ans s∣s'):gH v ans (n+1) s=gH v ans n s':=by rw[gH,Xu h,hn]
theorem KO {s s':qz}(h:l9 v ans s∣s'):∃c,s'.1=s.1++[c]:=by
 unfold l9 at h;let⟨c,_,rfl⟩:=UK.mp h;exact⟨c.1,rfl⟩
theorem xF {v:gZ}{ans:Rl}:∀(n:Nat)(s:qz),∃ex,(gH v ans n s).1=s.1++ex/\ex.length<=n
 | 0,s=>⟨[],by rw[gH];split<;>simp,Uk _⟩
 | n+1,s=>by
   by_cases h:s.2.2=[]
   ·exact⟨[],by rw[xo h];simp,Ul _⟩
   ·cases q:l9 v ans s with
    | none=>exact⟨[],by rw[tT h q];simp,Ul _⟩
    | some s'=>
      let⟨ex,h1,h2⟩:=xF (v:=v) (ans:=ans) n s';let⟨c,hc⟩:=KO q;refine⟨c::ex,?_,by rw[Sb];cbv⟩;rw[tV h q,h1,hc,Sj];rfl
structure oP (v:gZ)(st:g8):Prop where
 el:∀t∈st,(0<=t.1/\t.1<(v.1.length:Int))/\0<=t.2/\t.2<v.1.getD t.1.toNat 0
 tp:∀h:st≠[],(st.getLast h).2≠1
theorem mx.two (hv:mx v){p:Int}(h0:0<=p)(h1:p<(v.1.length:Int)):2<=v.1.getD p.toNat 0:=by
 rw[RR,RQ `a];exact(hv.sz _ (SD _)).1
theorem uX (hv:mx v):oP v [(0,0)]:=by
 have:=hv.p1;let h2:=hv.two (p:=0) (RM _) `a;refine⟨λt ht=>?_,λh=>by show(0:Int)≠1;decide⟩;rw[RU.mp ht];exact⟨⟨RM _,by show(0:Int)<_;cbv⟩,RM _,by show(0:Int)<v.1.getD (0:Int).toNat 0;cbv⟩
theorem G7 (hv:mx v)(hs:oP v st)(XS:st≠[]){r:Row}(hr:r∈v.2):oP v (jx st r)/\(jx st r).length<=st.length+1:=by
 let⟨r1,r2,r3,r4⟩:=hv.rw r hr;let base:∀t∈st.set (st.length-1) (r.1,r.2.2.1),(0<=t.1/\t.1<(v.1.length:Int))/\0<=t.2/\t.2<v.1.getD t.1.toNat 0:=λt ht=>by
  obtain h | h:=List.mem_or_eq_of_mem_set ht
  ·exact hs.el t h
  ·rw[h];exact⟨r1,r3⟩
 unfold jx;generalize hst2:(if r.2.2.2= -1 then st.set (st.length-1) (r.1,r.2.2.1) else st.set (st.length-1) (r.1,r.2.2.1)++[(r.2.2.2,0)])=s2;let h2:(∀t∈s2,(0<=t.1/\t.1<(v.1.length:Int))/\0<=t.2/\t.2<v.1.getD t.1.toNat 0)/\s2.length<=st.length+1:=by
  rw[← hst2];by_cases c:r.2.2.2= -1
  ·rw[Xv c];exact⟨base,by rw[SF];cbv⟩
  ·rw[Xu c];refine⟨λt ht=>?_,by rw[RY,SF];exact Uk _⟩;obtain h | h:=Se.mp ht
   ·exact base t h
   ·rw[RU.mp h];let r4:=r4.resolve_left c;have:=hv.two r4.1 r4.2;exact⟨r4,RM _,by show(0:Int)<v.1.getD r.2.2.2.toNat 0;cbv⟩
 let⟨s',e,_,h3⟩:=qM s2.length s2 rfl;refine⟨⟨λt ht=>h2.1 t (by rw[e];exact Sg _ ht),h3⟩,?_⟩;have:s2.length=(trim s2).length+s'.length:=by
  have:=congrArg List.length e;rwa [RY] at this
 cbv
theorem rH (h:st≠[]):dS st=st.getLast h:=by unfold dS;cases st with
 | nil=>exact Xt rfl h
 | cons a b=>rfl
theorem yZ {c:Int}(h:c∈dB v st):0<=c/\c<(v.2.length:Int)/\rowOf v c∈v.2:=by
 unfold dB me at h;let⟨h1,_⟩:=SJ.mp h;unfold ups at h1;let⟨i,hi,rfl⟩:=Sk.mp h1;let hi:=S3.mp hi;refine⟨`a,`a,?_⟩;unfold rowOf;rw[show((0:Int)+(i:Int)).toNat=i by cbv,RR,RQ hi];exact SD hi
theorem wB (hv:mx v)(hs:oP v st)(XS:st≠[]):dB v st≠[]:=by
 let h1:=hs.el _ (List.getLast_mem XS);let h2:=hs.tp XS;let et:=rH XS;rw[← et] at h1 h2;let⟨n,r,hn,e1,e2⟩:=hv.fr (dS st).1.toNat (dS st).2.toNat `a (by have:=h1.2.2;cbv) `a;intro c;have:(n:Int)∈dB v st:=by
  unfold dB me;let nl:=(RP.mp hn).1;refine SJ.mpr ⟨?_,?_⟩
  ·unfold ups;exact Sk.mpr ⟨n,S3.mpr nl,`a⟩
  ·have:rowOf v (n:Int)=r:=by unfold rowOf;rw[show((n:Nat):Int).toNat=n by cbv,RR,hn];rfl
   rw[this,e1,e2];refine Xy (UO ?_ ?_)
   ·show(((dS st).1.toNat:Nat):Int)=(dS st).1;cbv
   ·show(((dS st).2.toNat:Nat):Int)=(dS st).2;cbv
 rw[c] at this;cases this
theorem xD (h:oW ans=true){a:Int}(ha:ans[i]?∣a):0<=a/\a<=1:=by
 unfold oW at h;rw[TJ] at h;have:=h (decide (0<=a)&&decide (a<=1)) (Sk.mpr ⟨a,SJ.mpr ⟨R7 ha,rfl⟩,rfl⟩);let this:(decide (0<=a)&&decide (a<=1))=true:=this;rw[Rx] at this;exact⟨Xw this.1,Xw this.2⟩
theorem yK (hv:mx v)(ha:oW ans=true)(hs:oP v st)(XS:st≠[]){u:Nat}{c:Int×Nat}(h:lR v ans u st∣c):c.1∈dB v st:=by
 let fne:=wB hv hs XS;let fl:=TB.mpr fne;unfold lR at h;split at h
 ·let⟨a,h1,rfl⟩:=UK.mp h;have:=xD ha h1;dsimp only;rw[RR,RQ `a];exact SD _
 ·cases Option.some.inj h
  dsimp only;rw[RR,RQ `a];exact SD _
abbrev Gk:Stmt:=top Cq
abbrev OW:Rm:=["text","answers","bound","web","leaving","stack","rows","used","found","chosen"]
theorem Kw:bE OW ["text","answers","bound"] (ao Gk):=YV
abbrev ZC:qz:=([],0,[(0,0)])
def LY:dc:=λK ps T=>∃(x:Str)(ans:Rl)(bound:Int)(S:`N)(Ld:List Rl),ps=[⟨aq,x⟩,⟨ae ag,ans⟩,⟨ag,bound⟩]/\uB x S/\qE S Ld/\Good (X0 S Ld)/\Ep (X0 S Ld)/\mx (Yn (X0 S Ld))/\oW ans=true/\0<=bound/\(gH (Yn (X0 S Ld)) ans bound.toNat ZC).1.length<=100000/\T=cP K au (· =qw (gH (Yn (X0 S Ld)) ans bound.toNat ZC))
theorem N8 (M:cb K mg)(M4:kJ mg)(CW:aE P w K mg base "web_of" 7 (aQ P2 K))(CN:aE P w K mg base "need_answers" 3 (aQ PM K))(CR:aE P w K mg base "rows_leaving" 1 (aQ (Qi true) K))(CB:aE P w K mg base "at_begin" 1 (aQ KG K))(CG:aE P w K mg base "go" 2 (gI js PU K))(F:dI K "walked" "walked" Gk f fd)(hm:mg "walked"∣.ref f)(hb:Binds K fd ["text","answers","bound"] []):aE P w K mg base "walked" 8 (aQ LY K):=by
 let nd:=Kw.nd;let Y3:Sw [("part":Str),"web"]:=`c
 let CN:=CN.mono (show 3<=7 by decide);let CR:=CR.mono (show 1<=7 by decide);let CB:=CB.mono (show 1<=7 by decide);let CG:=CG.mono (show 2<=7 by decide);let⟨t1,hFP⟩:=M4.first;let⟨t2,hY⟩:=M4.yes;let⟨t3,hEN⟩:=M4.ended;let⟨t4,hBO⟩:=M4.bound;let⟨t5,hWA⟩:=M4.Z6;refine gW (k:=7) F Kw hm hb (λqs T ⟨_,_,_,_,_,e,_⟩=>by rw[e];rfl) (λXH A outer st H E qs T hr hS=>?_);let⟨x,ans,bound,S,Ld,rfl,hx,hk,hG,hWb,hv,ha,hb0,hlen,rfl⟩:=hS;change WS _ _ [.im aq x,dR ans,aA bound,.no,.no,.no,.no,.no,.no,.no] _ _;refine ai (ba 3 (y:=Yn (X0 S Ld)) (aJ CW hr (ah `e ax) ⟨x,S,Ld,rfl,hx,hk,hG,hWb,rfl⟩) ?_);generalize Yn (X0 S Ld)=v at hv hlen;let pl:=hv.pl;change WS _ _ [.im aq x,dR ans,aA bound,.im gB v,.no,.no,.no,.no,.no,.no] _ _;refine ai (Il CN hr (ah `g (ah `r ax)) ⟨ans,bound,rfl,ha,hb0,rfl⟩ ?_);refine ai (nh 4 (own:=["part"]) (fr:=["web"]) (ix:=[3]) (ra:=ag) (rb:=ae (ae ag)) (p:=λ_=>true) (f:=kg v) (bH (so:=ao Gk) (N0:=OW) rfl rfl `Q `b) (dy M.range (da M.len (sq `p)) ⟨`a,`a⟩)
  `F `O `aj (λC' s' H ex o ho _=>by
   let⟨i,hi⟩:=Sh.mp ho;let⟨il,rfl⟩:=eQ hi;exact aZ.im (rq CR hr (ah `g (ah `e ax)) ⟨v,_,rfl,hv,`a,`a,rfl⟩)) ?_)
 rw[SE.mpr λ_ _=>rfl,show((v.1.length:Int)).toNat=v.1.length by cbv];refine WS.freeze 4 rfl (aM (by rw[RS,bp];cbv)) ?_;generalize hlv:(ups 0 v.1.length).map (kg v)=lv;refine ai (cD 5 (r:=js) (aN (ak (aJ CB hr (ah (fY hFP) ax) ⟨_,rfl,rfl⟩) aK) (by show 1<=UZ;decide)) ?_);refine ai (cD 6 (r:=ag) (ys:=[]) `aq ?_);refine ai (ba 7 (y:=((0:Nat):Int)) ev_int ?_);change WS _ _ [.im aq x,dR ans,aA bound,.im gB v,.im (ae `au) lv,.mu js [(0,0)],.mu ag [],aA ((0:Nat):Int),.no,.no] _ _;generalize hR:gH v ans bound.toNat ZC=R at hlen;refine bA (N1:=λZ=>∃e7 e8 e9,Z=[.im aq x,dR ans,aA bound,.im gB v,.im (ae `au) lv,.mu js [],.mu ag R.1,e7,e8,e9]/\R=(R.1,("ended":Str),[]))
  (jA (λm Z=>∃(rows:Rl)(u:Nat)(st:g8)(e8 e9:Ent),Z=[.im aq x,dR ans,aA bound,.im gB v,.im (ae `au) lv,.mu js st,.mu ag rows,aA (u:Int),e8,e9]/\gH v ans m (rows,u,st)=R/\(rows.length:Int)+(m:Int)=bound/\oP v st/\st.length<=rows.length+1/\u<=ans.length) (m0:=bound.toNat) ⟨[],0,[(0,0)],.no,.no,rfl,hR,by rw[Sv];cbv,uX hv,Uk _,Ul _⟩ ?_) ?_
 ·rintro m Z ⟨rows,u,st,e8,e9,rfl,hw,hm,hs,hl,hu⟩;let rl:rows.length<=100000:=by
   let⟨ex,h1,_⟩:=xF (v:=v) (ans:=ans) m (rows,u,st);rw[hw] at h1;rw[h1,RY] at hlen;have:rows.length+ex.length<=100000:=hlen;cbv
  refine⟨!st.isEmpty,_,nB 5 rfl,λh=>?_,λh=>?_⟩
  ·let XS:st≠[]:=λe=>by rw[e] at h;cases h
   let lz:=rJ XS;let et:=rH XS;let te:=hs.el _ (List.getLast_mem XS);rw[← et] at te lz;let fne:=wB hv hs XS;let fl:=TB.mpr fne;refine ai (a9 (ay gi (tX 6 M.len rfl) `r) (λh=>?_) `J)
   ·let h:(rows.length:Int)=bound:=Xw h;let m0:m=0:=`a
    subst m0;rw[yU XS] at hw;refine WS.freeze 5 rfl (aM `a) (WS.freeze 6 rfl (aM `a) ?_);refine aj (aU (fR (ak (EV.zN `aw) (ak (EV.pS (qP hBO)) (ak (EV.zX `aa) aK))) (by show 3<=UZ;decide)) ?_);rw[← hw];rfl
   let h:¬(rows.length:Int)=bound:=Xx h;obtain⟨m',rfl⟩:∃m',m=m'+1:=⟨m-1,`a⟩;let h1:bP lv (dS st).1∣(kg v (dS st).1):=by
    rw[← hlv,a7 (xs:=(ups 0 v.1.length).map (kg v)) [] te.1.1 (by rw[RS,bp];exact te.1.2),RR,R6,tN `a,show(((dS st).1.toNat:Nat):Int)=(dS st).1 by cbv];rfl
   let h2:bP (kg v (dS st).1) (dS st).2∣dB v st:=by
    have:=Ei (v:=v) te.2.1 te.2.2;let hl:=(RP.mp this).1;rw[a7 (xs:=kg v (dS st).1) [] te.2.1 `a,RR,this];rfl
   refine ai (ba 8 (r:=ae ag) (y:=dB v st) (aL (aL `T (sq (oV 5 `ag rfl rfl (kX lz))) h1) (hZ (oV 5 `ag rfl rfl (kX lz))) h2) ?_);refine ai (ba 9 (y:=(dB v st).getD 0 0) (aL (aa 8 rfl) ev_int (a7 (xs:=dB v st) (i:=0) 0 (RM _) `a)) ?_);change WS _ _ [.im aq x,dR ans,aA bound,.im gB v,.im (ae `au) lv,.mu js st,.mu ag rows,aA (u:Int),dR (dB v st),aA ((dB v st).getD 0 0)] _ _;refine bA (N1:=λZ=>∃(c:Int)(u':Nat),Z=[.im aq x,dR ans,aA bound,.im gB v,.im (ae `au) lv,.mu js st,.mu ag rows,aA (u':Int),dR (dB v st),aA c]/\lR v ans u st∣(c,u')/\u'<=ans.length)
    (a9 (ay iJ (da M.len (aa 8 rfl)) ev_int) (λh=>?_) `J) ?_
   ·let h:1<((dB v st).length:Int):=Xw h;refine ai (a9 (ay gi (aa 7 rfl) (da M.len `g)) (λq=>?_) (λq=>aF ?_))
    ·let q:(u:Int)=(ans.length:Int):=Xw q;let hn:l9 v ans (rows,u,st)=none:=by
      unfold l9 lR;rw[Xv (by show 1<(dB v st).length;cbv),Sr (show ans.length<=u by cbv)];rfl
     rw[tT XS hn] at hw;refine WS.freeze 5 rfl (aM `a) (WS.freeze 6 rfl (aM `a) ?_);refine aj (aU (fR (ak (EV.zN `aw) (ak (EV.pS (qP hWA)) (ak (EV.zX `aa) aK))) (by show 3<=UZ;decide)) ?_);rw[← hw];rfl
    ·let q:¬(u:Int)=(ans.length:Int):=Xx q;let ul:u<ans.length:=`a
     let hau:ans[u]?=some ans[u]:=RQ ul;let hab:=xD ha hau;generalize ans[u]=b at hau hab;let Ym:bP ans (u:Int)∣b:=by rw[a7 (xs:=ans) 0 `a `a,RR,show((u:Nat):Int).toNat=u by cbv,hau];rfl
     refine ai (ba 9 (y:=(dB v st).getD (1-b).toNat 0) (aL (aa 8 rfl) (gP (fY hY) (aL `g (aa 7 rfl) Ym)) (a7 (xs:=dB v st) (i:=1-b) 0 `a `a)) ?_);refine aj (CK 7 (a:=(u:Int)) (c:=1) ev_int rfl ⟨(dB v st).getD (1-b).toNat 0,u+1,?_,?_,ul⟩)
     ·rw[show((u+1:Nat):Int)=(u:Int)+1 by push_cast;rfl];rfl
     ·unfold lR;rw[Xv `a,hau];rfl
   ·let h:¬1<((dB v st).length:Int):=Xx h;refine⟨_,u,rfl,?_,hu⟩;unfold lR;rw[Xu `a]
   rintro _ ⟨c,u',rfl,hc,ZO⟩;let cm:=yK hv ha hs XS hc;let⟨c0,c1,c2⟩:=yZ cm;let hn:l9 v ans (rows,u,st)∣(rows++[c],u',jx st (rowOf v c)):=by unfold l9;rw[hc];rfl
   rw[tV XS hn] at hw;let gk:oP v (jx st (rowOf v c))/\(jx st (rowOf v c)).length<=st.length+1:=G7 hv hs XS c2;refine ai (ee 6 (y:=c) (aa 9 rfl) rfl rfl (Uo rl `c) ?_);refine aj (oR (vW 5 (st:=jx st (rowOf v c)) (rr:=nS) (z:=()) CG hr (ah (aL (hZ `p) (aa 9 rfl) (a7 n6 c0 c1)) ax) rfl rfl ⟨_,rfl,XS,`a,rfl⟩) ?_);refine⟨m',`a,rows++[c],u',jx st (rowOf v c),_,_,rfl,hw,?_,gk.1,?_,ZO⟩
   ·rw[RY,Sz];push_cast;push_cast at hm;cbv
   ·rw[RY,Sz];cbv
  ·let XS:st=[]:=by
    cases st with
    | nil=>rfl
    | cons a b=>cases h
   subst XS;rw[xo rfl] at hw;exact⟨aA (u:Int),e8,e9,by rw[← hw],by rw[← hw]⟩
 ·rintro _ ⟨e7,e8,e9,rfl,he⟩;refine WS.freeze 5 rfl (Ul _) (WS.freeze 6 rfl (aM `a) ?_);refine aj (aU (fR (ak (EV.zN `aw) (ak (EV.pS (qP hEN)) (ak (EV.zX `aa) aK))) (by show 3<=UZ;decide)) ?_);unfold qw;rw[he]
theorem z8 (h:∀a∈ans,a=0∨a=1):oW ans=true:=by
 unfold oW;rw[TJ];intro b hb;let⟨a,ha,rfl⟩:=Sk.mp hb;rcases h a (SJ.mp ha).1 with rfl | rfl<;>decide
def lg (ns:Rl)(k:Int):Nat:=(XG ns k/3%41).toNat
noncomputable def mF (ns:Rl)(k j:Int):Int:=if XG ns k%3<XG ns (k+1+j)%4 then 1 else 0
noncomputable def rC (ns:Rl)(k:Int):Rl:=(ups 0 (lg ns k)).map (mF ns k)
theorem FO (ns:Rl)(k:Int):∀a∈rC ns k,a=0∨a=1:=λa ha=>by
 unfold rC at ha;let⟨j,_,rfl⟩:=Sk.mp ha;unfold mF;split
 ·exact .inr rfl
 ·exact .inl rfl
theorem zw (ns:Rl)(k:Int):lg ns k<=40:=by unfold lg;cbv
theorem Fy (ns:Rl)(k:Int):(rC ns k).length<=40:=by unfold rC;rw[RS,bp];exact zw ns k
abbrev P6:Stmt:=top sU
abbrev nAN:Rm:=["_law_script","_law_k","_law_number","_law_lean","_law_bits","_law_j","_law_bit"]
def P7:dc:=λK ps T=>∃(ns:Rl)(k:Int),ps=[⟨cO,ns⟩,⟨ag,k⟩]/\zt ns/\0<=k/\k<=10000/\T=C5 K ag (· =rC ns k)
theorem Ot (M:cb K mg)(CM:aE P w K mg base "_law_mixed" 1 (aQ Gy K))(Df:Def K mg "_law_answers" P6 ["_law_script","_law_k"]):aE P w K mg base "_law_answers" 2 (aQ P7 K):=by
 refine bO (N:=nAN) (k:=1) Df `n;let⟨ns,k,rfl,hs,k0,k1,rfl⟩:=hS;let bd:=uo ns k;let hle:=zw ns k;change WS _ _ [.im cO ns,aA k,.no,.no,.no,.no,.no] _ _;refine ai (ba 2 (y:=XG ns k) (aJ CM hr (ah `e (ah `g ax)) ⟨ns,k,rfl,hs,k0,`a,rfl⟩) ?_);refine ai (ba 3 (y:=XG ns k%3) (cU `r ev_int `c) ?_);refine ai (cD 4 (r:=ag) (ys:=[]) `aq ?_);change WS _ _ [.im cO ns,aA k,aA (XG ns k),aA (XG ns k%3),.mu ag [],.no,.no] _ _;refine bA (N1:=λZ=>∃e5 e6,Z=[.im cO ns,aA k,aA (XG ns k),aA (XG ns k%3),.mu ag (rC ns k),e5,e6]) (bN (λi Z=>∃e5 e6,Z=[.im cO ns,aA k,aA (XG ns k),aA (XG ns k%3),.mu ag (((ups 0 (lg ns k)).take i).map (mF ns k)),e5,e6]) (dy M.range (cU (qK `r ev_int ⟨`c,`c⟩) ev_int `c) ⟨`a,`a⟩) (aY 5) ⟨_,_,rfl⟩ (λi j Z hj hΓ=>?_) `W) ?_
 ·let⟨e5,e6,rfl⟩:=hΓ;let hj2:(ups 0 (lg ns k))[i]?∣j:=hj;let⟨jl,ej⟩:=eQ hj;let jl:i<lg ns k:=jl;let YT:((ups 0 (lg ns k)).take (i+1)).map (mF ns k)=((ups 0 (lg ns k)).take i).map (mF ns k)++[mF ns k j]:=by rw[SG,hj2,Sf];rfl
  rw[YT];let tl:(((ups 0 (lg ns k)).take i).map (mF ns k)).length<=40:=by rw[RS,Sm];cbv
  generalize ((ups 0 (lg ns k)).take i).map (mF ns k)=bs at tl;change WS _ _ [.im cO ns,aA k,aA (XG ns k),aA (XG ns k%3),.mu ag bs,aA j,e6] _ _;refine ai (ba 6 (y:=XG ns (k+1+j)%4) (cU (aJ CM hr (ah `e (ah (bY (bY `g ev_int) `aa) ax)) ⟨ns,k+1+j,rfl,hs,`a,`a,rfl⟩) ev_int `c) ?_);refine aj (ee 4 (y:=mF ns k j) (EV.cast (zS M.int (jk iJ `aw `p)) ?_) rfl rfl (Uo tl `c) ⟨_,_,rfl⟩);unfold mF;simp only[decide_eq_true_eq]
 ·let⟨e5,e6,rfl⟩:=hΓ;refine⟨e5,e6,?_⟩;rw[bp];rw[show(XG ns k/3%41).toNat=lg ns k from rfl,Tg (by rw[bp];exact Uk _)];rfl
 rintro _ ⟨e5,e6,rfl⟩;exact aj (HE 4 rfl (aM (by have:=Fy ns k;cbv)) rfl)
mutual
noncomputable def eR:Th->Nat
 | .ifs _ A B=>1+fI A+fI B
 | .XR _ A=>1+fI A
 | .X6 _=>1
 | .call _=>1
 | .leave=>0
 | .back=>0
noncomputable def fI:List Th->Nat
 | []=>0
 | t::ts=>eR t+fI ts
end
abbrev mK:=Str×Str×Int×Int×Int
noncomputable def mI (ts:`Z)(k bh lp:Int):Int:=match ts with
 | []=>bh
 | .leave::_=>lp
 | .back::_=> -1
 | _::_=>k
mutual
noncomputable def cF:Th->Int->Int->Int->List mK
 | .X6 x,k,af,lp=>[("do",x,k,af, -1)]
 | .call j,k,af,lp=>[("call","",k,af,j)]
 | .ifs x A B,k,af,lp=>([(("yes":Str),x,k,mI A (k+1) af lp, -1),(("no":Str),x,k,mI B (k+1+fI A) af lp, -1)]:List mK)++(cQ A (k+1) af lp++cQ B (k+1+fI A) af lp)
 | .XR x A,k,af,lp=>([(("yes":Str),x,k,mI A (k+1) k af, -1),(("no":Str),x,k,af, -1)]:List mK)++cQ A (k+1) k af
 | .leave,_,_,_=>[]
 | .back,_,_,_=>[]
noncomputable def cQ:List Th->Int->Int->Int->List mK
 | [],_,_,_=>[]
 | t::ts,k,bh,lp=>cF t k (mI ts (k+eR t) bh lp) lp++cQ ts (k+eR t) bh lp
end
theorem Km (x:Str):bw (.X6 x)=1:=by simp[bw]
theorem Hy (x:Int):bw (.call x)=1:=by simp[bw]
theorem EG:bw .leave=1:=by simp[bw]
theorem Io:bw .back=1:=by simp[bw]
theorem n8:aW "else"=false:=`b
theorem iW:aW "end"=false:=`b
theorem oK:aW "leave"=false:=`b
theorem rD:aW "back"=false:=`b
theorem xQ:aW "part"=false:=`b
noncomputable def lC (S:`N):Nat:=(S.filter λt=>aW t.kind).length
theorem iZ (a b:`N):lC (a++b)=lC a+lC b:=by unfold lC;rw[SH,RY]
theorem tM (h:aW s.kind=true):lC [s]=1:=by unfold lC;rw[S4 (by exact h)];rfl
theorem pJ (h:aW s.kind=false):lC [s]=0:=by unfold lC;rw[S5 (by rw[h];exact Rv)];rfl
mutual
theorem Lu {XA:Rm}:∀(t:Th)(a w u:Int),lC (spT XA a w u t)=eR t
 | .X6 _,a,w,u=>by rw[spT,eR];exact tM sZ
 | .call _,a,w,u=>by rw[spT,eR];exact tM nT
 | .leave,a,w,u=>by rw[spT,eR];exact pJ oK
 | .back,a,w,u=>by rw[spT,eR];exact pJ rD
 | .XR x A,a,w,u=>by
   rw[spT,eR,iZ,iZ,wu A,tM gO,pJ iW];cbv
 | .ifs x A B,a,w,u=>by
   rw[spT,eR,iZ,iZ,iZ,iZ,wu A,wu B,tM m9,pJ n8,pJ iW];cbv
theorem wu {XA:Rm}:∀(ts:`Z)(a w u:Int),lC (cf XA a w u ts)=fI ts
 | [],a,w,u=>by rw[cf,fI];rfl
 | t::ts,a,w,u=>by rw[cf,fI,iZ,Lu t,wu ts]
end
section
variable {a:Nat}
noncomputable def cI (S:`N)(Ld:List Rl)(a n:Nat):List Rw:=(Ue a n).flatMap λ(i:Nat)=>dX Ld `ak ((i:Int),S.getD i dA)
theorem dP (S:`N)(Ld:List Rl)(a m n:Nat):cI S Ld a (m+n)=cI S Ld a m++cI S Ld (a+m) n:=by
 unfold cI;rw[← Tc,List.range'_append_1]
theorem oH (S:`N)(Ld:List Rl)(a:Nat):cI S Ld a 1=dX Ld `ak ((a:Int),S.getD a dA):=by
 unfold cI;rw[range'_one,Tu]
noncomputable def Yo (S:`N)(a n:Nat):Nat:=((Ue a n).filter λ(i:Nat)=>aW (aT S (i:Int))).length
theorem gA (S:`N)(a m n:Nat):Yo S a (m+n)=Yo S a m+Yo S (a+m) n:=by
 unfold Yo;rw[← RY,← SH,List.range'_append_1]
theorem vG (h:aW (aT S (a:Int))=true):Yo S a 1=1:=by
 unfold Yo;rw[range'_one,S4 (by exact h)];rfl
theorem vx (h:aW (aT S (a:Int))=false):Yo S a 1=0:=by
 unfold Yo;rw[range'_one,S5 (by rw[h];exact Rv)];rfl
theorem cH.gY {S:`u}{v:α}{vs:`u}(h:cH S a (v::vs)):S[a]?∣v/\cH S (a+1) vs:=⟨h 0 v rfl,λi x hx=>by
 have:=h (i+1) x hx;rwa [show a+1+i=a+(i+1) by cbv]⟩
theorem wM {S:`N}:∀{vs:`N}{a:Nat},cH S a vs->Yo S a vs.length=lC vs
 | [],a,_=>rfl
 | v::vs,a,h=>by
   let⟨h1,h2⟩:=h.gY;let h2:cH S (a+1) vs:=h2;let ih:=wM h2;rw[Sb,Nat.add_comm,gA,ih,show v::vs=[v]++vs from rfl,iZ];let hk:=(dz h1).1;cases hr:aW v.kind with
   | true=>rw[vG (by rw[hk];exact hr),tM hr]
   | false=>rw[vx (by rw[hk];exact hr),pJ hr]
theorem M7 {x w:Int}{k:Nat}(h:cH S a (spT XA x w u t))(hk:Yo S 0 a=k):Yo S 0 (a+bw t)=k+eR t:=by
 have:=wM h;rw[kP,Lu] at this;rw[gA,hk,Uu,this]
theorem G2 {x w:Int}{k:Nat}(h:cH S a (cf XA x w u ts))(hk:Yo S 0 a=k):Yo S 0 (a+XE ts)=k+fI ts:=by
 have:=wM h;rw[cu,wu] at this;rw[gA,hk,Uu,this]
theorem yG (S:`N)(Ld:List Rl):gc S Ld `ak=cI S Ld 0 S.length:=by
 unfold gc cI;let e:nums S=(Ue 0 S.length).map λ(i:Nat)=>((i:Int),S.getD i dA):=by
  refine SV λi=>?_;obtain h | h:=Ut i S.length
  ·let hl:i<(nums S).length:=by rw[cL];exact h
   let hn:(nums S)[i]?=some (nums S)[i]:=RQ hl;let⟨y1,y2⟩:=fD hn;let hr:(Ue 0 S.length)[i]?∣i:=by rw[List.getElem?_range' h];simp
   rw[hn,R6,hr];refine congrArg some (UO y1 ?_);show _=S.getD i dA;rw[RR,y2];rfl
  ·rw[Sr (by rw[cL];exact h),Sr (by rw[RS,List.length_range'];exact h)]
 rw[e,List.flatMap_map]
theorem jI (hs:S[n]?∣s)(hk:aW s.kind=false):cI S Ld n 1=[]:=by
 let e:S.getD n dA=s:=by rw[RR,hs];rfl
 rw[oH,e];unfold dX jU;unfold aW at hk;cases q:cM dF s.kind with
 | none=>rfl
 | some x=>rw[q] at hk;cases hk
theorem Dx (hs:S[n]?∣s)(hk:cM dF s.kind∣[y])(hl:Ld.getD n []=[l]):cI S Ld n 1=[((n:Int),(aX S Ld).getD l.toNat 0,y,s.name)]:=by
 let e:S.getD n dA=s:=by rw[RR,hs];rfl
 rw[oH,e];unfold dX jU;rw[show(((n:Int),s).1).toNat=n from RL n,show(((n:Int),s).2).kind=s.kind from rfl,hk,hl];rfl
theorem BN {y':Str}{l':Int}(hs:S[n]?∣s)(hk:cM dF s.kind∣[y,y'])(hl:Ld.getD n []=[l,l']):cI S Ld n 1=[((n:Int),(aX S Ld).getD l.toNat 0,y,s.name),((n:Int),(aX S Ld).getD l'.toNat 0,y',s.name)]:=by
 let e:S.getD n dA=s:=by rw[RR,hs];rfl
 rw[oH,e];unfold dX jU;rw[show(((n:Int),s).1).toNat=n from RL n,show(((n:Int),s).2).kind=s.kind from rfl,hk,hl];rfl
noncomputable def vY (XA:Rm)(φ:Int->Int)(r:Rw):mK:=(r.2.2.1,if r.2.2.1="call" then "" else r.2.2.2,φ r.1,φ r.2.1,if r.2.2.1="call" then(Yy XA r.2.2.2:Int) else -1)
structure rZ (S:`N)(Ld:List Rl)(φ:Int->Int)(pe:Nat)(wl lq:Int)(lp:Bool)(hi:Nat):Prop where
 pz:hi<=pe
 pl:pe<S.length
 ps:φ ((aX S Ld).getD pe 0)= -1
 wh:lp=true->(hi:Int)<=wl/\wl<(S.length:Int)/\φ ((aX S Ld).getD wl.toNat 0)=lq
end
variable {φ:Int->Int}{pe:Nat}{wl bh:Int}
section
variable {lq:Int}
theorem rZ.less {hi lo:Nat}(h:rZ S Ld φ pe wl lq lp hi)(q:lo<=hi):rZ S Ld φ pe wl lq lp lo:=
 ⟨by have:=h.pz;cbv,h.pl,h.ps,λe=>by let⟨a,b,c⟩:=h.wh e;exact⟨`a,b,c⟩⟩
theorem DL (hs:S[n]?∣s)(hk:aW s.kind=true):(aX S Ld).getD n 0=(n:Int):=
 jr (RP.mp hs).1 (.inr (by rw[(dz hs).1];exact hk))
theorem lW (hs:S[n]?∣s)(hk:aW s.kind=false)(hL:Ld.getD n []=[l])(h1:(n:Int)<l)(h2:l<(S.length:Int)):(aX S Ld).getD n 0=(aX S Ld).getD l.toNat 0:=by
 rw[nN (RP.mp hs).1 hL (by rw[(dz hs).1];exact hk) `a h2,Xv h1]
theorem BB (hs:S[n]?∣s)(hk:aW s.kind=false)(hL:Ld.getD n []=[l])(h0:0<=l)(h1:l<=(n:Int)):(aX S Ld).getD n 0=l:=by
 let hn:=(RP.mp hs).1;rw[nN hn hL (by rw[(dz hs).1];exact hk) h0 `a,Xu `a]
theorem MA:cM dF "do"∣(["do"]:Rm):=`b
theorem FQ:cM dF "call"∣(["call"]:Rm):=`b
theorem Ko:cM dF "if"∣(["yes","no"]:Rm):=`b
theorem BV:cM dF "while"∣(["yes","no"]:Rm):=`b
theorem cH.d0 {a:Nat}{v:Rl}{vs:List Rl}(h:cH Ld a (v::vs)):Ld.getD a []=v:=by
 rw[RR,h.gY.1];rfl
theorem hdT {a w:Int}:∃s r,spT XA a w u t=s::r/\(aW s.kind=true↔t≠ .leave/\t≠ .back):=by
 cases t with
 | X6 x=>rw[spT];exact⟨_,_,rfl,by constructor<;>intro _;exact⟨(λe=>by cases e),λe=>by cases e⟩;exact sZ⟩
 | call x=>rw[spT];exact⟨_,_,rfl,by constructor<;>intro _;exact⟨(λe=>by cases e),λe=>by cases e⟩;exact nT⟩
 | ifs x A B=>rw[spT];exact⟨_,_,rfl,by constructor<;>intro _;exact⟨(λe=>by cases e),λe=>by cases e⟩;exact m9⟩
 | XR x A=>rw[spT];exact⟨_,_,rfl,by constructor<;>intro _;exact⟨(λe=>by cases e),λe=>by cases e⟩;exact gO⟩
 | leave=>rw[spT];exact⟨_,_,rfl,by constructor<;>intro h;rw[show aW _=false from oK] at h;cases h;exact Xt rfl h.1⟩
 | back=>rw[spT];exact⟨_,_,rfl,by constructor<;>intro h;rw[show aW _=false from rD] at h;cases h;exact Xt rfl h.2⟩
theorem HH (t:Th):1<=bw t:=by
 cases t<;>simp[bw]<;>cbv
theorem Ii {k:Int}(h:t≠ .leave/\t≠ .back):mI (t::ts) k bh lq=k:=by
 cases t with
 | leave=>exact Xt rfl h.1
 | back=>exact Xt rfl h.2
 | X6 _=>rfl
 | call _=>rfl
 | ifs _ _ _=>rfl
 | XR _ _=>rfl
theorem vw (hφ:∀n:Nat,n<pe->aW (aT S (n:Int))=true->φ (n:Int)=(Yo S 0 n:Int)){a:Nat}{w:Int}(XJ:bJ lo m lp ts)(hS:cH S a (cf XA (a:Int) w u ts))(hL:cH Ld a (gG (a:Int) wl (pe:Int) ts))(cx:rZ S Ld φ pe wl lq lp (a+XE ts)){k:Nat}(hk:Yo S 0 a=k)(hb:φ ((aX S Ld).getD (a+XE ts) 0)=bh):φ ((aX S Ld).getD a 0)=mI ts (k:Int) bh lq:=by
 cases ts with
 | nil=>rw[XE] at hb;exact hb
 | cons t ts=>
   rw[cf] at hS;rw[gG] at hL;simp only[bJ] at XJ;rw[XE] at cx;let hS:=hS.pre;let hL:=hL.pre;let p1:=HH t;let pz:=cx.pz;let pl:=cx.pl;let⟨s,r,e,hr⟩:=hdT (XA:=XA) (t:=t) (a:=(a:Int)) (w:=w) (u:=u);let hs:S[a]?∣s:=by rw[e] at hS;exact hS.gY.1
   cases Zb:aW s.kind with
   | true=>
     rw[DL hs Zb,Ii (hr.mp Zb),hφ a `a (by rw[(dz hs).1];exact Zb),hk]
   | false=>
     cases t with
     | X6 _=>rw[hr.mpr ⟨(λe=>by cases e),(λe=>by cases e)⟩] at Zb;cases Zb
     | call _=>rw[hr.mpr ⟨(λe=>by cases e),(λe=>by cases e)⟩] at Zb;cases Zb
     | ifs _ _ _=>rw[hr.mpr ⟨(λe=>by cases e),(λe=>by cases e)⟩] at Zb;cases Zb
     | XR _ _=>rw[hr.mpr ⟨(λe=>by cases e),(λe=>by cases e)⟩] at Zb;cases Zb
     | leave=>
       let h1:=XJ.1;simp only[bX] at h1;let⟨w1,w2,w3⟩:=cx.wh h1;rw[fQ] at hL;rw[lW hs Zb hL.d0 `a w2,w3];rfl
     | back=>
       rw[fQ] at hL;rw[lW hs Zb hL.d0 `a `a,RL,cx.ps];rfl
end
theorem DE {a a' b b':`u}(h:a=a')(h':b=b'):a++b=a'++b':=by rw[h,h']
section
theorem L0 (nd:XA.Nodup)(h:j<XA.length):Yy XA (XA.getD j "")=j:=by
 let hx:XA[j]?∣(XA.getD j ""):=by rw[RR,RQ h];rfl
 let⟨h1,h2⟩:=sV (R7 hx);obtain q | q | q:=Nat.lt_trichotomy (Yy XA (XA.getD j "")) j
 ·have:=(List.getElem?_inj `a nd).mp (h1.trans hx.symm);exact this
 ·exact q
 ·exact Xt hx (h2 j q)
variable (nd:XA.Nodup)(hm:m<=(XA.length:Int))(h0:0<=lo)(hφ:∀n:Nat,n<pe->aW (aT S (n:Int))=true->φ (n:Int)=(Yo S 0 n:Int))
include nd hm h0 hφ
mutual
theorem mpT:∀(t:Th)(lp:Bool)(a:Nat)(w u wl lq:Int)(k:Nat)(af:Int),bX lo m lp t->cH S a (spT XA (a:Int) w u t)->cH Ld a (fQ (a:Int) wl (pe:Int) t)->rZ S Ld φ pe wl lq lp (a+bw t)->Yo S 0 a=k->φ ((aX S Ld).getD (a+bw t) 0)=af->(cI S Ld a (bw t)).map (vY XA φ)=cF t (k:Int) af lq
 | .X6 x,lp,a,w,u,wl,lq,k,af,h,hS,hL,cx,hk,ha=>by
   rw[spT] at hS;rw[fQ] at hL;rw[Km] at ha cx ⊢;let pz:=cx.pz;let fa:=hφ a `a (by rw[(dz hS.gY.1).1];exact sZ);rw[Dx hS.gY.1 MA hL.d0,cF,Uj];show[(("do":Str),(if("do":Str)="call" then("":Str) else x),φ (a:Int),φ ((aX S Ld).getD ((a:Int)+1).toNat 0),(if("do":Str)="call" then(Yy XA x:Int) else -1))]=_;rw[show((a:Int)+1).toNat=a+1 by cbv,ha,fa,hk,Xu `b,Xu `b]
 | .call j,lp,a,w,u,wl,lq,k,af,h,hS,hL,cx,hk,ha=>by
   rw[spT] at hS;rw[fQ] at hL;rw[Hy] at ha cx ⊢;simp only[bX] at h;let pz:=cx.pz;let fa:=hφ a `a (by rw[(dz hS.gY.1).1];exact nT);rw[Dx hS.gY.1 FQ hL.d0,cF,Uj];show[(("call":Str),(if("call":Str)="call" then("":Str) else XA.getD j.toNat ""),φ (a:Int),φ ((aX S Ld).getD ((a:Int)+1).toNat 0),(if("call":Str)="call" then(Yy XA (XA.getD j.toNat ""):Int) else -1))]=_;rw[show((a:Int)+1).toNat=a+1 by cbv,ha,fa,hk,Xv rfl,Xv rfl,L0 nd `a,show((j.toNat:Nat):Int)=j by cbv]
 | .leave,lp,a,w,u,wl,lq,k,af,h,hS,hL,cx,hk,ha=>by
   rw[spT] at hS;rw[EG];rw[jI hS.gY.1 oK,cF];rfl
 | .back,lp,a,w,u,wl,lq,k,af,h,hS,hL,cx,hk,ha=>by
   rw[spT] at hS;rw[Io];rw[jI hS.gY.1 rD,cF];rfl
 | .XR x A,lp,a,w,u,wl,lq,k,af,h,hS,hL,cx,hk,ha=>by
   simp only[bX] at h;rw[spT] at hS;rw[fQ] at hL;rw[bw] at cx ha ⊢;let⟨s1,s2⟩:=hS.app;let⟨s2,s3⟩:=s2.app;let⟨d1,d2⟩:=hL.app;let⟨d2,d3⟩:=d2.app;rw[cu] at s3;rw[eh] at d3;simp only[Sb,Sv,Uu] at s2 s3 d2 d3;let pz:=cx.pz;let pl:=cx.pl;let fa:=hφ a `a (by rw[(dz s1.gY.1).1];exact gO);let se:(aX S Ld).getD (a+1+XE A) 0=(a:Int):=BB s3.gY.1 iW d3.d0 `a `a;let cx':rZ S Ld φ pe ((a:Int)+2+XE A) af true (a+1+XE A):=⟨`a,pl,cx.ps,λ_=>⟨`a,`a,by rw[show((a:Int)+2+XE A).toNat=a+(2+XE A) by cbv];exact ha⟩⟩;let k1:Yo S 0 (a+1)=k+1:=by rw[gA,hk,Uu,vG (by rw[(dz s1.gY.1).1];exact gO)]
   let s2':cH S (a+1) (cf XA ((a+1:Nat):Int) (w+2) (a:Int) A):=by push_cast;exact s2
   let d2':cH Ld (a+1) (gG ((a+1:Nat):Int) ((a:Int)+2+XE A) (pe:Int) A):=by push_cast;exact d2
   let hb:φ ((aX S Ld).getD (a+1+XE A) 0)=(k:Int):=by rw[se,fa,hk]
   let en:=vw hφ h.2 s2' d2' cx' k1 hb;let ih:=DV A true (a+1) (w+2) (a:Int) ((a:Int)+2+XE A) af (k+1) (k:Int) h.2 s2' d2' cx' k1 hb;rw[show 2+XE A=1+(XE A+1) by cbv,dP,dP,BN s1.gY.1 BV d1.d0,jI s3.gY.1 iW,Sl,Sf,ih,cF];refine DE ?_ (by push_cast;rfl);show[(("yes":Str),(if("yes":Str)="call" then("":Str) else x),φ (a:Int),φ ((aX S Ld).getD ((a:Int)+1).toNat 0),(if("yes":Str)="call" then(Yy XA x:Int) else -1)),(("no":Str),(if("no":Str)="call" then("":Str) else x),φ (a:Int),φ ((aX S Ld).getD ((a:Int)+2+XE A).toNat 0),(if("no":Str)="call" then(Yy XA x:Int) else -1))]=_;rw[show((a:Int)+1).toNat=a+1 by cbv,show((a:Int)+2+XE A).toNat=a+(2+XE A) by cbv,ha,en,fa,hk,Xu `b,Xu `b,Xu `b,Xu `b];push_cast;rfl
 | .ifs x A B,lp,a,w,u,wl,lq,k,af,h,hS,hL,cx,hk,ha=>by
   simp only[bX] at h;rw[spT,Sj] at hS;rw[fQ,Sj] at hL;rw[bw] at cx ha ⊢;let⟨s1,s2⟩:=hS.app;let⟨s2,s3⟩:=s2.app;let⟨s3,s4⟩:=s3.app;let⟨s4,s5⟩:=s4.app;let⟨d1,d2⟩:=hL.app;let⟨d2,d3⟩:=d2.app;let⟨d3,d4⟩:=d3.app;let⟨d4,d5⟩:=d4.app;rw[cu] at s3 s4 s5;rw[cu] at s5;rw[eh] at d3 d4 d5;rw[eh] at d5;simp only[Sb,Sv,Uu] at s2 s3 s4 s5 d2 d3 d4 d5;let pz:=cx.pz;let pl:=cx.pl;let fa:=hφ a `a (by rw[(dz s1.gY.1).1];exact m9);let s5e:(aX S Ld).getD (a+1+XE A+1+XE B) 0=(aX S Ld).getD (a+(3+XE A+XE B)) 0:=by
    rw[lW s5.gY.1 iW d5.d0 `a `a];congr 1;cbv
   let s3e:(aX S Ld).getD (a+1+XE A) 0=(aX S Ld).getD (a+(3+XE A+XE B)) 0:=by
    rw[lW s3.gY.1 n8 d3.d0 `a `a,← s5e];congr 1;cbv
   let k1:Yo S 0 (a+1)=k+1:=by rw[gA,hk,Uu,vG (by rw[(dz s1.gY.1).1];exact m9)]
   let k2:Yo S 0 (a+1+XE A)=k+1+fI A:=G2 s2 k1;let k3:Yo S 0 (a+1+XE A+1)=k+1+fI A:=by rw[gA,k2,Uu,vx (by rw[(dz s3.gY.1).1];exact n8),UA]
   let s2':cH S (a+1) (cf XA ((a+1:Nat):Int) (w+2) (a:Int) A):=by push_cast;exact s2
   let d2':cH Ld (a+1) (gG ((a+1:Nat):Int) wl (pe:Int) A):=by push_cast;exact d2
   let q4:((a+1+XE A+1:Nat):Int)=(a:Int)+2+XE A:=`a
   let s4':cH S (a+1+XE A+1) (cf XA ((a+1+XE A+1:Nat):Int) (w+3+(XU XA A).length) ((a:Int)+1+XE A) B):=by rw[q4];exact s4
   let d4':cH Ld (a+1+XE A+1) (gG ((a+1+XE A+1:Nat):Int) wl (pe:Int) B):=by rw[q4];exact d4
   let cA:rZ S Ld φ pe wl lq lp (a+1+XE A):=cx.less `a;let cB:rZ S Ld φ pe wl lq lp (a+1+XE A+1+XE B):=cx.less `a;let hA:φ ((aX S Ld).getD (a+1+XE A) 0)=af:=by rw[s3e];exact ha
   let hB:φ ((aX S Ld).getD (a+1+XE A+1+XE B) 0)=af:=by rw[s5e];exact ha
   let eA:=vw hφ h.2.1 s2' d2' cA k1 hA;let eB:=vw hφ h.2.2 s4' d4' cB k3 hB;let iA:=DV A lp (a+1) (w+2) (a:Int) wl lq (k+1) af h.2.1 s2' d2' cA k1 hA;let iB:=DV B lp (a+1+XE A+1) (w+3+(XU XA A).length) ((a:Int)+1+XE A) wl lq (k+1+fI A) af h.2.2 s4' d4' cB k3 hB;rw[show 3+XE A+XE B=1+(XE A+(1+(XE B+1))) by cbv,dP,dP,dP,dP,BN s1.gY.1 Ko d1.d0,jI s3.gY.1 n8,jI s5.gY.1 iW,Sl,SX,Sf,Sf,iA,iB,cF];refine DE ?_ (by push_cast;rfl);show[(("yes":Str),(if("yes":Str)="call" then("":Str) else x),φ (a:Int),φ ((aX S Ld).getD ((a:Int)+1).toNat 0),(if("yes":Str)="call" then(Yy XA x:Int) else -1)),(("no":Str),(if("no":Str)="call" then("":Str) else x),φ (a:Int),φ ((aX S Ld).getD ((a:Int)+2+XE A).toNat 0),(if("no":Str)="call" then(Yy XA x:Int) else -1))]=_;rw[show((a:Int)+1).toNat=a+1 by cbv,show((a:Int)+2+XE A).toNat=a+1+XE A+1 by cbv,eB,eA,fa,hk,Xu `b,Xu `b,Xu `b,Xu `b];push_cast;rfl
theorem DV:∀(ts:`Z)(lp:Bool)(a:Nat)(w u wl lq:Int)(k:Nat)(bh:Int),bJ lo m lp ts->cH S a (cf XA (a:Int) w u ts)->cH Ld a (gG (a:Int) wl (pe:Int) ts)->rZ S Ld φ pe wl lq lp (a+XE ts)->Yo S 0 a=k->φ ((aX S Ld).getD (a+XE ts) 0)=bh->(cI S Ld a (XE ts)).map (vY XA φ)=cQ ts (k:Int) bh lq
 | [],lp,a,w,u,wl,lq,k,bh,h,hS,hL,cx,hk,hb=>by rw[XE,cQ];rfl
 | t::ts,lp,a,w,u,wl,lq,k,bh,h,hS,hL,cx,hk,hb=>by
   simp only[bJ] at h;rw[cf] at hS;rw[gG] at hL;rw[XE] at cx hb ⊢;let⟨s1,s2⟩:=hS.app;let⟨d1,d2⟩:=hL.app;rw[kP] at s2;rw[pD] at d2;let s2':cH S (a+bw t) (cf XA ((a+bw t:Nat):Int) (w+(c6 XA t).length) u ts):=by push_cast;exact s2
   let d2':cH Ld (a+bw t) (gG ((a+bw t:Nat):Int) wl (pe:Int) ts):=by push_cast;exact d2
   let k1:=M7 s1 hk;rw[← UG] at cx hb;let en:=vw hφ h.2.2 s2' d2' cx k1 hb;let i1:=mpT t lp a w u wl lq k _ h.1 s1 d1 (cx.less `a) hk en;let i2:=DV ts lp (a+bw t) (w+(c6 XA t).length) u wl lq (k+eR t) bh h.2.2 s2' d2' cx k1 hb;rw[dP,Sf,i1,i2,cQ];push_cast;rfl
end
end
noncomputable def mS (φ:Int->Int)(F:Rt):Rt:=F.map λy=>(φ y.1,y.2)
def AJ (φ:Int->Int)(Kp:Rl):Prop:=∀x∈Kp,∀y∈Kp,φ x=φ y->x=y
theorem pG {φ:Int->Int}{Kp:Rl}(hi:AJ φ Kp){k:Int}(hk:k∈Kp):∀{F:Rt},(∀x∈F.map (·.1),x∈Kp)->bb (mS φ F) (φ k)=bb F k
 | [],_=>rfl
 | y::F,h=>by
   let ih:=pG hi hk (F:=F) λx hx=>h x (RX _ hx);let hy:=h y.1 RZ;unfold bb mS at ih ⊢;rw[Sx];by_cases q:y.1=k
   ·rw[T7 (~~~congrArg φ q),T7 (~~~q)];rfl
   ·rw[TC (~~~λe=>q (hi _ hy _ hk e)),TC (~~~q)];exact ih
theorem yL (hi:AJ φ Kp){k:Int}(hk:k∈Kp)(hF:∀x∈F.map (·.1),x∈Kp):cT (mS φ F) (φ k)=mS φ (cT F k)/\∀x∈(cT F k).map (·.1),x∈Kp:=by
 unfold cT;rw[pG hi hk hF];cases (bb F k).isSome with
 | true=>exact⟨rfl,hF⟩
 | false=>
   refine⟨?_,λx hx=>?_⟩
   ·show mS φ F++[(φ k,((mS φ F).length:Int))]=mS φ (F++[(k,(F.length:Int))]);unfold mS;rw[Sf,RS];rfl
   ·let hx:x∈(F++[(k,(F.length:Int))]).map (·.1):=hx;rw[Sf] at hx;obtain hx | hx:=Se.mp hx
    ·exact hF x hx
    ·rw[RU.mp hx];exact hk
abbrev jg (F:Rt)(a b:Int):Rt:=cT (cT F a) b
theorem xn {φ:Int->Int}{Kp:Rl}(XA:Rm)(hi:AJ φ Kp):∀{rs:List Rw}{F:Rt},(∀x∈F.map (·.1),x∈Kp)->(∀r∈rs,r.1∈Kp/\r.2.1∈Kp)->(rs.map (vY XA φ)).foldl `ae (mS φ F)=mS φ (rs.foldl (λF r=>jg F r.1 r.2.1) F)/\∀x∈(rs.foldl (λF r=>jg F r.1 r.2.1) F).map (·.1),x∈Kp
 | [],F,hF,_=>⟨rfl,hF⟩
 | r::rs,F,hF,hr=>by
   let⟨k1,k2⟩:=hr r RZ;let⟨e1,h1⟩:=yL hi k1 hF;let⟨e2,h2⟩:=yL hi k2 h1;let ih:=xn XA hi (rs:=rs) (F:=jg F r.1 r.2.1) h2 λx hx=>hr x (RX _ hx);rw[Sx,SY,SY];show(rs.map (vY XA φ)).foldl _ (cT (cT (mS φ F) (φ r.1)) (φ r.2.1))=_/\_;rw[e1,e2];exact ih
theorem rf {p:ic}:∀{rs:List Rw}{F:Rt},(∀r∈rs,hV p r=false)->rs.foldl (eu p) F=F
 | [],F,_=>rfl
 | r::rs,F,h=>by
   rw[SY,show eu p F r=F by unfold eu;rw[h r RZ];rfl];exact rf λx hx=>h x (RX _ hx)
theorem yR {p:ic}:∀{rs:List Rw}{F:Rt},(∀r∈rs,hV p r=true)->rs.foldl (eu p) F=rs.foldl (λF r=>jg F r.1 r.2.1) F
 | [],F,_=>rfl
 | r::rs,F,h=>by
   rw[SY,SY,show eu p F r=jg F r.1 r.2.1 by unfold eu;rw[h r RZ];rfl];exact yR λx hx=>h x (RX _ hx)
theorem mh {a:Nat}(h:r∈cI S Ld a n):∃i:Nat,a<=i/\i<a+n/\r.1=(i:Int):=by
 unfold cI at h;let⟨i,hi,hr⟩:=TL.mp h;let⟨y,hy,rfl⟩:=Sk.mp hr;have:=List.mem_range'_1.mp hi;exact⟨i,this.1,this.2,rfl⟩
theorem GD {m:Nat}(h:n<m)(hr:aW (aT S (n:Int))=true):Yo S 0 n<Yo S 0 m:=by
 obtain⟨d,rfl⟩:∃d,m=n+(1+d):=⟨m-n-1,`a⟩;rw[gA,Uu,gA,vG hr];cbv
theorem rE:∀(zs:List (Str×List Th))(j:Nat)(z:Str×List Th),zs[j]?∣z->dt (zs.take (j+1))=dt (zs.take j)+(2+XE z.2)
 | [],j,z,h=>by simp at h
 | y::r,0,z,h=>by
   let e:y=z:= ~~~h
   subst e;rw[SQ,dt,Tr,Tr,dt];cbv
 | y::r,j+1,z,h=>by
   have:=rE r j z (~~~h);rw[SQ,SQ,dt,dt,this];cbv
noncomputable def X3 (Ls:`H)(j:Nat):Nat:=((Ls.take j).map fI).sum
def XQ (Ls:`H)(j:Nat):List mK:=cQ (Ls.getD j []) (X3 Ls j:Int) (-1) 0
noncomputable def eE (Ls:`H)(j:Nat):Rt:=(XQ Ls j).foldl `ae [((X3 Ls j:Int),0),(-1,1)]
def dZ (j:Nat)(F:Rt)(r:mK):Row:=((j:Int),(bb F r.2.2.1).getD 0,(bb F r.2.2.2.1).getD 0,r.2.2.2.2)
noncomputable def XO (Ls:`H):gZ:=((Sd Ls.length).map λj=>((eE Ls j).length:Int),(Sd Ls.length).flatMap λj=>(XQ Ls j).map (dZ j `aS))
noncomputable def kq (XA:Rm)(Ls:`H)(j:Nat)(z:Str×List Th)(x:Int):Int:=if x=((lst `k z:Nat):Int) then -1 else(Yo `i 0 x.toNat:Int)
theorem tG (S:`N)(Ld:List Rl){f:Nat}{w:Int}(hb:fJ S Ld XA f w z):cI S Ld f (2+XE z.2)=cI S Ld (f+1) (XE z.2):=by
 rw[show 2+XE z.2=1+(XE z.2+1) by cbv,dP,dP,jI hb.nm xQ,jI hb.e iW,Sl,SX]
theorem ux {f:Nat}{w:Int}(hb:fJ S Ld XA f w z):Yo S 0 (f+1)=Yo S 0 f/\Yo S 0 (f+(2+XE z.2))=Yo S 0 f+fI z.2:=by
 let k1:Yo S 0 (f+1)=Yo S 0 f:=by rw[gA,Uu,vx (by rw[hb.k];exact xQ),UA]
 refine⟨k1,?_⟩;let k2:=G2 hb.s k1;rw[show f+(2+XE z.2)=(f+1+XE z.2)+1 by cbv,gA,k2,Uu,vx (by rw[(dz hb.e).1];exact iW),UA]
theorem vK (h:`aK)(hj:j<Ls.length):∃z,(de XA Ls)[j]?∣z/\z.2=Ls.getD j []:=by
 let hl:j<(de XA Ls).length:=by rw[oF h];exact hj
 let hz:=RQ hl;refine⟨_,hz,?_⟩;have:=(eU h hz).2.2.2.2;rw[RR,this];rfl
theorem Bj (h:`aK):∀j,j<=Ls.length->Yo `i 0 `k=X3 Ls j
 | 0,_=>rfl
 | j+1,hj=>by
   let⟨z,hz,ez⟩:=vK h (j:=j) `a;let⟨w,hb⟩:=h9 (XA:=XA) (Ls:=Ls) hz;let hL:=(eU h hz).2.2.2.2;let e:fst XA Ls (j+1)=fst XA Ls j+(2+XE z.2):=rE _ _ _ hz;rw[e,(ux hb).2,Bj h j `a];unfold X3;rw[SG,hL,Sf,Ui];simp
theorem all_rows (h:`aK):∀n,n<=Ls.length->cI `i `D 0 (fst XA Ls n)=(Sd n).flatMap λj=>cI `i `D `an (XE (Ls.getD j []))
 | 0,_=>rfl
 | n+1,hn=>by
   let⟨z,hz,ez⟩:=vK h (j:=n) `a;let⟨w,hb⟩:=h9 (XA:=XA) (Ls:=Ls) hz;let e:fst XA Ls (n+1)=fst XA Ls n+(2+XE z.2):=rE _ _ _ hz;rw[e,dP,all_rows h n `a,Uu,tG _ _ hb,Tf,Tc,Tu,ez]
theorem v8 (h:`aK):(bK XA Ls).rows=(Sd Ls.length).flatMap λj=>cI `i `D `an (XE (Ls.getD j [])):=by
 rw[← all_rows h Ls.length (Uk _)];show gc `i `D (aX `i `D)=_;rw[yG];congr 1;rw[AH,← oF h];show dt `M=dt ((de XA Ls).take _);rw[SK]
theorem uU (h:`aK)(hz:(de XA Ls)[j]?∣z):(cI `i `D `an (XE z.2)).map (vY XA (kq XA Ls j z))=XQ Ls j:=by
 let⟨w,hb⟩:=h9 (XA:=XA) (Ls:=Ls) hz;let⟨YZ,Zr,ok3,hn,hL⟩:=eU h hz;let jl:=(RP.mp hL).1;let ll:lst `k z<(aw XA Ls).length:=(RP.mp hb.e).1;let hφ:∀n:Nat,n<lst `k z->aW (aT `i (n:Int))=true->kq XA Ls j z (n:Int)=(Yo `i 0 n:Int):=λn hn _=>by
  unfold kq;rw[Xu `a,RL]
 let ps:kq XA Ls j z ((aX `i `D).getD (lst `k z) 0)= -1:=by
  rw[jr ll (.inl hb.dl)];unfold kq;rw[Xv rfl]
 let hk:Yo `i 0 `an=X3 Ls j:=by rw[(ux hb).1,Bj h j `a]
 have:=DV (S:=aw XA Ls) (Ld:=cC XA Ls) (XA:=XA) (φ:=kq XA Ls j z) (pe:=lst `k z) (lo:=(j:Int)) (m:=(Ls.length:Int)) h.nd (by rw[h.l];exact RM _) `a hφ z.2 false `an (w+2) (fst XA Ls j:Int) 0 0 (X3 Ls j) (-1) YZ hb.s hb.d ⟨Uk _,ll,ps,λe=>by cases e⟩ hk ps;rw[this];unfold XQ;rw[RR,hL];rfl
theorem um (h:`aK):AJ (kq XA Ls j z) (oh `i `k z):=λx hx y hy e=>by
 let⟨x1,x2,x3⟩:=wR hx;let⟨y1,y2,y3⟩:=wR hy;unfold kq at e;by_cases qx:x=((lst `k z:Nat):Int)
 ·by_cases qy:y=((lst `k z:Nat):Int)
  ·rw[qx,qy]
  ·rw[Xv qx,Xu qy] at e;cbv
 ·by_cases qy:y=((lst `k z:Nat):Int)
  ·rw[Xu qx,Xv qy] at e;cbv
  ·rw[Xu qx,Xu qy] at e;let rx:=x3.resolve_left qx;let ry:=y3.resolve_left qy;let ex:((x.toNat:Nat):Int)=x:=`a
   let ey:((y.toNat:Nat):Int)=y:=`a
   obtain q | q | q:=Nat.lt_trichotomy x.toNat y.toNat
   ·have:=GD (S:=aw XA Ls) q (by rw[ex];exact rx);cbv
   ·cbv
   ·have:=GD (S:=aw XA Ls) q (by rw[ey];exact ry);cbv
theorem yY (h:`aK)(hz:(de XA Ls)[j]?∣z)(hr:r∈cI `i `D `an (XE z.2)):r∈(bK XA Ls).rows:=by
 let⟨_,_,_,_,hL⟩:=eU h hz;rw[v8 h];refine TL.mpr ⟨j,S3.mpr (RP.mp hL).1,?_⟩;rw[RR,hL];exact hr
theorem qr (h:`aK)(hz:(de XA Ls)[j]?∣z):mS (kq XA Ls j z) (cJ `B (iT `k z))=eE Ls j/\∀x∈(cJ `B (iT `k z)).map (·.1),x∈oh `i `k z:=by
 let⟨w,hb⟩:=h9 (XA:=XA) (Ls:=Ls) hz;let⟨YZ,Zr,ok3,hn,hL⟩:=eU h hz;let jl:=(RP.mp hL).1;let⟨hr,h1⟩:=kY hb YZ Zr;let hk:Yo `i 0 `an=X3 Ls j:=by rw[(ux hb).1,Bj h j `a]
 let hrows:(bK XA Ls).rows=cI `i `D 0 `k++(cI `i `D `an (XE z.2)++cI `i `D (fst XA Ls j+(2+XE z.2)) ((aw XA Ls).length-(fst XA Ls j+(2+XE z.2)))):=by
  show gc `i `D (aX `i `D)=_;rw[yG,← tG _ _ hb,← dP];have:=dP `i `D 0 `k (2+XE z.2+((aw XA Ls).length-(fst XA Ls j+(2+XE z.2))));rw[Uu] at this;rw[← this];congr 1;let ll:fst XA Ls j+1+XE z.2<(aw XA Ls).length:=(RP.mp hb.e).1;cbv
 let b0:(bK XA Ls).St.getD ((iT `k z).2.1).toNat 0=((fst XA Ls j+1:Nat):Int):=by
  show(aX `i `D).getD (((fst XA Ls j:Nat):Int)).toNat 0=_;rw[RL,hb.first YZ Zr]
 let inr:∀r∈cI `i `D `an (XE z.2),hV (iT `k z) r=true:=λr hr=>by
  let⟨i,i1,i2,e⟩:=mh hr;unfold hV;rw[Rx,e];exact⟨Xy (show((fst XA Ls j:Nat):Int)<(i:Int) by cbv),Xy (show(i:Int)<((fst XA Ls j+1+XE z.2:Nat):Int) by cbv)⟩
 let e:cJ `B (iT `k z)=(cI `i `D `an (XE z.2)).foldl (λF r=>jg F r.1 r.2.1) [(((fst XA Ls j+1:Nat):Int),0),(((lst `k z:Nat):Int),1)]:=by
  unfold cJ;let o1:∀r∈cI `i `D 0 `k,hV (iT `k z) r=false:=λr hr=>by
   let⟨i,i1,i2,e⟩:=mh hr;unfold hV;rw[e,Xz (show¬((fst XA Ls j:Nat):Int)<(i:Int) by cbv),Bool.false_and]
  let o2:∀r∈cI `i `D (fst XA Ls j+(2+XE z.2)) ((aw XA Ls).length-(fst XA Ls j+(2+XE z.2))),hV (iT `k z) r=false:=λr hr=>by
   let⟨i,i1,i2,e⟩:=mh hr;unfold hV;rw[e,Xz (show¬(i:Int)<((fst XA Ls j+1+XE z.2:Nat):Int) by cbv),Bool.and_false]
  rw[b0,hrows,S8,S8,rf o1,yR inr,rf o2]
 let hl:((lst `k z:Nat):Int)=((fst XA Ls j+1+XE z.2:Nat):Int):=rfl;let⟨q1,q2⟩:=xn XA (um h (j:=j) (z:=z)) (rs:=cI `i `D `an (XE z.2)) (F:=[(((fst XA Ls j+1:Nat):Int),0),(((lst `k z:Nat):Int),1)]) (λx hx=>by
  let hx:x=((fst XA Ls j+1:Nat):Int)∨x=((lst `k z:Nat):Int):= ~~~hx
  obtain rfl | rfl:=hx
  ·exact jQ ⟨`a,`a,.inr hr⟩
  ·exact jQ ⟨`a,RM _,.inl rfl⟩) λr hr=>vQ h hz hb (yY h hz hr) (inr r hr)
 rw[← e] at q1 q2;refine⟨?_,q2⟩;rw[← q1,uU h hz];unfold eE;congr 1;show[(kq XA Ls j z ((fst XA Ls j+1:Nat):Int),(0:Int)),(kq XA Ls j z ((lst `k z:Nat):Int),(1:Int))]=_;let p1:kq XA Ls j z ((fst XA Ls j+1:Nat):Int)=(X3 Ls j:Int):=by unfold kq;rw[Xu `a,RL,hk]
 let p2:kq XA Ls j z ((lst `k z:Nat):Int)= -1:=by unfold kq;rw[Xv rfl]
 rw[p1,p2]
theorem mN {α β:Type}{f g:α->List β}:∀{l:`u},(∀x∈l,f x=g x)->l.flatMap f=l.flatMap g
 | [],_=>rfl
 | x::l,h=>by rw[S6,S6,h x RZ,mN λy hy=>h y (RX _ hy)]
theorem zJ (h:`aK):Yn `B=XO Ls:=by
 let pl:=zZ h;refine UO ?_ ?_
 ·show(eO `B).map (λF=>(F.length:Int))=(Sd Ls.length).map λj=>((eE Ls j).length:Int);refine SV λj=>?_;obtain hj | hj:=Ut j Ls.length
  ·let⟨z,hz,ez⟩:=vK h hj;rw[R6,kW h hz,R6,SU hj];show some ((cJ `B (iT `k z)).length:Int)∣((eE Ls j).length:Int);rw[← (qr h hz).1];unfold mS;rw[RS]
  ·rw[Sr (by rw[RS,pl];exact hj),Sr (by rw[RS,SN];exact hj)]
 ·show(bK XA Ls).rows.map (fK `B)=(Sd Ls.length).flatMap λj=>(XQ Ls j).map (dZ j `aS);rw[v8 h,map_flatMap];refine mN λj hj=>?_;let⟨z,hz,ez⟩:=vK h (S3.mp hj);let⟨w,hb⟩:=h9 (XA:=XA) (Ls:=Ls) hz;let⟨pp,pk⟩:=qr h hz;rw[← ez,← uU h hz,S0];refine Tj λr hr=>?_;let⟨i,i1,i2,e⟩:=mh hr;let ep:cV `B r.1=(j:Int):=by rw[e];exact pB h hz `a (by show i<=fst XA Ls j+1+XE z.2;cbv)
  let eF:(eO `B).getD (cV `B r.1).toNat []=cJ `B (iT `k z):=by
   rw[ep,RL,RR,kW h hz];rfl
  let hi:hV (iT `k z) r=true:=by
   unfold hV;rw[Rx,e];exact⟨Xy (show((fst XA Ls j:Nat):Int)<(i:Int) by cbv),Xy (show(i:Int)<((fst XA Ls j+1+XE z.2:Nat):Int) by cbv)⟩
  let⟨k1,k2⟩:=vQ h hz hb (yY h hz hr) hi;show fK `B r=dZ j `aS (vY XA (kq XA Ls j z) r);unfold fK dZ vY;dsimp only;let hpn:(bK XA Ls).parts.map (·.1)=XA:=vI h;rw[eF,ep,hpn,← pp,pG (um h) k1 pk,pG (um h) k2 pk]
end K1
namespace Fc
open PySem PySem.Spec PySem.W PySem.Calls L2
open PyProof.Rows hiding St
open PySem PySem.Spec L2 K1
variable {e:Expr}{ps:List PT}{q0:PT}
section
variable {X:Cx}{Z Γ1:Ga}{α:Type}{N:Ga->Prop}{T:RT}
theorem FL (i:Nat){x:Str}{p1 pos:Pos}{F:Rt}{k:Int}(hu:X.A.units+1<cLine)(he:EV X e Z ag k Z)(hΓ:Z[i]?∣(.di (cG F)))(hN:`o)(hm:Vn .NotIn `h=false:=by first | exact tI _ | with_unfolding_all rfl):TV X (.Compare e [.NotIn] [.Name x p1] pos) Z (!(bb F k).isSome) Z:=by
 intro σ H0 R0 H R E Q q;refine tS (mP (l7 hu aO (aV hN)) hm) `K;cases e1
 let⟨a,ea,ha,hR⟩:=E1.ent i _ hΓ;refine⟨.ref a,at_of ea,a,_,rfl,iG.k (k:=Sum.inl k) ha,_,rfl,?_⟩;rw[mU,Jd];exact q H1 R1 E1 s1
theorem EV.Qg (h:EV X e Z nS () Γ1):EV X e Z au .XT Γ1:=h.re λK R v e=>by cases e;exact .XT
mutual
theorem cX.nodes {H:Hp}:∀{v:V}{x:PV}{fp:Ro},cX H v x fp->∀a∈fp,∃vs,H a∣.lst vs
 | _,_,_,.str x,_,h=>by cases h
 | _,_,_,.int n,_,h=>by cases h
 | _,_,_,.lst q t z,a,h=>by
   obtain rfl | h:=R9.mp h
   ·exact⟨_,q⟩
   ·exact t.nodes a h
theorem bz.nodes {H:Hp}:∀{vs:`R}{xs:List PV}{fp:Ro},bz H vs xs fp->∀a∈fp,∃vs,H a∣.lst vs
 | _,_,_,.nil,_,h=>by cases h
 | _,_,_,.cons q t,a,h=>(Se.mp h).elim (q.nodes a) (t.nodes a)
end
theorem yh {R R':Hp}(h:∀t us,R t∣.tup us->R' t∣.tup us){K:W7}:∀{vs:`R}{ws:List jh},PySem.Paired (au.R K R) vs (ws.map fZ)->PySem.Paired (au.R K R') vs (ws.map fZ)
 | _,[],.nil=>.nil
 | _,w::_,.cons q t=>.cons (by
  let⟨a,rfl,e⟩:=B4 (K:=K) (w:=w) q;exact .tup (h _ _ e) (.cons (.str _) (.cons (.str _) (.cons (.int _) (.cons (.int _) (.cons (.int _) .nil)))))) (yh h t)
theorem Ov (i j l:Nat){x y z:Str}{m n n':Nat}{e1 e2:Expr}{p p0 p1 cp pos:Pos}{a c:Addr}{ts:`Z}{k:Int}{bh lp:PV}{rws:List jh}(C:aE X.prog X.w X.K X.mg X.base x m (nJ n X.K))(hr:bG m X.A)(hil:i≠l)(h1:EV X e1 Z au bh Z)(h2:EV X e2 Z au lp Z)(hΓ:`X)(hj:Z[j]?∣.im dE q0.2.1)(hq:ps[n']?∣q0)(hts:q0.1=gv ts k)(hl:Z[l]?∣(.ob (aP c au [])))(hd:dG ts<=n)(hz:bW ts<=1000)(hrw:K1.ft ts k bh lp=rws.map fZ)(h:N (Z.set l (.ob (aP c au (rws.map fZ)))))(hg:Gl X x:=by rfl)(Yd:Yz x:=by decide)(s0:U5 [.Name y p0,e1,e2,.Name z p1] X.env=(false,eval (.Name y p0) X.env)::U5 [e1,e2,.Name z p1] X.env:=by rfl)(s1:U5 [e1,e2,.Name z p1] X.env=(false,eval e1 X.env)::U5 [e2,.Name z p1] X.env:=by rfl)(s2:U5 [e2,.Name z p1] X.env=(false,eval e2 X.env)::U5 [.Name z p1] X.env:=by rfl)(s3:dh X (.Name z p1) []:=by rfl)(X1:fo X cp [e1,e2,.Name z p1]:=by rfl)(hNj:autoParam (At X j y) bZ)(hNl:autoParam (At X l z) bZ)(Yc:U7 (.Call `ao [.Name y p0,e1,e2,.Name z p1] [] cp) none pos.line X.env=pure false:=by rfl):W1 X (.Expr (.Call `ao [.Name y p0,e1,e2,.Name z p1] [] cp) pos) Z N T:=λσ H0 R0 H R E D dn dr=>by
 let⟨f,fd,pn,F,hm,hk,hb⟩:=C.ex;let⟨v0,e0,Y7⟩:=E.ent j _ hj;cases Y7
 refine sS (dO (iU F hr hg hm hk hb .nil kH (aI (aV hNj) (aI aO (aI aO (aI (aV hNl) bq s3) s2) s1) s0) Yd s0 X1) Yc) ⟨.ref q0.2.1,at_of e0,?_⟩;refine h1 σ H0 R0 H R E _ λv1 H2 R2 E2 q2 g1=>h2 σ H0 R0 H2 R2 E2 _ λv2 H3 R3 E3 q3 g2=>?_;let⟨⟨v,ea,rfl,kk⟩,hR⟩:=E3.ent i _ hΓ;let⟨ec,⟨ws,hc,pc⟩,hRc⟩:=dg (E3.ent l _ hl);cases pc
 let⟨t,nd,_⟩:=kk.pt n' q0 hq;rw[hts] at t;let inB:∀d∈cR q0,d∈(bB a ps).fp:=λd hd=>RX _ (bQ.mpr ⟨n',q0,hq,hd⟩);let nR:∀d∈cR q0,R3 d=none:=λd hd=>hR d (inB d hd);let nc:∀d∈cR q0,d≠c:=λd hd z=>hil (E3.ds i l _ _ d hΓ hl (inB d hd) (by rw[z];exact RU.mpr rfl));let s34:av R3 (λd=>if d∈cR q0 then H3 d else R3 d):=λd o e=>by
  show(if d∈cR q0 then H3 d else R3 d)∣o;rw[Xu λw=>by rw[nR d w] at e;cases e];exact e
 refine⟨.ref c,at_of ec,?_⟩;show nJ n X.K [.ref q0.2.1,v1,v2,.ref c] H3 (λ_ H1=>D.nx σ H1) E0;let t4:cX (λd=>if d∈cR q0 then H3 d else R3 d) (.ref q0.2.1) (.lst (gv ts k)) (cR q0):=t.loc λd hd=>Xv hd;refine⟨λd=>if d∈cR q0 then H3 d else R3 d,c,[],[],.ref q0.2.1,v1,v2,ts,k,bh,lp,rfl,λd o e=>?_,?_,hc,.nil,?_,au.mono (K:=X.K) (q3.trans s34) g1,au.mono (K:=X.K) s34 g2,hd,by show 0+bW ts<=1000;cbv,λH' R' YH xx w1 w2 pq=>?_⟩
 ·by_cases w:d∈cR q0
  ·let e:(if d∈cR q0 then H3 d else R3 d)∣o:=e;rwa [Xv w] at e
  ·let e:(if d∈cR q0 then H3 d else R3 d)∣o:=e;rw[Xu w] at e;exact E3.sub _ _ e
 ·show(if c∈cR q0 then H3 c else R3 c)=none;rw[Xu λw=>nc c w rfl];exact hRc
 ·cases t4 with
  | @lst _ vs _ _ hb tt zz=>exact⟨_,vs,rfl,hb,tt.tJ.pair,zz⟩
 ·rw[SX,hrw] at pq;let hD:∀d∈cR q0,H' d=H3 d:=λd w=>by
   let⟨vs,e⟩:=t.nodes d w;rw[e];exact xx.h d _ (by unfold del;rw[Xu (nc d w)];exact e)
  let x5:Ext (del H3 c) R3 H' (λd=>if d∈cR q0 then none else R' d):=⟨xx.h,λd o e=>?_,λd o e=>?_,λd e=>?_⟩
  ·let E4:ar X.K σ H0 R0 H' (λd=>if d∈cR q0 then none else R' d) (Z.set l (.ob (aP c au (rws.map fZ)))):=E3.A6 hl (B:=aP c au []) (by
    have:gf H3 (aP c au ([]:List PV)).fp=del H3 c:=by funext b;show(if b∈[c] then none else H3 b)=_;unfold del;simp only[RU]
    rw[this];exact x5) (by rw[ec];exact⟨⟨_,rfl,rfl,YH,w1,yh (λu us e=>by
     show(if u∈cR q0 then none else R' u)=_;rw[Xu λw=>by
      let⟨vs,e'⟩:=t.nodes u w;rw[← hD u w,xx.s _ _ e] at e';cases e']
     exact e) pq⟩,λb hb=>by
      rw[RU.mp hb];show(if c∈cR q0 then none else R' c)=none;rw[Xu λw=>nc c w rfl];exact w2⟩) λb hb=>hb
   exact dn σ H' _ _ E4 (q2.trans (q3.trans x5.r)) h
  ·show(if d∈cR q0 then none else R' d)∣o;rw[Xu λw=>by rw[nR d w] at e;cases e]
   exact xx.r _ _ (s34 _ _ e)
  ·let e:(if d∈cR q0 then none else R' d)∣o:=e;by_cases w:d∈cR q0
   ·rw[Xv w] at e;cases e
   ·rw[Xu w] at e;exact xx.s _ _ e
  ·show(if d∈cR q0 then none else R' d)=R3 d;by_cases w:d∈cR q0
   ·rw[Xv w,nR d w]
   ·rw[Xu w,xx.old d e];show(if d∈cR q0 then H3 d else R3 d)=R3 d;rw[Xu w]
theorem LD {i j:Nat}{a:Addr}{n:Nat}(hΓ:`X)(hj:Z[j]?∣.im dE q0.2.1)(hq:ps[n]?∣q0)(σ:St)(H0 R0 H R:Hp)(E:`aF):ar X.K σ H H H H ((Z.map lX).set j (.im (ae au) q0.1)):=by
 let⟨⟨v,ea,rfl,k⟩,_⟩:=E.ent i _ hΓ;let⟨v0,e0,Y7⟩:=E.ent j _ hj;cases Y7
 cases (k.pt n _ hq).1 with
 | @lst _ vs _ _ hb tt zz=>
 exact E.Yu.kB (i:=j) (e0:=.im dE q0.2.1) (by rw[R6,hj];rfl) ⟨_,e0,_,vs,rfl,hb,tt.tJ.pair,zz⟩ λb w=>by cases w
def QE:oq:=⟨[],λ_ _ _ _=>True,λ_ _ h=>h,λ_ b hb=>by cases hb⟩
end
end Fc
namespace K1
open PySem L2 Fc
open PySem.Spec hiding Row
open PyProof.Rows hiding St
open PySem.Builtin.Int (intBits)
variable {P:U4}{w:World}{K:W7}{mg:Rj}{base:Heap}{f:Addr}{fd:U8}
mutual
theorem Cg:∀(t:Th)(k:Int),(bC t k).2=k+eR t
 | .X6 x,k=>by rw[bC,eR];rfl
 | .call j,k=>by rw[bC,eR];rfl
 | .leave,k=>by rw[bC,eR];show k=_;cbv
 | .back,k=>by rw[bC,eR];show k=_;cbv
 | .XR x A,k=>by rw[bC,eR];show(aR A (k+1)).2=_;rw[nC A];cbv
 | .ifs x A B,k=>by rw[bC,eR];show(aR B (aR A (k+1)).2).2=_;rw[nC B,nC A];cbv
theorem nC:∀(ts:`Z)(k:Int),(aR ts k).2=k+fI ts
 | [],k=>by rw[aR,fI];show k=_;cbv
 | t::ts,k=>by rw[aR,fI];show(aR ts (bC t k).2).2=_;rw[nC ts,Cg t];cbv
end
theorem sA {k bh lp:Int}:∀ts:List Th,uI ts k bh lp=mI ts k bh lp
 | []=>rfl
 | .leave::_=>rfl
 | .back::_=>rfl
 | .X6 _::_=>rfl
 | .call _::_=>rfl
 | .ifs _ _ _::_=>rfl
 | .XR _ _::_=>rfl
mutual
theorem HF:∀(t:Th)(k af lp:Int),gj t k af lp=cF t k af lp
 | .X6 x,k,af,lp=>by rw[gj,cF]
 | .call j,k,af,lp=>by rw[gj,cF]
 | .leave,k,af,lp=>by rw[gj,cF]
 | .back,k,af,lp=>by rw[gj,cF]
 | .XR x A,k,af,lp=>by rw[gj,cF,mQ A,sA]
 | .ifs x A B,k,af,lp=>by rw[gj,cF,mQ A,mQ B,sA,sA,nC]
theorem mQ:∀(ts:`Z)(k bh lp:Int),jP ts k bh lp=cQ ts k bh lp
 | [],k,bh,lp=>by rw[jP,cQ]
 | t::ts,k,bh,lp=>by rw[jP,cQ,HF t,mQ ts,sA,Cg]
end
theorem yk {lo m:Int}{L:`Z}{k:Int}(h:bJ lo m false L):ft L k (.int (-1)) .XT=(cQ L k (-1) 0).map fZ:=by
 rw[← mQ];exact ou L 0 k (-1) h
abbrev eJ:Rep (List jh×Rt):=cz (ae qp) jz
def mH (Ls:`H)(j:Nat):List jh×Rt:=(XQ Ls j,eE Ls j)
noncomputable def dk (Ls:`H):List (List jh×Rt):=(Sd Ls.length).map (mH Ls)
noncomputable def Ap (K:W7):Sp:=λvs H Q _=>∃(R:Hp)(a:Addr)(ps:List PT)(XA:Rm)(Ls:`H),vs=[.ref a]/\av R H/\lJ H a ps/\(∀d∈a::eM ps,R d=none)/\ps.map (·.1)=Ls.map bF/\cj XA Ls/\
 ∀v H' R',Ext (gf H (a::eM ps)) R H' R'->(ae eJ).R K R' v (dk Ls)->Q v H'
end K1
namespace Fc
open PySem PySem.Spec PySem.W PySem.Calls L2
open PyProof.Rows hiding St
open PySem PySem.Spec L2 K1
section
variable {X:Cx}{Z Γ1:Ga}{N:Ga->Prop}{T:RT}
theorem Nz (i:Nat){x y:Str}{m:Nat}{p p1 pos:Pos}{a:Addr}{ps:List PT}{XA:Rm}{Ls:`H}(C:aE X.prog X.w X.K X.mg X.base x m (Ap X.K))(hr:bG m X.A)(hΓ:`X)(YA:ps.map (·.1)=Ls.map bF)(hP:`aK)(hg:Gl X x:=by rfl)(Yd:Yz x:=by decide)(he:dh X (.Name y p1) []:=by rfl)(X1:fo X pos []:=by rfl)(hN:autoParam (At X i y) bZ):
 EV X (.Call `ao [.Name y p1] [] pos) Z (ae eJ) (dk Ls) (Z.set i .no):=λσ H0 R0 H R E Q q=>by
 let⟨f,fd,pn,F,hm,hk,hb⟩:=C.ex;let⟨⟨v,ea,rfl,kk⟩,hR⟩:=E.ent i _ hΓ;refine eS (iU F hr hg hm hk hb .nil kH (aI (aV hN) bq he) Yd he X1) ⟨.ref a,at_of ea,?_⟩;show Ap X.K [.ref a] H Q E0;refine⟨R,a,ps,XA,Ls,rfl,E.sub,kk,hR,YA,hP,λv H' R' xx r=>?_⟩;let E1:ar X.K σ H0 R0 H' R' (Z.set i (.ob QE)):=E.A6 hΓ (B:=bB a ps) xx (by rw[ea];exact⟨⟨_,rfl,trivial⟩,λb hb=>by cases hb⟩) λc hc=>by cases hc
 let hl:i<Z.length:=(RP.mp hΓ).1;let E2:=E1.tell (i:=i) (en:=.no) (R8 hl) trivial λb w=>by cases w
 rw[Tb] at E2;exact q v H' R' E2 xx.r r
end
end Fc
namespace K1
open PySem L2 Fc
open PySem.Spec hiding Row
open PyProof.Rows hiding St
open PySem.Builtin.Int (intBits)
variable {P:U4}{w:World}{K:W7}{mg:Rj}{base:Heap}{f:Addr}{fd:U8}
variable {L:`Z}{Ls:`H}{i:Nat}
theorem LU {R H:Hp}{a:Addr}{ps:List PT}{N:Rm}(hN:N.length=12)(s:av R H)(kk:lJ H a ps)(hR:∀d∈a::eM ps,R d=none):
 ar K (L2.start N [.ref a]) (gf H (a::eM ps)) R H R [.ob (bB a ps),.no,.no,.no,.no,.no,.no,.no,.no,.no,.no,.no]:=by
 let es:L2.start N [.ref a]=some (.ref a)::SW 11 none:=by unfold L2.start;rw[hN];rfl
 rw[es];let at_:∀(i:Nat)(e:Ent),(Ent.ob (bB a ps)::SW 11 Ent.no:Ga)[i]?∣e->(i=0/\e= .ob (bB a ps))∨e= .no:=λi e q=>by
  cases i with
  | zero=>exact .inl ⟨rfl,by simpa using q.symm⟩
  | succ i=>
    right;have:e∈SW 11 Ent.no:=R7 (~~~q);exact List.eq_of_mem_replicate this
 show ar K _ _ R H R (Ent.ob (bB a ps)::SW 11 Ent.no);refine⟨⟨rM,av.refl _,s,λ_ _=>rfl⟩,λi e q=>?_,λi e d q w=>?_,λi j e e' d q q' w w'=>?_,rfl⟩
 ·obtain⟨rfl,rfl⟩ | rfl:=at_ i e q
  ·exact⟨⟨_,rfl,rfl,kk⟩,hR⟩
  ·trivial
 ·obtain⟨rfl,rfl⟩ | rfl:=at_ i e q
  ·exact kM w
  ·cases w
 ·obtain⟨rfl,rfl⟩ | rfl:=at_ i e q
  ·obtain⟨rfl,rfl⟩ | rfl:=at_ j e' q'
   ·rfl
   ·cases w'
  ·cases w
noncomputable def zQ (Ls:`H)(i:Nat):List (List PV):=((Sd i).map λj=>gv (Ls.getD j []) (X3 Ls j:Int))++(Ls.drop i).map bF
theorem Lf (h:Ls[i]?∣L):(zQ Ls i)[i]?∣bF L/\zQ Ls (i+1)=(zQ Ls i).set i (gv L (X3 Ls i:Int)):=by
 let hl:=(RP.mp h).1;let e1:((Sd i).map λj=>gv (Ls.getD j []) (X3 Ls j:Int)).length=i:=by rw[RS,SN]
 let hd:Ls.drop i=L::Ls.drop (i+1):=by
  let⟨h1,h2⟩:=RP.mp h;rw[S7 h1,h2]
 let hg:Ls.getD i []=L:=by rw[RR,h];rfl
 unfold zQ;refine⟨?_,?_⟩
 ·rw[Su `a,e1,UE,hd];rfl
 ·rw[List.set_append_right _ _ `a,e1,UE,hd,Tf,Sf,Sj];show _++(gv (Ls.getD i []) (X3 Ls i:Int)::_)=_;rw[hg];rfl
theorem xW (F:Rt)(k:Int):(cT F k).length<=F.length+1:=by
 unfold cT;split
 ·cbv
 ·rw[RY];exact Uk _
theorem zW {F:Rt}{k:Int}:cT F k=if(bb F k).isSome then F else jM F k (F.length:Int):=by
 unfold cT jM;cases (bb F k).isSome<;>rfl
theorem Ik (rs:List mK):∀(F:Rt),(rs.foldl `ae F).length<=F.length+2*rs.length:=by
 induction rs with
 | nil=>intro F;exact Uk _
 | cons r rs ih=>
   intro F;rw[SY,Sb];let h1:_<=(cT (cT F r.2.2.1) r.2.2.2.1).length+2*rs.length:=ih (jg F r.2.2.1 r.2.2.2.1);let h2:=xW (cT F r.2.2.1) r.2.2.2.1;let h3:=xW F r.2.2.1;cbv
theorem Dj {lo m:Int}(h:bJ lo m false L)(k:Int):(cQ L k (-1) 0).length=bW L:=by
 have:=congrArg List.length (yk (k:=k) h);rw[iE,RS] at this;exact this.symm
theorem KQ {k:Int}{bh lp:PV}{lo m:Int}(h:iI L)(ho:bJ lo m false L):lu L k bh lp= .int k:=by
 let⟨t,ts,rfl,hb⟩:=h;cases t with
 | leave=>simp only[bJ,bX] at ho;cases ho.1
 | back=>cases hb
 | X6 _=>rfl
 | call _=>rfl
 | ifs _ _ _=>rfl
 | XR _ _=>rfl
abbrev BK:Stmt:=top uh
abbrev JO:Rm:=["_law_lists","_law_keys","_law_mapped_here","_law_items","_law_rows_here","_law_known","_law_key","_law_word","_law_name_here","_law_one","_law_other","_law_calls"]
abbrev JS:Rm:=["_law_lists"]
theorem Ml:bE JO JS (ao BK):=YV
theorem MV (M:cb K mg)(CN:aE P w K mg base "_law_numbered" 5 (mv 4))(CE:aE P w K mg base "_law_entry" 1 (aQ Ds K))(CR:aE P w K mg base "_law_rows" 6 (nJ 4 K))(F:dI K "_law_mapped" "_law_mapped" BK f fd)(hm:mg "_law_mapped"∣.ref f)(hb:Binds K fd JS []):aE P w K mg base "_law_mapped" 7 (Ap K):=by
 let nd:=Ml.nd;let CN:=CN.mono (show 5<=6 by decide);let CE:=CE.mono (show 1<=6 by decide);refine⟨f,fd,JS,?_,hm,F.kp,hb⟩;refine F.ok (k:=6) Ml (λvs H Q E h=>?_) `af
 ·let⟨R,a,ps,XA,Ls,rfl,_⟩:=h;rfl
 ·let⟨R,a,ps,XA,Ls,rfl,sR,kk,hR,YA,hP,q⟩:=h;let hu:=ru hr;let l4:=hP.l4;let lps:ps.length=Ls.length:=by have:=congrArg List.length YA;rwa [RS,RS] at this
  let body:WS (eK eo P w K mg base JO "_law_mapped" (ao BK) f XH A outer s H E).gF (bD BK) [.ob (bB a ps),.no,.no,.no,.no,.no,.no,.no,.no,.no,.no,.no] (λ_=>False) (cP K (ae eJ) (· =dk Ls)):=by
   refine ai (cD 1 (r:=ag) (ys:=[0]) (aN (ak ev_int aK) (by show 1<=UZ;decide)) ?_);refine ai (cD 2 (r:=eJ) (ys:=[]) `aq ?_);refine WS.box 1 rfl λc=>?_;refine bA (N1:=λZ=>∃e0 e1 e3 e4 e5 e6 e7 e8 e9 YG Y2,Z=[e0,e1,.mu eJ (dk Ls),e3,e4,e5,e6,e7,e8,e9,YG,Y2]) (zM 0 (a:=a) (ps:=ps) (λi Z=>∃qs e3 e4 e5 e6 e7 e8 e9 YG Y2,Z=[.ob (bB a qs),.ob (aP c ag [(X3 Ls i:Int)]),.mu eJ ((Sd i).map (mH Ls)),e3,e4,e5,e6,e7,e8,e9,YG,Y2]/\qs.map (·.2)=ps.map (·.2)/\qs.map (·.1)=zQ Ls i) rfl (aY 3) ⟨ps,_,_,_,_,_,_,_,_,_,rfl,rfl,YA⟩ (λk Z ⟨qs,e3,e4,e5,e6,e7,e8,e9,YG,Y2,e,h1,_⟩=>⟨qs,by rw[e];rfl,h1⟩) (λi p Z hp hΓ=>?_) `W) ?_
   ·let⟨qs,e3,e4,e5,e6,e7,e8,e9,YG,Y2,rfl,h1,h2⟩:=hΓ;let il:i<Ls.length:=by have:=(RP.mp hp).1;rwa [lps] at this
    obtain⟨L,hL⟩:∃L,Ls[i]?∣L:=⟨_,RQ il⟩;let hg:Ls.getD i []=L:=by rw[RR,hL];rfl
    let⟨n1,n2⟩:=Lf hL;let ql:qs.length=ps.length:=by have:=congrArg List.length h1;rwa [RS,RS] at this
    obtain⟨q0,hq⟩:∃q,qs[i]?∣q:=⟨_,RQ `a⟩;let er:q0.2=p.2:=by
     have:=congrArg (·[i]?) h1;simp only[R6,hq,hp,UM] at this;exact Option.some.inj this
    let ey:q0.1=bF L:=by
     have:=congrArg (·[i]?) h2;simp only[R6,hq,n1,UM] at this;exact Option.some.inj this
    let hq2:(qs.set i `al)[i]?∣`al:=R8 (RP.mp hq).1;let h1':(qs.set i `al).map (·.2)=ps.map (·.2):=by
     rw[List.map_set,mi (by rw[R6,hq];rfl),h1]
    let h3:(qs.set i `al).map (·.1)=zQ Ls (i+1):=by rw[List.map_set,h2,n2]
    let hm:=R7 hL;let ho:=hP.ok i L hL;let hh:=hP.hd L hm;let h14:=hP.rw L hm;let rl:=Dj ho (X3 Ls i:Int);change WS _ _ [.ob (bB a qs),.ob (aP c ag [(X3 Ls i:Int)]),.mu eJ ((Sd i).map (mH Ls)),.im dE p.2.1,e4,e5,e6,e7,e8,e9,YG,Y2] _ _;rw[← er];refine ai (QS 0 3 1 CN hr `c rfl rfl rfl hq ey (hP.dp L hm) ?_);refine ai (cD 4 (r:=au) (ys:=[]) `aq ?_);refine WS.box 4 rfl λd=>?_;change WS _ _ [.ob (bB a (qs.set i `al)),.ob (aP c ag [(aR L (X3 Ls i:Int)).2]),.mu eJ ((Sd i).map (mH Ls)),.im dE q0.2.1,.ob (aP d au []),e5,e6,e7,e8,e9,YG,Y2] _ _;generalize qs.set i `al=us at hq2 h1' h3 ⊢;refine ai (Ov 0 3 4 (q0:=`al) (ts:=L) (k:=(X3 Ls i:Int)) (bh:=.int (-1)) (lp:=.XT) CR hr `c (EV.pI `ag) (EV.Qg Dt) rfl rfl hq2 rfl rfl (hP.dp L hm) `a (yk ho) ?_);refine WS.unb 4 rfl ?_;refine WS.freeze 4 rfl (aM (by rw[RS];cbv)) ?_;refine ai (pV 5 ?_);let kn:(aR L (X3 Ls i:Int)).2=(X3 Ls (i+1):Int):=by
     rw[nC];unfold X3;rw[SG,hL,Sf,Ui];show _=(((List.map fI (Ls.take i)).sum + [fI L].sum:Nat):Int);rw[show[fI L].sum=fI L by simp];push_cast;rfl
    rw[kn];let hen:lu L (X3 Ls i:Int) (.int (-1)) .XT= .int (X3 Ls i:Int):=KQ hh ho;let rws:cQ L (X3 Ls i:Int) (-1) 0=XQ Ls i:=by unfold XQ;rw[hg]
    let knf:(XQ Ls i).foldl `ae [((X3 Ls i:Int),0),(-1,1)]=eE Ls i:=rfl;rw[rws] at rl ⊢;let nx:(Sd (i+1)).map (mH Ls)=(Sd i).map (mH Ls)++[(XQ Ls i,eE Ls i)]:=by rw[Tf,Sf];rfl
    rw[nx];let ml:((Sd i).map (mH Ls)).length<=4:=by rw[RS,SN];cbv
    generalize (Sd i).map (mH Ls)=ms at ml;let k0:(0:Int)<=(X3 Ls i:Int):=Int.natCast_nonneg _;change WS _ _ [.ob (bB a us),.ob (aP c ag [(X3 Ls (i+1):Int)]),.mu eJ ms,.im dE q0.2.1,.im (ae au) ((XQ Ls i).map fZ),.di (cG []),e6,e7,e8,e9,YG,Y2] _ _;refine bA (N1:=λZ=>∃e6,Z=[.ob (bB a us),.ob (aP c ag [(X3 Ls (i+1):Int)]),.mu eJ ms,.im dE q0.2.1,.im (ae au) ((XQ Ls i).map fZ),.di (cG [((X3 Ls i:Int),0),(-1,1)]),e6,e7,e8,e9,YG,Y2]) (bN (r:=ag) (xs:=[(X3 Ls i:Int), -1]) (λk Z=>∃e6,Z=[.ob (bB a us),.ob (aP c ag [(X3 Ls (i+1):Int)]),.mu eJ ms,.im dE q0.2.1,.im (ae au) ((XQ Ls i).map fZ),.di (cG (([((X3 Ls i:Int),(0:Int)),(-1,1)]:Rt).take k)),e6,e7,e8,e9,YG,Y2]) (bI (aZ.im (aN (ak (EV.Yu (r:=ag) (LD (i:=0) (j:=3) (q0:=`al) rfl rfl hq2) (λ_ _ _ _ _ h=>h) (EV.iP (n:=(X3 Ls i:Int)) (EV.cast (aJ CE hr (ah `p (ah ev_int (ah (EV.pI `ag) (ah (EV.Qg Dt) ax)))) ⟨L,(X3 Ls i:Int),0,.int (-1),.XT,rfl,Ul _,rfl⟩) (by rw[drop_zero,Tr,aR];exact hen)))) (ak `ag aK)) (by show 2<=UZ;decide)))) (aY 6) ⟨_,rfl⟩ (λk x Z hx hΓ=>?_) (λZ hΓ=>hΓ)) ?_
    ·let⟨e6,rfl⟩:=hΓ
     match k,hx with
     | 0,hx=>
       let hx:x=(X3 Ls i:Int):= ~~~hx.symm
       subst hx;exact aj (rR 5 hu `aw (nO 5 M.len rfl) rfl (show 0<UZ by decide) ⟨_,rfl⟩)
     | 1,hx=>
       let hx:x= -1:= ~~~hx.symm
       subst hx;let e:jM [((X3 Ls i:Int),(0:Int))] (-1) 1=[((X3 Ls i:Int),0),(-1,1)]:=by
        unfold jM bb;rw[TC `d];rfl
       refine aj (rR 5 (F:=[((X3 Ls i:Int),(0:Int))]) hu `aw (nO 5 M.len rfl) rfl (show 1<UZ by decide) ⟨aA (-1),?_⟩);show _=[Ent.ob (bB a us),.ob (aP c ag [(X3 Ls (i+1):Int)]),.mu eJ ms,.im dE q0.2.1,.im (ae au) ((XQ Ls i).map fZ),.di (cG [((X3 Ls i:Int),0),(-1,1)]),aA (-1),e7,e8,e9,YG,Y2];rw[← e];rfl
     | k+2,hx=>simp at hx
    rintro _ ⟨e6,rfl⟩;refine bA (N1:=λZ=>∃e6 e7 e8 e9 YG Y2,Z=[.ob (bB a us),.ob (aP c ag [(X3 Ls (i+1):Int)]),.mu eJ ms,.im dE q0.2.1,.im (ae au) ((XQ Ls i).map fZ),.di (cG (eE Ls i)),e6,e7,e8,e9,YG,Y2]) (bN (r:=qp) (xs:=XQ Ls i) (λk Z=>∃e6 e7 e8 e9 YG Y2,Z=[.ob (bB a us),.ob (aP c ag [(X3 Ls (i+1):Int)]),.mu eJ ms,.im dE q0.2.1,.im (ae au) ((XQ Ls i).map fZ),.di (cG (((XQ Ls i).take k).foldl `ae [((X3 Ls i:Int),0),(-1,1)])),e6,e7,e8,e9,YG,Y2]) (bI (EV.Pe `T)) (GW 7 8 9 10 11) ⟨_,_,_,_,_,_,rfl⟩ (λk r Z YK hΓ=>?_) `W) ?_
    ·let⟨e6,e7,e8,e9,YG,Y2,rfl⟩:=hΓ;let kl:=(RP.mp YK).1;let nx:((XQ Ls i).take (k+1)).foldl `ae [((X3 Ls i:Int),0),(-1,1)]=jg (((XQ Ls i).take k).foldl `ae [((X3 Ls i:Int),0),(-1,1)]) r.2.2.1 r.2.2.2.1:=by
      rw[SG,YK,S8];rfl
     rw[nx];let Fl:=Ik ((XQ Ls i).take k) [((X3 Ls i:Int),0),(-1,1)];rw[Sm] at Fl;let Fl:(((XQ Ls i).take k).foldl `ae [((X3 Ls i:Int),0),(-1,1)]).length<=40:=by
      refine Um Fl ?_;show 2+2*min k (XQ Ls i).length<=40;cbv
     generalize ((XQ Ls i).take k).foldl `ae [((X3 Ls i:Int),0),(-1,1)]=F0 at Fl;let⟨wd,nm,o1,o2,cl⟩:=r;refine aj (bN (r:=ag) (xs:=[o1,o2]) (λk Z=>∃e6,Z=[.ob (bB a us),.ob (aP c ag [(X3 Ls (i+1):Int)]),.mu eJ ms,.im dE q0.2.1,.im (ae au) ((XQ Ls i).map fZ),.di (cG ((([o1,o2]:Rl).take k).foldl cT F0)),e6,.im aq wd,.im aq nm,aA o1,aA o2,aA cl]) (bI (aZ.im (aN (ak (aa 9 rfl) (ak (aa 10 rfl) aK)) (by show 2<=UZ;decide)))) (aY 6) ⟨_,rfl⟩ (λk x Z hx hΓ=>?_) `W)
     ·let⟨e6,rfl⟩:=hΓ;let kl:k<2:=(RP.mp hx).1;let nx:(([o1,o2]:Rl).take (k+1)).foldl cT F0=cT ((([o1,o2]:Rl).take k).foldl cT F0) x:=by
       rw[SG,hx,S8];rfl
      rw[nx];let F1l:((([o1,o2]:Rl).take k).foldl cT F0).length<=42:=by
       match k,kl with
       | 0,_=>show F0.length<=42;cbv
       | 1,_=>show(cT F0 o1).length<=42;have:=xW F0 o1;cbv
      generalize (([o1,o2]:Rl).take k).foldl cT F0=F1 at F1l;refine aj (a9 (FL 5 hu `aw rfl) (λh=>?_) `J)
      ·let h:(bb F1 x).isSome=false:= ~~~h
       refine aj (rR 5 hu `aw (nO 5 M.len rfl) rfl (Uo F1l `c) ⟨aA x,?_⟩);rw[zW,h];rfl
      ·let h:(bb F1 x).isSome=true:= ~~~h
       refine⟨aA x,?_⟩;rw[zW,h];rfl
     ·let⟨e6,rfl⟩:=hΓ;exact⟨_,_,_,_,_,_,rfl⟩
    ·let⟨e6,e7,e8,e9,YG,Y2,rfl⟩:=hΓ;rw[SK];exact⟨_,_,_,_,_,_,rfl⟩
    rintro _ ⟨e6,e7,e8,e9,YG,Y2,rfl⟩;refine WS.Nv 5 rfl ?_;refine aj (ee 2 (r:=eJ) (y:=(XQ Ls i,eE Ls i)) (gX (ah (EV.Pe `T) (ah `aa ax))) rfl rfl (Uo ml `c) ⟨us,_,_,_,_,_,_,_,_,_,rfl,h1',h3⟩)
   ·let⟨qs,e3,e4,e5,e6,e7,e8,e9,YG,Y2,rfl,h1,h2⟩:=hΓ;rw[lps];exact⟨_,_,_,_,_,_,_,_,_,_,_,rfl⟩
   rintro _ ⟨e0,e1,e3,e4,e5,e6,e7,e8,e9,YG,Y2,rfl⟩;refine WS.freeze 2 rfl (aM (by unfold dk;rw[RS,SN];cbv)) ?_;exact aj (aU `r rfl)
  exact⟨_,iM,body (L2.start JO [.ref a]) (gf H (a::eM ps)) R H R (LU rfl sR kk hR) {nx:=λ_ H'=>Q .XT H',rt:=Q} (λσ' H' R' Γ' E' _ h=>h.elim) λv H' R' xx t=>by let⟨y,hy,rfl⟩:=t;exact q v H' R' xx hy⟩
structure tK (mg:Rj):Prop where
 isinstance:mg "isinstance"=none
 bool:mg "bool"=none
 str:mg "str"=none
 tuple:mg "tuple"=none
mutual
noncomputable def n9:PV->Bool
 | .str _=>true
 | .int _=>true
 | .tup xs=>decide (xs.length<=1000)&&j9 xs
 | .lst xs=>j9 xs
 | _=>false
noncomputable def j9:List PV->Bool
 | []=>true
 | x::xs=>n9 x&&j9 xs
end
theorem qT {x:PV}:∀{xs:List PV},j9 xs=true->x∈xs->n9 x=true
 | y::xs,h,hx=>by
   rw[j9,Rx] at h;obtain rfl | hx:=R9.mp hx
   ·exact h.1
   ·exact qT h.2 hx
theorem tY:∀{xs:List PV},(∀x∈xs,n9 x=true)->j9 xs=true
 | [],_=>by rw[j9]
 | y::xs,h=>by rw[j9,h y RZ,tY λx hx=>h x (RX _ hx)];rfl
variable {α:Type}
theorem wV {xs:`u}{y:α×α}(h:(xs.zip xs)[i]?∣y):y.1∈xs/\y=(y.1,y.1):=by
 let⟨h1,h2⟩:=Fc.lB h;rw[h1] at h2;exact⟨R7 h1,UO rfl (Option.some.inj h2).symm⟩
abbrev Ha:Stmt:=top wL
abbrev nSM:Rm:=["_law_told","_law_due","_law_one","_law_other"]
abbrev Mu:Rm:=["_law_told","_law_due"]
theorem Lc:bE nSM Mu (ao Ha):=YV
def Gi (n:Nat):dc:=λK ps T=>∃x:PV,ps=[⟨au,x⟩,⟨au,x⟩]/\x.deep<=n/\n9 x=true/\T=cP K c7 (· =true)
theorem Di (M:cb K mg)(MS:tK mg){n:Nat}(CS:∀m,n=m+1->aE P w K mg base "_law_same" (m+1) (aQ (Gi m) K))(F:dI K "_law_same" "_law_same" Ha f fd)(hm:mg "_law_same"∣.ref f)(hb:Binds K fd Mu []):aE P w K mg base "_law_same" (n+1) (aQ (Gi n) K):=by
 let nd:=Lc.nd;refine gW (k:=n) F Lc hm hb (λqs T ⟨_,e,_⟩=>by rw[e];rfl) `ac;let⟨x,rfl,hd,ho,rfl⟩:=hS;cases x with
 | XT=>simp[n9] at ho
 | bl b=>simp[n9] at ho
 | int k=>
   refine ai (a9 (TW.tv (jb (bU (bu (b:=false) MS.isinstance MS.tuple US `g kU)) (λ_=>jt (bU (bu (b:=false) MS.isinstance M.list UP `g kU))))) `aG (λ_=>aF ?_));refine ai (a9 (bU (bu (b:=false) MS.isinstance MS.bool boot_bool `g kU)) `aG (λ_=>aF ?_));refine ai (a9 (bU (bu (b:=true) MS.isinstance M.int UU `g kU)) (λ_=>?_) `aG);exact aj (aU (pf (bu (b:=true) MS.isinstance M.int UU `e kU) (λ_=>pf (yi (bu (b:=false) MS.isinstance MS.bool boot_bool `e kU)) (λ_=>sT (jk gi (EV.iP (n:=k) `e) (EV.iP (n:=k) `g))))) `d)
 | str y=>
   refine ai (a9 (TW.tv (jb (bU (bu (b:=false) MS.isinstance MS.tuple US `g kO)) (λ_=>jt (bU (bu (b:=false) MS.isinstance M.list UP `g kO))))) `aG (λ_=>aF ?_));refine ai (a9 (bU (bu (b:=false) MS.isinstance MS.bool boot_bool `g kO)) `aG (λ_=>aF ?_));refine ai (a9 (bU (bu (b:=false) MS.isinstance M.int UU `g kO)) `aG (λ_=>aF ?_));refine ai (a9 (bU (bu (b:=true) MS.isinstance MS.str PyProof.Rows.boot_str `g kO)) (λ_=>?_) `aG);exact aj (aU (pf (bu (b:=true) MS.isinstance MS.str PyProof.Rows.boot_str `e kO) (λ_=>sT (jk cq (EV.sP (x:=y) `e) (EV.sP (x:=y) `g)))) `d)
 | tup xs=>
   rw[PV.deep] at hd;rw[n9,Rx] at ho;cases n with
   | zero=>cbv
   | succ m=>
   let CS:=CS m rfl;refine ai (a9 (TW.tv (jb (y:=false) (bU (bu (b:=true) MS.isinstance MS.tuple US `g oA)) `aG)) (λ_=>?_) `aG);refine ai (a9 (TW.tv (jb (ay vJ (bu (b:=true) MS.isinstance MS.tuple US `e oA) (bu (b:=true) MS.isinstance MS.tuple US `g oA)) (λ_=>jt (ay vJ (bu (b:=false) MS.isinstance M.list UP `e oA) (bu (b:=false) MS.isinstance M.list UP `g oA))))) `aG (λ_=>aF ?_));refine ai (a9 (ay Fb (yH M.len `e) (yH M.len `g)) (λh=>Xt h `d) (λ_=>aF ?_));refine bA (N1:=λZ=>∃e2 e3,Z=[.im au (.tup xs),.im au (.tup xs),e2,e3]) (bN (r:=cz au au) (λi Z=>∃e2 e3,Z=[.im au (.tup xs),.im au (.tup xs),e2,e3]) (E8 M.zip `e `g (aM (Um (Xw ho.1) `c))) (d9 2 3) ⟨_,_,rfl⟩ (λi y Z hy hΓ=>?_) (λZ hΓ=>hΓ)) ?_
   ·let⟨e2,e3,rfl⟩:=hΓ;let⟨h1,h2⟩:=wV hy;rw[h2];have:=qG h1;exact aj (a9 (gu (bU (aJ CS hr (ah `r (ah `p ax)) ⟨y.1,rfl,`a,qT ho.2 h1,rfl⟩))) `aG (λ_=>aF ⟨_,_,rfl⟩))
   rintro _ ⟨e2,e3,rfl⟩;exact aj (aU jH rfl)
 | lst xs=>
   rw[PV.deep] at hd;rw[n9] at ho;cases n with
   | zero=>cbv
   | succ m=>
   let CS:=CS m rfl;refine ai (a9 (TW.tv (jb (bU (bu (b:=false) MS.isinstance MS.tuple US `g kS)) (λ_=>jt (bU (bu (b:=true) MS.isinstance M.list UP `g kS))))) (λ_=>?_) `aG);refine ai (a9 (TW.tv (jb (ay vJ (bu (b:=false) MS.isinstance MS.tuple US `e kS) (bu (b:=false) MS.isinstance MS.tuple US `g kS)) (λ_=>jt (ay vJ (bu (b:=true) MS.isinstance M.list UP `e kS) (bu (b:=true) MS.isinstance M.list UP `g kS))))) `aG (λ_=>aF ?_));refine ai (a9 (ay Fb (da M.len (EV.lP (xs:=xs) `e)) (da M.len (EV.lP (xs:=xs) `g))) (λh=>Xt h `d) (λ_=>aF ?_));refine bA (N1:=λZ=>∃e2 e3,Z=[.im au (.lst xs),.im au (.lst xs),e2,e3]) (bN (r:=cz au au) (λi Z=>∃e2 e3,Z=[.im au (.lst xs),.im au (.lst xs),e2,e3]) (Ca M.zip (EV.lP (xs:=xs) `e) (EV.lP (xs:=xs) `g)) (d9 2 3) ⟨_,_,rfl⟩ (λi y Z hy hΓ=>?_) (λZ hΓ=>hΓ)) ?_
   ·let⟨e2,e3,rfl⟩:=hΓ;let⟨h1,h2⟩:=wV hy;rw[h2];have:=qG h1;exact aj (a9 (gu (bU (aJ CS hr (ah `r (ah `p ax)) ⟨y.1,rfl,`a,qT ho h1,rfl⟩))) `aG (λ_=>aF ⟨_,_,rfl⟩))
   rintro _ ⟨e2,e3,rfl⟩;exact aj (aU jH rfl)
theorem GK (M:cb K mg)(MS:tK mg)(F:dI K "_law_same" "_law_same" Ha f fd)(hm:mg "_law_same"∣.ref f)(hb:Binds K fd Mu []):∀n,aE P w K mg base "_law_same" (n+1) (aQ (Gi n) K)
 | 0=>Di M MS (λm h=>Xt h `a) F hm hb
 | n+1=>Di M MS (λm h=>by cases h;exact GK M MS F hm hb n) F hm hb
section
variable {P:α->Prop}
theorem pW {a b:`u}:(∀r∈a++b,P r)↔(∀r∈a,P r)/\∀r∈b,P r:=
 ⟨λh=>⟨λr hr=>h r (Sg _ hr),λr hr=>h r (Sa _ hr)⟩,λh r hr=>(Se.mp hr).elim (h.1 r) (h.2 r)⟩
theorem pR {a b:α}:(∀r∈[a,b],P r)↔P a/\P b:=`d
theorem Af {a:α}:(∀r∈[a],P r)↔P a:=`d
end
section
variable {lo m:Int}
mutual
theorem Pt:∀(t:Th)(lp:Bool)(k af lq:Int),bX lo m lp t->(cF t k af lq).length=cn t/\∀r∈cF t k af lq,k<=r.2.2.1/\r.2.2.1<k+eR t
 | .X6 x,lp,k,af,lq,_=>by rw[cF,Af];simp[cn,eR];cbv
 | .call x,lp,k,af,lq,ho=>by rw[cF,Af];simp[cn,eR];cbv
 | .leave,lp,k,af,lq,_=>by simp[cF,cn,eR]
 | .back,lp,k,af,lq,_=>by simp[cF,cn,eR]
 | .XR x A,lp,k,af,lq,ho=>by
   simp only[bX] at ho;let⟨a1,a3⟩:=sr A true (k+1) k af ho.2;rw[cF,pW,pR,cn,eR];refine⟨by simp[a1];cbv,⟨⟨?_,?_⟩,?_,?_⟩,λr hr=>?_⟩<;>try (dsimp only;cbv)
   have:=a3 r hr;cbv
 | .ifs x A B,lp,k,af,lq,ho=>by
   simp only[bX] at ho;let⟨a1,a3⟩:=sr A lp (k+1) af lq ho.2.1;let⟨b1,b3⟩:=sr B lp (k+1+fI A) af lq ho.2.2;rw[cF,pW,pR,pW,cn,eR];refine⟨by simp[a1,b1];cbv,⟨⟨?_,?_⟩,?_,?_⟩,λr hr=>?_,λr hr=>?_⟩<;>try (dsimp only;cbv)
   ·have:=a3 r hr;cbv
   ·have:=b3 r hr;cbv
theorem sr:∀(ts:`Z)(lp:Bool)(k bh lq:Int),bJ lo m lp ts->(cQ ts k bh lq).length=bW ts/\∀r∈cQ ts k bh lq,k<=r.2.2.1/\r.2.2.1<k+fI ts
 | [],lp,k,bh,lq,_=>by simp[cQ,bW,fI]
 | t::ts,lp,k,bh,lq,ho=>by
   simp only[bJ] at ho;let⟨a1,a3⟩:=Pt t lp k (mI ts (k+eR t) bh lq) lq ho.1;let⟨b1,b3⟩:=sr ts lp (k+eR t) bh lq ho.2.2;rw[cQ,pW,bW,fI,RY];refine⟨`a,λr hr=>?_,λr hr=>?_⟩
   ·have:=a3 r hr;cbv
   ·have:=b3 r hr;cbv
end
def G3 {α:Type}(w:α->Str)(l:`u):Prop:=l=[]∨(∃r,l=[r]/\w r≠"yes")∨∃r s,l=[r,s]/\w r="yes"
abbrev atK (x:Int)(r:mK):Bool:=decide (r.2.2.1=x)
theorem ji {x:Int}{l:List mK}(h:∀r∈l,r.2.2.1≠x):l.filter (atK x)=[]:=S9.mpr λr hr=>by simpa using h r hr
abbrev w1 (r:mK):Str:=r.1
mutual
theorem flT:∀(t:Th)(lp:Bool)(k af lq:Int),bX lo m lp t->∀x,G3 w1 ((cF t k af lq).filter (atK x))
 | .X6 n,lp,k,af,lq,_,x=>by
   rw[cF,TK];split
   ·exact .inr (.inl ⟨_,rfl,by show("do":Str)≠"yes";decide⟩)
   ·exact .inl rfl
 | .call n,lp,k,af,lq,_,x=>by
   rw[cF,TK];split
   ·exact .inr (.inl ⟨_,rfl,by show("call":Str)≠"yes";decide⟩)
   ·exact .inl rfl
 | .leave,lp,k,af,lq,_,x=>by rw[cF];exact .inl rfl
 | .back,lp,k,af,lq,_,x=>by rw[cF];exact .inl rfl
 | .XR n A,lp,k,af,lq,ho,x=>by
   simp only[bX] at ho;let ih:=DH A true (k+1) k af ho.2 x;let rb:=(sr A true (k+1) k af ho.2).2;rw[cF,SH];by_cases h:k=x
   ·rw[ji (l:=cQ A _ _ _) λr hr=>by have:=rb r hr;cbv,Sl,SE.mpr (by simp[h])];exact .inr (.inr ⟨_,_,rfl,rfl⟩)
   ·rw[ji (l:=[_,_]) (by rw[pR];exact⟨h,h⟩)];exact ih
 | .ifs n A B,lp,k,af,lq,ho,x=>by
   simp only[bX] at ho;let ia:=DH A lp (k+1) af lq ho.2.1 x;let ra:=(sr A lp (k+1) af lq ho.2.1).2;let ib:=DH B lp (k+1+fI A) af lq ho.2.2 x;let rb:=(sr B lp (k+1+fI A) af lq ho.2.2).2;rw[cF,SH,SH];by_cases h:k=x
   ·rw[ji (l:=cQ A _ _ _) λr hr=>by have:=ra r hr;cbv,ji (l:=cQ B _ _ _) λr hr=>by have:=rb r hr;cbv,Sl,SE.mpr (by simp[h])];exact .inr (.inr ⟨_,_,rfl,rfl⟩)
   ·rw[ji (l:=[_,_]) (by rw[pR];exact⟨h,h⟩)];by_cases q:x<k+1+fI A
    ·rw[ji (l:=cQ B _ _ _) λr hr=>by have:=rb r hr;cbv,Sl];exact ia
    ·rw[ji (l:=cQ A _ _ _) λr hr=>by have:=ra r hr;cbv];exact ib
theorem DH:∀(ts:`Z)(lp:Bool)(k bh lq:Int),bJ lo m lp ts->∀x,G3 w1 ((cQ ts k bh lq).filter (atK x))
 | [],lp,k,bh,lq,_,x=>by rw[cQ];exact .inl rfl
 | t::ts,lp,k,bh,lq,ho,x=>by
   simp only[bJ] at ho;let ia:=flT t lp k (mI ts (k+eR t) bh lq) lq ho.1 x;let ra:=(Pt t lp k (mI ts (k+eR t) bh lq) lq ho.1).2;let ib:=DH ts lp (k+eR t) bh lq ho.2.2 x;let rb:=(sr ts lp (k+eR t) bh lq ho.2.2).2;rw[cQ,SH];by_cases q:x<k+eR t
   ·rw[ji (l:=cQ ts _ _ _) λr hr=>by have:=rb r hr;cbv,Sl];exact ia
   ·rw[ji (l:=cF t _ _ _) λr hr=>by have:=ra r hr;cbv];exact ib
end
end
noncomputable def GL (rs:List mK)(F:Rt):Rt:=rs.foldl `ae F
theorem Br:∀{rs:List mK}{F:Rt},Ix F->Ix (GL rs F)/\F <+:GL rs F/\∀r∈rs,r.2.2.1∈(GL rs F).map (·.1)/\r.2.2.2.1∈(GL rs F).map (·.1)
 | [],F,hi=>⟨hi,List.prefix_refl F,λr h=>by cases h⟩
 | r::rs,F,hi=>by
   let⟨a,c,e⟩:=Br (rs:=rs) (F:=jg F r.2.2.1 r.2.2.2.1) ((hi.put _).put _);let p1:=(nv (cT F r.2.2.1) r.2.2.2.1).trans c;refine⟨a,(nv F r.2.2.1).trans p1,λq hq=>?_⟩;obtain rfl | hq:=R9.mp hq
   ·exact⟨(p1.map _).subset (pC F _),(c.map _).subset (pC _ _)⟩
   ·exact e q hq
variable {j:Nat}
section
variable {XA:Rm}
structure PaL (Ls:`H)(j:Nat)(L:`Z):Prop where
 ok:bJ (j:Int) (Ls.length:Int) false L
 rs:XQ Ls j=cQ L (X3 Ls j:Int) (-1) 0
 ln:(XQ Ls j).length=bW L
 ix:Ix `aS
 inn:∀r∈XQ Ls j,r.2.2.1∈(eE Ls j).map (·.1)/\r.2.2.2.1∈(eE Ls j).map (·.1)
theorem Aq (h:`aK)(hL:Ls[j]?∣L):PaL Ls j L:=by
 let ho:=h.ok j L hL;let hrs:XQ Ls j=cQ L (X3 Ls j:Int) (-1) 0:=by unfold XQ;rw[RR,hL];rfl
 let⟨ix,_,inn⟩:=Br (rs:=XQ Ls j) (DW (X3 Ls j:Int) (-1));exact⟨ho,hrs,by rw[hrs];exact(sr L false _ _ _ ho).1,ix,inn⟩
theorem vA (hj:j<Ls.length):Ls[j]?∣(Ls.getD j []):=by rw[RR,RQ hj];rfl
theorem LJ (h:`aK):(XO Ls).2.length=(Ls.map bW).sum:=by
 unfold XO;rw[List.length_flatMap];congr 1;refine SV λj=>?_;by_cases hj:j<Ls.length
 ·rw[R6,R6,SU hj,vA hj];exact congrArg some ((RS ..).trans (Aq h (vA hj)).ln)
 ·rw[Sr (by simp;cbv),Sr (by simp;cbv)]
theorem Mn (h:`aK)(hj:j<Ls.length)(q:Int):G3 w1 ((XQ Ls j).filter λr=>decide ((bb `aS r.2.2.1).getD 0=q)):=by
 let po:=Aq h (vA hj);by_cases c:∃r∈XQ Ls j,(bb `aS r.2.2.1).getD 0=q
 ·let⟨r0,hr0,e0⟩:=c;let⟨i0,f0,_,g0⟩:=po.ix.val (po.inn r0 hr0).1;rw[Ub (q:=atK r0.2.2.1) λr hr=>?_]
  ·rw[po.rs];exact DH _ _ _ _ _ po.ok _
  let⟨i,f,_,g⟩:=po.ix.val (po.inn r hr).1;rw[← e0,f,f0];refine decide_eq_decide.mpr ⟨λe=>?_,λe=>?_⟩
  ·let e:(i:Int)=(i0:Int):=e;have:i=i0:=`a
   rw[this,g0] at g;exact(congrArg Prod.fst (Option.some.inj g)).symm
  ·rw[e,f0] at f;rw[f]
 ·exact .inl (S9.mpr λr hr=>by simpa using λe=>c ⟨r,hr,e⟩)
noncomputable def oj (Ls:`H):List (Str×Row):=(Sd Ls.length).flatMap λj=>(XQ Ls j).map λr=>(r.1,dZ j `aS r)
noncomputable def Ze (Ls:`H)(i:Nat):Rm:=(Sd i).flatMap λj=>(XQ Ls j).map λr=>r.1
theorem FY:(oj Ls).map (·.2)=(XO Ls).2:=by unfold oj XO;rw[map_flatMap];simp only[S0];rfl
theorem Ea:(oj Ls).map (·.1)=Ze Ls Ls.length:=by unfold oj Ze;rw[map_flatMap];simp only[S0];rfl
theorem w9 {α:Type}{h:Nat->List α}{p:Nat}(e:∀j,j≠p->h j=[]):∀n,(Sd n).flatMap h=if p<n then h p else[]
 | 0=>`d
 | n+1=>by
   rw[Tf,Tc,Tu,w9 e n];by_cases q:n=p
   ·subst q;simp
   ·rw[e n q,Sl];by_cases c:p<n
    ·rw[Xv c,Xv `a]
    ·rw[Xu c,Xu `a]
theorem NR (h:`aK)(p q:Int):G3 (λz=>z.1) ((oj Ls).filter λz=>decide ((z.2.1,z.2.2.1)=(p,q))):=by
 unfold oj;rw[List.filter_flatMap];by_cases c:0<=p/\p<Ls.length
 ·obtain⟨j,rfl⟩:∃j:Nat,p=(j:Int):=⟨p.toNat,`a⟩;let jl:j<Ls.length:=`a
  rw[w9 (p:=j) λi hi=>S9.mpr λz hz=>by
   let⟨r,_,rfl⟩:=Sk.mp hz;simp[dZ];cbv,Xv jl,T8]
  have:=Mn h jl q;rw[Ub (q:=λr=>decide ((bb `aS r.2.2.1).getD 0=q)) λr _=>by simp[dZ,Function.comp]];rcases this with e | ⟨r,e,w⟩ | ⟨r,s,e,w⟩<;>rw[e]
  ·exact .inl rfl
  ·exact .inr (.inl ⟨_,rfl,w⟩)
  ·exact .inr (.inr ⟨_,_,rfl,w⟩)
 ·refine .inl (List.flatMap_eq_nil_iff.mpr λj hj=>S9.mpr λz hz=>?_);let⟨r,_,rfl⟩:=Sk.mp hz;have:=S3.mp hj;simp[dZ];cbv
theorem DN {α:Type}(d:α){P:α->Bool}:∀(n:Nat)(l:`u),n=l.length->((ups 0 n).filter λk=>P (l.getD k.toNat d)).map (λk=>l.getD k.toNat d)=l.filter P
 | 0,l,e=>by obtain rfl:=T2.mp e.symm;rfl
 | n+1,l,e=>by
   let XS:l≠[]:=λc=>by rw[c] at e;cases e
   obtain⟨l',x,rfl⟩:∃l' x,l=l'++[x]:=⟨_,_,(SS XS).symm⟩;let el:n=l'.length:=by simp at e;exact e
   let g:∀k∈ups 0 n,(l'++[x]).getD k.toNat d=l'.getD k.toNat d:=λk hk=>by
    let⟨i,hi⟩:=Sh.mp hk;let⟨il,rfl⟩:=eQ hi;rw[RR,RR,So `a]
   let gx:(l'++[x]).getD ((n:Int)).toNat d=x:=by rw[RR,RL,el];simp
   rw[xc,SH,Sf,SH,Ub (q:=λk=>P (l'.getD k.toNat d)) λk hk=>by rw[g k hk],Tj (g:=λk=>l'.getD k.toNat d) λk hk=>g k (SJ.mp hk).1,DN d n l' el];congr 1;rw[TK,TK,gx];split
   ·rw[filter_nil,Sx,gx];rfl
   ·rfl
theorem LR (h:`aK){p q k:Int}{ks:Rl}(e:me (XO Ls) p q=k::ks):∃wd,bP (Ze Ls Ls.length) k∣wd/\decide (wd="yes")=decide (1<(k::ks).length):=by
 let hl:(XO Ls).2.length=(oj Ls).length:=by rw[← FY,RS]
 let ro:∀k,rowOf (XO Ls) k=((oj Ls).getD k.toNat (("":Str),n6)).2:=λk=>by
  unfold rowOf;rw[← FY,RR,RR,R6];cases (oj Ls)[k.toNat]?<;>rfl
 let f:=DN (P:=λz=>decide ((z.2.1,z.2.2.1)=(p,q))) (("":Str),n6) _ (oj Ls) hl;let e':=e;unfold me at e;simp only[ro] at e;rw[e] at f;let g:=NR h p q;rw[← f] at g;let km:k∈me (XO Ls) p q:=by rw[e'];exact RZ
 let⟨i,hi⟩:=Sh.mp (SJ.mp km).1;let⟨il,ek⟩:=eQ hi;let wl:(Ze Ls Ls.length).length=(oj Ls).length:=by rw[← Ea,RS]
 refine⟨((oj Ls).getD k.toNat (("":Str),n6)).1,?_,?_⟩
 ·rw[gm `a `a,← Ea,R6,RR,RQ `a];rfl
 ·obtain g | ⟨r,g,w⟩ | ⟨r,s,g,w⟩:=g
  ·cases g
  ·let⟨rfl,g2⟩:=List.cons.inj g;obtain rfl:=List.map_eq_nil_iff.mp g2;exact(Xz w).trans `d
  ·let⟨rfl,g2⟩:=List.cons.inj g;obtain⟨y,rfl⟩:∃y,ks=[y]:=by
    have:=congrArg List.length g2;rw[RS] at this
    match ks,this with
    | [y],_=>exact⟨y,rfl⟩
   exact(Xy w).trans `d
end
noncomputable def ZG (Ls:`H)(i:Nat):List Row:=(Sd i).flatMap λj=>(XQ Ls j).map (dZ j `aS)
theorem Dh (Ls:`H)(hi:i<=Ls.length):(ZG Ls i).length<=(XO Ls).2.length:=by
 show(ZG Ls i).length<=((Sd Ls.length).flatMap λj=>(XQ Ls j).map (dZ j `aS)).length;unfold ZG;obtain⟨d,hd⟩:∃d,Ls.length=i+d:=⟨Ls.length-i,`a⟩;rw[hd,List.range_add,Tc,RY];cbv
theorem Bp (h:j<Ls.length):(dk Ls)[j]?∣mH Ls j:=by
 unfold dk;rw[R6,SU h];rfl
abbrev Jt:Stmt:=top yt
abbrev O8:Rm:=["_law_mapped_here","_law_rows_here","_law_part","_law_word","_law_name_here","_law_one","_law_other","_law_calls"]
def PH:dc:=λK ps T=>∃(XA:Rm)(Ls:`H),ps=[⟨ae eJ,dk Ls⟩]/\cj XA Ls/\T=cP K gB (· =XO Ls)
theorem Nf (M:cb K mg)(Df:Def K mg "_law_web" Jt ["_law_mapped_here"]):aE P w K mg base "_law_web" 1 (aQ PH K):=by
 let Y3:Sw [("_law_some":Str),"_law_known"]:=`c
 refine bO (N:=O8) (k:=0) Df `n;let⟨XA,Ls,rfl,hP,rfl⟩:=hS;let hu:=ru hr;let n30:=LJ hP;let tot:=hP.tot;let l4:=hP.l4;let ml:(dk Ls).length=Ls.length:=by unfold dk;rw[RS,SN]
 change WS _ _ [.im (ae eJ) (dk Ls),.no,.no,.no,.no,.no,.no,.no] _ _;refine ai (cD 1 (r:=dU) (ys:=[]) `aq ?_);refine bA (N1:=λZ=>∃e2 e3 e4 e5 e6 e7,Z=[.im (ae eJ) (dk Ls),.mu dU (XO Ls).2,e2,e3,e4,e5,e6,e7]) (bN (λi Z=>∃e2 e3 e4 e5 e6 e7,Z=[.im (ae eJ) (dk Ls),.mu dU (ZG Ls i),e2,e3,e4,e5,e6,e7]) (dy M.range (da M.len `e) ⟨`a,`a⟩) (aY 2) ⟨_,_,_,_,_,_,rfl⟩ (λj jj Z hj hΓ=>?_) `W) ?_
 ·let⟨e2,e3,e4,e5,e6,e7,rfl⟩:=hΓ;let⟨jl,ej⟩:=eQ hj;obtain rfl:jj=(j:Int):=`a
  let il:j<Ls.length:=`a
  let Ym:bP (dk Ls) (j:Int)∣mH Ls j:=by
   rw[gm `a `a,RL];exact Bp il
  let nx:ZG Ls (j+1)=ZG Ls j++(XQ Ls j).map (dZ j `aS):=by
   unfold ZG;rw[Tf,Tc,Tu]
  let n30':(ZG Ls j).length+(XQ Ls j).length<=30:=by
   have:=Dh Ls (i:=j+1) il;rw[nx,RY,RS] at this;cbv
  rw[nx];generalize ZG Ls j=ys at n30';refine aj (bN (r:=qp) (xs:=XQ Ls j) (λk Z=>∃e3 e4 e5 e6 e7,Z=[.im (ae eJ) (dk Ls),.mu dU (ys++((XQ Ls j).take k).map (dZ j `aS)),aA (j:Int),e3,e4,e5,e6,e7]) (bI (sq (aL `e `r Ym))) (GW 3 4 5 6 7) ⟨_,_,_,_,_,by rw[Tr,TU,Sl];rfl⟩ (λk r Z YK hΓ=>?_) `W)
  ·let⟨e3,e4,e5,e6,e7,rfl⟩:=hΓ;let kl:=(RP.mp YK).1;let⟨k1,k2⟩:=(Aq hP (vA il)).inn r (R7 YK);let nx:ys++((XQ Ls j).take (k+1)).map (dZ j `aS)=ys++((XQ Ls j).take k).map (dZ j `aS)++[dZ j `aS r]:=by
    rw[SG,YK];simp only[Sf,Sj,Option.toList,Sx,TU]
   rw[nx];let yl:(ys++((XQ Ls j).take k).map (dZ j `aS)).length<=30:=by
    rw[RY,RS,Sm];cbv
   generalize ys++((XQ Ls j).take k).map (dZ j `aS)=us at yl;let⟨wd,nm,o1,o2,cl⟩:=r;let k1:bb `aS o1∣((bb `aS o1).getD 0):=mm (iL.mpr k1);let k2:bb `aS o2∣((bb `aS o2).getD 0):=mm (iL.mpr k2);change WS _ _ [.im (ae eJ) (dk Ls),.mu dU us,aA (j:Int),.im aq wd,.im aq nm,aA o1,aA o2,aA cl] _ _;exact aj (ee 1 (y:=dZ j `aS (wd,nm,o1,o2,cl)) (LN (ah `r (ah (jn hu (hZ (aL `e `r Ym)) `aa k1) (ah (jn hu (hZ (aL `e `r Ym)) `aw k2) (ah (aa 7 rfl) ax))))) rfl rfl (Uo yl `c) ⟨_,_,_,_,_,rfl⟩)
  ·let⟨e3,e4,e5,e6,e7,rfl⟩:=hΓ;rw[SK];exact⟨_,_,_,_,_,_,rfl⟩
 ·let⟨e2,e3,e4,e5,e6,e7,rfl⟩:=hΓ;rw[bp,ml,RL];exact⟨_,_,_,_,_,_,rfl⟩
 rintro _ ⟨e2,e3,e4,e5,e6,e7,rfl⟩;refine WS.freeze 1 rfl (aM `a) ?_;refine aj (aU (gX (ah (aZ.im (bV (own:=["_law_some","_law_known"]) (fr:=[]) (ix:=[]) (ra:=eJ) (rb:=ag) (p:=λ_=>true) (f:=λy=>(y.2.length:Int)) (bH (so:=ao Jt) (N0:=O8) rfl rfl `Q `b) (bI `e)
  (λC s H ex=>d9 0 1) (λx=>⟨.inr rfl,.inr rfl,trivial⟩) `aj (λC' s' H ex o ho _=>rG M.len `g))) (ah `g ax))) ?_)
 let e:(dk Ls).map (λy=>(y.2.length:Int))=(XO Ls).1:=by unfold dk XO;rw[S0];rfl
 rw[SE.mpr λ_ _=>rfl,e]
theorem Me (Ls:`H)(i:Nat):(Ze Ls i).length=(ZG Ls i).length:=by unfold Ze ZG;simp[List.length_flatMap]
theorem map_set {α β:Type}(g:α->β)(x:α):∀(n:Nat)(l:`u),(l.map g).set n (g x)=(l.set n x).map g
 | _,[]=>rfl
 | 0,y::l=>rfl
 | n+1,y::l=>by rw[Sx,T5,T5,Sx,map_set g x n l]
theorem yW (st:g8):∀xs∈st.map tw2,xs.length<=UZ:=λxs hx=>by
 let⟨t,_,rfl⟩:=Sk.mp hx;show 2<=UZ;decide
abbrev xm:Stmt:=top vT
abbrev DI:Rm:=["_law_mapped_here","_law_answers_here","_law_bound","_law_web_here","_law_words_here","_law_rows_here","_law_known","_law_stack","_law_gone_here","_law_used","_law_here"]
theorem Kk:bE DI ["_law_mapped_here","_law_answers_here","_law_bound"] (ao xm):=YV
def O5:dc:=λK ps T=>∃(XA:Rm)(Ls:`H)(ans:Rl)(bound:Int),ps=[⟨ae eJ,dk Ls⟩,⟨ae ag,ans⟩,⟨ag,bound⟩]/\cj XA Ls/\(∀a∈ans,a=0∨a=1)/\0<=bound/\bound<=2000/\T=cP K au (· =qw (gH (XO Ls) ans bound.toNat ZC))
theorem MZ (M:cb K mg)(CB:aE P w K mg base "_law_web" 1 (aQ PH K))(F:dI K "_law_gone" "_law_gone" xm f fd)(hm:mg "_law_gone"∣.ref f)(hb:Binds K fd ["_law_mapped_here","_law_answers_here","_law_bound"] []):aE P w K mg base "_law_gone" 2 (aQ O5 K):=by
 let nd:=Kk.nd;let Y3:Sw [("_law_row":Str)]:=`c
 let ZM:Sw [("_law_k":Str),"_law_stack","_law_web_here"]:=`c
 let ndc3:Sw [("_law_part":Str),"_law_place"]:=`c
 refine gW (k:=1) F Kk hm hb (λqs T ⟨_,_,_,_,e,_⟩=>by rw[e];rfl) `ac;let⟨XA,Ls,ans,bound,rfl,hP,hab,b0,b1,rfl⟩:=hS;let hu:=ru hr;let ha:=z8 hab;let hv:mx (XO Ls):=by rw[← zJ hP];exact Gx hP (qL hP).2
 let yes:=λ{p q k ks}=>LR hP (p:=p) (q:=q) (k:=k) (ks:=ks);let wl:(Ze Ls Ls.length).length=(XO Ls).2.length:=by rw[← Ea,← FY,RS,RS]
 let rl30:=hv.rl;let ml:(dk Ls).length=Ls.length:=by unfold dk;rw[RS,SN]
 change WS _ _ [.im (ae eJ) (dk Ls),dR ans,aA bound,.no,.no,.no,.no,.no,.no,.no,.no] _ _;refine ai (ba 3 (r:=gB) (y:=XO Ls) (aJ CB hr (ah `e ax) ⟨XA,Ls,rfl,hP,rfl⟩) ?_);refine ai (ba 4 (r:=ae aq) (y:=[]) (aZ.im `aq) ?_);refine bA (N1:=λZ=>∃e5 e6,Z=[.im (ae eJ) (dk Ls),dR ans,aA bound,.im gB (XO Ls),.im (ae aq) (Ze Ls Ls.length),e5,e6,.no,.no,.no,.no]) (bN (r:=eJ) (xs:=dk Ls) (λi Z=>∃e5 e6,Z=[.im (ae eJ) (dk Ls),dR ans,aA bound,.im gB (XO Ls),.im (ae aq) (Ze Ls i),e5,e6,.no,.no,.no,.no]) (bI `e) (d9 5 6) ⟨_,_,rfl⟩ (λj y Z hj hΓ=>?_) `W) ?_
 ·let⟨e5,e6,rfl⟩:=hΓ;let jl:j<Ls.length:=by rw[← ml];exact(RP.mp hj).1
  rw[Bp jl] at hj;cases hj
  let nx:Ze Ls (j+1)=Ze Ls j++(XQ Ls j).map λr=>r.1:=by
   unfold Ze;rw[Tf,Tc,Tu]
  let sm:(Ze Ls j).length+(XQ Ls j).length<=30:=by
   have:=Dh Ls (i:=j+1) jl;rw[← Me] at this;rw[nx,RY,RS] at this;cbv
  rw[nx];change WS _ _ [.im (ae eJ) (dk Ls),dR ans,aA bound,.im gB (XO Ls),.im (ae aq) (Ze Ls j),.im (ae qp) (XQ Ls j),.im jz `aS,.no,.no,.no,.no] _ _;generalize Ze Ls j=ws at sm;generalize XQ Ls j=rs at sm;refine aj (ba 4 (aZ.im (cK `T (aZ.im (bV (own:=["_law_row"]) (fr:=[]) (ix:=[]) (ra:=qp) (rb:=aq) (p:=λ_=>true) (f:=λr=>r.1) (bH (so:=ao xm) (N0:=DI) rfl rfl `Q `b) (bI `aa)
   `F `V `aj (λC' s' H ex o ho _=>EV.sP (dJ (xs:=[.str o.1,.str o.2.1,.int o.2.2.1,.int o.2.2.2.1,.int o.2.2.2.2]) (EV.re (r:=qp) (x:=o) `e λ_ _ _ h=>h) ev_int rfl)))) (aM (by rw[SE.mpr λ_ _=>rfl,RS];cbv)))) ⟨_,_,by rw[SE.mpr λ_ _=>rfl];rfl⟩)
 ·let⟨e5,e6,rfl⟩:=hΓ;rw[ml];exact⟨_,_,rfl⟩
 rintro _ ⟨e5,e6,rfl⟩;generalize Ze Ls Ls.length=wds at yes wl;generalize XO Ls=v at hv yes wl rl30;refine ai (Ec 7 (r:=ag) (ys:=[0,0]) (aN (ak ev_int (ak ev_int aK)) (by show 2<=UZ;decide)) λa b=>?_);refine ai (cD 8 (r:=ag) (ys:=[]) `aq ?_);refine ai (ba 9 (y:=((0:Nat):Int)) ev_int ?_);generalize hR:gH v ans bound.toNat ZC=R;refine aj (jA (λm Z=>∃(rows:Rl)(u:Nat)(sl:g8)(bs:Ro)(YG:Ent),Z=[.im (ae eJ) (dk Ls),dR ans,aA bound,.im gB v,.im (ae aq) wds,e5,e6,.ob (fN ag a bs (sl.map tw2)),.mu ag rows,aA (u:Int),YG]/\gH v ans m (rows,u,trim sl)=R/\(rows.length:Int)+(m:Int)=bound/\oP v (trim sl)/\sl.length<=rows.length+1/\u<=ans.length) (m0:=bound.toNat) ⟨[],0,[(0,0)],[b],.no,rfl,hR,by rw[Sv];cbv,uX hv,Uk _,Ul _⟩ ?_);rintro m Z ⟨rows,u,sl,bs,YG,rfl,hw,hm,hs,hl,ZO⟩;refine⟨true,_,bU jH,λ_=>?_,λh=>by cases h⟩;let rl:rows.length<=2000:=`a
 refine bA (N1:=λZ=>∃bs,Z=[.im (ae eJ) (dk Ls),dR ans,aA bound,.im gB v,.im (ae aq) wds,e5,e6,.ob (fN ag a bs ((trim sl).map tw2)),.mu ag rows,aA (u:Int),YG]) (jA (λn Z=>∃(s3:g8)(bs:Ro),Z=[.im (ae eJ) (dk Ls),dR ans,aA bound,.im gB v,.im (ae aq) wds,e5,e6,.ob (fN ag a bs (s3.map tw2)),.mu ag rows,aA (u:Int),YG]/\n=s3.length/\trim s3=trim sl/\s3.length<=sl.length) (m0:=sl.length) ⟨sl,bs,rfl,rfl,rfl,Uk _⟩ ?_) ?_
 ·rintro n Z ⟨s3,bs,rfl,rfl,ht,l3⟩;let zl:(s3.map tw2).length<=UZ:=aM (by rw[RS];cbv);let z2:=yW s3;by_cases XS:s3=[]
  ·subst XS;exact⟨_,_,TV.Yu (nL (i:=7) rfl zl z2) (TW.tv (cZ (y:=false) (ay iJ (da M.len (aa 7 rfl)) ev_int) `aG)),λh=>Xt h `c,λ_=>⟨bs,by rw[← ht];rfl⟩⟩
  ·obtain⟨s4,t,rfl⟩:∃s4 t,s3=s4++[t]:=⟨_,_,(kD XS).symm⟩;let g:(s4++[t]).getLast XS=t:=List.getLast_concat;let a1:bP ((s4++[t]).map tw2) (-1)∣tw2 t:=kX `d;refine⟨_,_,TV.Yu (nL (i:=7) rfl zl z2) (TW.tv (cZ (ay iJ (da M.len (aa 7 rfl)) ev_int) (λ_=>eL (ay gi (aL (y:=t.2) (aL (aa 7 rfl) `ag a1) ev_int rfl) ev_int)))),λh=>?_,λh=>?_⟩
   ·rw[Rx] at h;let h1:t.2=1:=Xw h.2;have:=qR XS (by rw[g];exact h1);rw[List.dropLast_concat] at this;rw[RY] at l3;refine aj (Jg 7 (a:=a) (xss:=s4.map tw2) (ys:=tw2 t) (by rw[Sf];rfl) λbs=>⟨s4.length,by rw[RY];exact Uv _,s4,bs,rfl,rfl,by rw[← this];exact ht,`a⟩)
   ·let h1:t.2≠1:=λe=>by
     rw[e] at h;simp at h
    have:=oU XS (by rw[g];exact h1);exact⟨bs,by rw[← ht,this]⟩
 rintro _ ⟨bs,rfl⟩;let tl:(trim sl).length<=rows.length+1:=by
  let⟨s',e,_⟩:=qM _ sl rfl;have:=congrArg List.length e;rw[RY] at this;cbv
 generalize trim sl=st at hw hs tl;let z2:=yW st;let zl:(st.map tw2).length<=UZ:=aM (by rw[RS];cbv);refine ai (a9 (TV.Yu (nL (i:=7) rfl zl z2) (ay gi (da M.len (aa 7 rfl)) ev_int)) (λh=>?_) `J)
 ·let hz:st=[]:=by
   have:=Xw h;rw[RS] at this;exact T2.mp `a
  subst hz;rw[xo rfl] at hw;refine WS.freeze 8 rfl (aM `a) ?_;refine aj (aU (fR (ak (EV.zN (aa 8 rfl)) (ak (EV.pS aB) (ak (EV.zX (xs:=[]) (aZ.im `aq)) aK))) (by show 3<=UZ;decide)) ?_);rw[← hw];rfl
 let XS:st≠[]:=λe=>by rw[e] at h;exact Xt h `c
 let lz:=rJ XS;rw[← rH XS] at lz;let a1:bP (st.map tw2) (-1)∣(tw2 (dS st)):=kX (by rw[RS,R6,lz];rfl);refine ai (HY 10 (nL (i:=7) rfl zl z2) (own:=["_law_k"]) (fr:=["_law_stack","_law_web_here"]) (ix:=[7,3]) (ra:=ag) (rb:=ag) (p:=λk=>decide (((rowOf v k).1,(rowOf v k).2.1)=((dS st).1,(dS st).2))) (f:=id) (λ_ _ _ _ _ h=>h) (bH (so:=ao xm) (N0:=DI) rfl rfl `Q `b) (dy M.range (da M.len `T) ⟨`a,`a⟩)
  `F (λx=>⟨.inr rfl,.inl rfl,.inl rfl,trivial⟩) (λC' s H ex k hk=>by
   let⟨i,hi⟩:=Sh.mp hk;let⟨il,rfl⟩:=eQ hi;exact hU (ay (Oj eq_int eq_int hu hu) (ED (aL (hZ `r) `e (a7 n6 `a `a))) (gX (ah (aL (aL `g `ag a1) ev_int rfl) (ah (aL (aL `g `ag a1) ev_int rfl) ax))))) (λC' s' H ex o ho _=>aa 0 rfl) ?_)
 let ef:((ups 0 ((wds.length:Int)).toNat).filter λk=>decide (((rowOf v k).1,(rowOf v k).2.1)=((dS st).1,(dS st).2))).map id=dB v st:=by rw[map_id,RL,wl];rfl
 rw[ef];let fne:=wB hv hs XS;let fl:(dB v st).length<=30:=by
  refine Um (Tn _ _) ?_;rw[bp];exact rl30
 refine WS.freeze 10 rfl (aM `a) ?_;let⟨k0,ks,ek⟩:=List.exists_cons_of_ne_nil fne;let⟨wd,hwd,hy⟩:=yes ek;rw[← ek] at hy;let hk0:bP (dB v st) 0∣k0:=by rw[ek,gm (RM _) `d];rfl
 refine ai (a9 (ay gi (tX 8 M.len rfl) `r) (λh=>?_) `J)
 ·let h:(rows.length:Int)=bound:=Xw h;let m0:m=0:=`a
  subst m0;rw[yU XS] at hw;refine WS.freeze 8 rfl (aM `a) (WS.nL 7 rfl zl z2 ?_);refine aj (aU (fR (ak (EV.zN (aa 8 rfl)) (ak (EV.pS aB) (ak (EV.zX (aZ.im (bV (own:=["_law_part","_law_place"]) (fr:=[]) (ix:=[]) (ra:=yj ag) (rb:=cz ag ag) (p:=λ_=>true) (f:=id) (bH (so:=ao xm) (N0:=DI) rfl rfl `Q `b) (bI (EV.two (aa 7 rfl))) (λC s H ex=>zo 0 1) (λx=>⟨.inr rfl,.inr rfl,trivial⟩) `aj (λC' s' H ex o ho _=>gX (ah `e (ah `g ax)))))) aK))) (by show 3<=UZ;decide)) ?_);rw[SE.mpr λ_ _=>rfl,map_id,← hw];rfl
 let h:¬(rows.length:Int)=bound:=Xx h;obtain⟨m',rfl⟩:∃m',m=m'+1:=⟨m-1,`a⟩;refine bA (N1:=λZ=>∃(c:Int)(u':Nat)(hs':Rl),Z=[.im (ae eJ) (dk Ls),dR ans,aA bound,.im gB v,.im (ae aq) wds,e5,e6,.ob (fN ag a bs (st.map tw2)),.mu ag rows,aA (u':Int),dR hs']/\bP hs' 0∣c/\lR v ans u st∣(c,u')/\u'<=ans.length)
  (a9 (ay cq (aL `T (aL (aa 10 rfl) ev_int hk0) hwd) aB) (λh=>?_) `J) ?_
 ·rw[hy] at h;let h:1<(dB v st).length:=Xw h;refine ai (a9 (ay gi (aa 9 rfl) (da M.len `g)) (λq=>?_) (λq=>aF ?_))
  ·let q:(u:Int)=(ans.length:Int):=Xw q;let hn:l9 v ans (rows,u,st)=none:=by
    unfold l9 lR;rw[Xv h,Sr (show ans.length<=u by cbv)];rfl
   rw[tT XS hn] at hw;refine WS.freeze 8 rfl (aM `a) (WS.nL 7 rfl zl z2 ?_);refine aj (aU (fR (ak (EV.zN (aa 8 rfl)) (ak (EV.pS aB) (ak (EV.zX (aZ.im (bV (own:=["_law_part","_law_place"]) (fr:=[]) (ix:=[]) (ra:=yj ag) (rb:=cz ag ag) (p:=λ_=>true) (f:=id) (bH (so:=ao xm) (N0:=DI) rfl rfl `Q `b) (bI (EV.two (aa 7 rfl))) (λC s H ex=>zo 0 1) (λx=>⟨.inr rfl,.inr rfl,trivial⟩) `aj (λC' s' H ex o ho _=>gX (ah `e (ah `g ax)))))) aK))) (by show 3<=UZ;decide)) ?_);rw[SE.mpr λ_ _=>rfl,map_id,← hw];rfl
  ·let q:¬(u:Int)=(ans.length:Int):=Xx q;let ul:u<ans.length:=`a
   let hau:ans[u]?=some ans[u]:=RQ ul;let hab:=xD ha hau;generalize ans[u]=b at hau hab;let Ym:bP ans (u:Int)∣b:=by rw[a7 (xs:=ans) 0 `a `a,RR,show((u:Nat):Int).toNat=u by cbv,hau];rfl
   refine ai (ba 10 (r:=ae ag) (y:=cut (dB v st) (some (1-b)) none) (aZ.im (jZ (aa 10 rfl) (ov_some (gP ev_int (aL `g (aa 9 rfl) Ym))) ov_none)) ?_);refine aj (ba 9 (y:=((u+1:Nat):Int)) (EV.cast (bY (aa 9 rfl) ev_int) (by push_cast;rfl)) ⟨(dB v st).getD (1-b).toNat 0,u+1,_,rfl,?_,?_,ul⟩)
   ·obtain⟨i,hi⟩:∃i:Nat,1-b=(i:Int):=⟨(1-b).toNat,`a⟩;rw[hi,oM,RL,gm (RM _) (by rw[Ts];cbv),T6,RR];show(dB v st)[i+0]?=_;rw[UA,RQ `a];rfl
   ·unfold lR;rw[Xv h,hau];rfl
 ·rw[hy] at h;let h:¬1<(dB v st).length:=Xx h;refine⟨k0,u,_,rfl,hk0,?_,ZO⟩;unfold lR;rw[Xu h,ek];rfl
 rintro _ ⟨c,u',hs',rfl,hh,hc,hu''⟩;let cm:=yK hv ha hs XS hc;let⟨c0,c1,c2⟩:=yZ cm;let ct:((rowOf v c).1,(rowOf v c).2.1)=((dS st).1,(dS st).2):=Xw (SJ.mp cm).2;let ct:=congrArg Prod.fst ct;let hn:l9 v ans (rows,u,st)∣(rows++[c],u',jx st (rowOf v c)):=by unfold l9;rw[hc];rfl
 rw[tV XS hn] at hw;let gk:=G7 hv hs XS c2;let Y8:bP v.2 c∣rowOf v c:=a7 n6 c0 c1;let r4:=(hv.rw _ c2).2.2.2;let hpos:=TB.mpr XS;generalize rowOf v c=r at ct hw gk Y8 r4;refine ai (ee 8 (y:=c) (aL (aa 10 rfl) ev_int hh) rfl rfl (Uo rl `c) ?_);refine ai (Je 7 (a:=a) (as:=bs) (xss:=st.map tw2) (j:=st.length-1) (n:=1) (xs:=tw2 (dS st)) (Ad (aL (hZ `p) (aL (aa 10 rfl) ev_int hh) Y8)) `ag ev_int rfl (by rw[RS];unfold fO;rw[Xu `a,Xv `a];congr 1;cbv) (by rw[R6,lz];rfl) rfl ?_);let e1:(st.map tw2).set (st.length-1) ((tw2 (dS st)).set 1 r.2.2.1)=(st.set (st.length-1) (r.1,r.2.2.1)).map tw2:=by
  rw[← map_set];show _=(st.map tw2).set _ [r.1,r.2.2.1];rw[show r.1=(dS st).1 from ct];rfl
 change WS _ _ [.im (ae eJ) (dk Ls),dR ans,aA bound,.im gB v,.im (ae aq) wds,e5,e6,.ob (fN ag a bs ((st.map tw2).set (st.length-1) ((tw2 (dS st)).set 1 r.2.2.1))),.mu ag (rows++[c]),aA (u':Int),dR hs'] _ _;rw[e1];unfold jx at hw gk;let ln:(st.set (st.length-1) (r.1,r.2.2.1)).length=st.length:=SF;let rn:((rows++[c]).length:Int)=rows.length+1:=by rw[RY];rfl
 refine aj (a9 (ay K8 (px (aL (hZ `p) (aL (aa 10 rfl) ev_int hh) Y8)) ev_int) (λh=>?_) `J)
 ·let h:0<=r.2.2.2:=Xw h;rw[Xu `a] at hw gk;refine aj (AA 7 (r:=ag) (ys:=tw2 (r.2.2.2,0)) (aN (ak (px (aL (hZ `p) (aL (aa 10 rfl) ev_int hh) Y8)) (ak ev_int aK)) (by show 2<=UZ;decide)) rfl rfl (Uo (show _<=2001 by rw[RS,ln];cbv) `c) λb=>⟨m',`a,rows++[c],u',st.set (st.length-1) (r.1,r.2.2.1)++[(r.2.2.2,0)],bs++[b],_,by rw[Sf];rfl,hw,`a,gk.1,?_,hu''⟩);rw[RY,ln];show st.length+1<=_;cbv
 ·let h:¬0<=r.2.2.2:=Xx h;rw[Xv `a] at hw gk;exact⟨m',`a,rows++[c],u',st.set (st.length-1) (r.1,r.2.2.1),bs,_,rfl,hw,`a,gk.1,`a,hu''⟩
theorem EJ {v:gZ}{ans:Rl}{n:Int}(h:n<=1000):(gH v ans n.toNat ZC).1.length<=100000:=by
 let⟨ex,h1,h2⟩:=xF (v:=v) (ans:=ans) n.toNat ZC;rw[h1,RY];show 0+ex.length<=100000;cbv
theorem Kx (x:Wk):n9 (qw x)=true:=by
 let h1:j9 (x.1.map PV.int)=true:=tY λx hx=>by let⟨y,_,rfl⟩:=Sk.mp hx;simp[n9]
 let h2:j9 (x.2.2.map qW)=true:=tY λx hx=>by let⟨y,_,rfl⟩:=Sk.mp hx;simp[qW,n9,j9]
 simp[qw,n9,j9,h1,h2]
theorem qJ {n:Nat}:∀{xs:List PV},(∀x∈xs,x.deep<=n)->PV.iz xs<=n
 | [],_=>by rw[PV.iz];exact Ul _
 | x::xs,h=>by
   rw[PV.iz];let h1:=h x RZ;let h2:=qJ (xs:=xs) λy hy=>h y (RX _ hy);cbv
theorem ID (x:Wk):(qw x).deep<=3:=by
 let h1:PV.iz (x.1.map PV.int)<=0:=qJ λx hx=>by let⟨y,_,rfl⟩:=Sk.mp hx;simp[PV.deep]
 let h2:PV.iz (x.2.2.map qW)<=1:=qJ λx hx=>by let⟨y,_,rfl⟩:=Sk.mp hx;simp[qW,PV.deep,PV.iz]
 simp only[qw,PV.deep,PV.iz];cbv
abbrev oQ:Stmt:=top JU
abbrev J5:Rm:=["_law_script","_law_texts","_law_dues","_law_answers_here","_law_bound","_law_k","_law_names","_law_lists","_law_mapped_here","_law_j"]
theorem JH:bE J5 ["_law_script"] (ao oQ):=YV
def xE:dc:=λK ps T=>∃ns:Rl,ps=[⟨cO,ns⟩]/\ns.length<=63/\(∀n∈ns,intBits n<=2 ^ 20)/\T=cP K c7 (· =true)
def ip (ns:Rl)(i:Nat):Str:=WW " " (lA (Ys ns (180*(i:Int))) (Yw ns (180*(i:Int))))
def YW (ns:Rl)(j:Nat):Rl:=rC ns (400+45*(j:Int))
def uS (ns:Rl)(bo:Int)(i j:Nat):PV:=qw (gH (XO (Yw ns (180*(i:Int)))) (YW ns j) bo.toNat ZC)
def iQ (ns:Rl)(bo:Int)(i:Nat):PV:=.lst [uS ns bo i 0,uS ns bo i 1]
theorem Nm (M:cb K mg)(CM:aE P w K mg base "_law_mixed" 1 (aQ Gy K))(CD:aE P w K mg base "_law_drawn" 17 (aQ Pf K))(CT:aE P w K mg base "_law_text" 7 (aQ Pa K))(CP:aE P w K mg base "_law_mapped" 7 (Ap K))(CG:aE P w K mg base "_law_gone" 2 (aQ O5 K))(CA:aE P w K mg base "_law_answers" 2 (aQ P7 K))(CW:aE P w K mg base "walked" 8 (aQ LY K))(CE:aE P w K mg base "_law_same" 4 (aQ (Gi 3) K))(F:dI K "law" "law" oQ f fd):fb P w K mg base eo 18 f fd ["_law_script"] (aQ xE K):=by
 let nd:=JH.nd;let CM:=CM.mono (show 1<=17 by decide);let CT:=CT.mono (show 7<=17 by decide);let CP:=CP.mono (show 7<=17 by decide);let CG:=CG.mono (show 2<=17 by decide);let CA:=CA.mono (show 2<=17 by decide);let CW:=CW.mono (show 8<=17 by decide);let CE:=CE.mono (show 4<=17 by decide);refine LO (k:=17) F JH (λqs T ⟨_,e,_⟩=>by rw[e];rfl) `ac;let⟨ns,rfl,h63,Zc,rfl⟩:=hS;let hs:zt ns:=⟨h63,Zc⟩;let ab:∀j,∀a∈YW ns j,a=0∨a=1:=λj=>FO ns _;change WS _ _ [.im cO ns,.no,.no,.no,.no,.no,.no,.no,.no,.no] _ _;refine ai (cD 1 (r:=aq) (ys:=[]) `aq ?_);refine ai (cD 2 (r:=au) (ys:=[]) `aq ?_);refine ai (ba 3 (r:=ae (ae ag)) (y:=[YW ns 0,YW ns 1]) (aZ.im (aN (ak (aZ.im (rq CA hr (ah `e (ah ev_int ax)) ⟨ns,400,rfl,hs,`c,`c,rfl⟩)) (ak (aZ.im (rq CA hr (ah `e (ah ev_int ax)) ⟨ns,445,rfl,hs,`c,`c,rfl⟩)) aK)) (by show 2<=UZ;decide))) ?_);refine ai (ba 4 (y:=XG ns 399%81) (cU (aJ CM hr (ah `e (ah ev_int ax)) ⟨ns,399,rfl,hs,`c,`c,rfl⟩) ev_int `c) ?_);let b0:0<=XG ns 399%81/\XG ns 399%81<=80:=`a
 generalize XG ns 399%81=bo at b0;let key:∀i j:Nat,LY K [⟨aq,ip ns i⟩,⟨ae ag,YW ns j⟩,⟨ag,bo⟩] (cP K au (· =uS ns bo i j)):=λi j=>by
  let hP:=zC ns (180*(i:Int));let⟨hk,hG⟩:=qL hP;let e:=zJ hP;exact⟨_,_,_,_,_,rfl,IH hP,hk,hG,G9 hP,Gx hP hG,z8 (ab j),`a,EJ `a,by unfold uS;rw[← e]⟩
 refine bA (N1:=λZ=>∃e5 e6 e7 e8,Z=[.im cO ns,.mu aq [ip ns 0,ip ns 1],.mu au [iQ ns bo 0,iQ ns bo 1],.im `au [YW ns 0,YW ns 1],aA (bo),e5,e6,e7,e8,.no]) (bN (λi Z=>∃e5 e6 e7 e8,Z=[.im cO ns,.mu aq ((Sd i).map (ip ns)),.mu au ((Sd i).map (iQ ns bo)),.im `au [YW ns 0,YW ns 1],aA (bo),e5,e6,e7,e8,.no]) (dy M.range ev_int ⟨`c,`c⟩) (aY 5) ⟨_,_,_,_,rfl⟩ (λi j Z hj hΓ=>?_) `W) ?_
 ·let⟨e5,e6,e7,e8,rfl⟩:=hΓ;let⟨jl,ej⟩:=eQ hj;let jl:i<2:=jl;obtain rfl:j=(i:Int):=`a
  let t1:(Sd (i+1)).map (ip ns)=(Sd i).map (ip ns)++[ip ns i]:=by rw[Tf,Sf];rfl
  let t2:(Sd (i+1)).map (iQ ns bo)=(Sd i).map (iQ ns bo)++[iQ ns bo i]:=by rw[Tf,Sf];rfl
  rw[t1,t2];let l1:((Sd i).map (ip ns)).length<=2:=by rw[RS,SN];cbv
  let l2:((Sd i).map (iQ ns bo)).length<=2:=by rw[RS,SN];cbv
  generalize (Sd i).map (ip ns)=ts at l1;generalize (Sd i).map (iQ ns bo)=ds at l2;refine ai (I0 6 7 (r:=ae aq) (P:=λy L=>y=Ys ns (180*(i:Int))/\L=(Yw ns (180*(i:Int))).map bF) CD hr (ah `e (ah (Dc ev_int `aa (.inl `c)) ax)) ⟨ns,180*(i:Int),rfl,hs,`a,`a,rfl⟩ `c (λa y ps hy=>?_));let⟨rfl,YA⟩:=hy;let hP:=zC ns (180*(i:Int));unfold ip iQ uS;let g0:=ab 0;let g1:=ab 1;generalize YW ns 0=a0 at g0;generalize YW ns 1=a1 at g1;generalize Ys ns (180*(i:Int))=XA at hP;generalize Yw ns (180*(i:Int))=Ls at hP YA;let lps:ps.length=Ls.length:=by have:=congrArg List.length YA;rwa [RS,RS] at this
  let l4:=hP.l4;change WS _ _ [.im cO ns,.mu aq ts,.mu au ds,.im `au [a0,a1],aA bo,aA (i:Int),.im (ae aq) XA,.ob (bB a ps),e8,.no] _ _;refine ai (ee 1 (r:=aq) (y:=WW " " (lA XA Ls)) (EV.Yu (MW (i:=7) rfl (aM `a)) (λ_ _ _ _ _ h=>h) (aJ CT hr (ah `aw (ah (EV.cast (aa 7 rfl) YA) ax)) ⟨XA,Ls,rfl,hP,rfl⟩)) rfl rfl (Uo l1 `c) ?_);refine ai (ba 8 (r:=ae eJ) (y:=dk Ls) (Nz 7 CP hr rfl YA hP) ?_);exact aj (ee 2 (r:=au) (y:=.lst [qw (gH (XO Ls) a0 bo.toNat ZC),qw (gH (XO Ls) a1 bo.toNat ZC)]) (EV.pL (aZ.im (aN (ak (aJ CG hr (ah (aa 8 rfl) (ah (aL `p ev_int rfl) (ah `T ax))) ⟨XA,Ls,a0,bo,rfl,hP,g0,b0.1,`a,rfl⟩) (ak (aJ CG hr (ah (aa 8 rfl) (ah (aL `p ev_int rfl) (ah `T ax))) ⟨XA,Ls,a1,bo,rfl,hP,g1,b0.1,`a,rfl⟩) aK)) (by show 2<=UZ;decide)))) rfl rfl (Uo l2 `c) ⟨_,_,_,_,rfl⟩)
 ·let⟨e5,e6,e7,e8,rfl⟩:=hΓ;exact⟨_,_,_,_,rfl⟩
 rintro _ ⟨e5,e6,e7,e8,rfl⟩;let fz:∀{Yx:List Stmt}{N:Ga->Prop}{T:RT},WS (eK eo P w K mg base J5 "law" (ao oQ) f XH A outer s H E).gF Yx [.im cO ns,.im (ae aq) [ip ns 0,ip ns 1],.im (ae au) [iQ ns bo 0,iQ ns bo 1],.im `au [YW ns 0,YW ns 1],aA bo,e5,e6,e7,e8,.no] N T->WS (eK eo P w K mg base J5 "law" (ao oQ) f XH A outer s H E).gF Yx [.im cO ns,.mu aq [ip ns 0,ip ns 1],.mu au [iQ ns bo 0,iQ ns bo 1],.im `au [YW ns 0,YW ns 1],aA bo,e5,e6,e7,e8,.no] N T:=λh=>WS.freeze 1 rfl (aM (by show 2<=_;decide)) (WS.freeze 2 rfl (aM (by show 2<=_;decide)) h);refine fz ?_;refine bA (N1:=λZ=>∃e5 e9,Z=[.im cO ns,.im (ae aq) [ip ns 0,ip ns 1],.im (ae au) [iQ ns bo 0,iQ ns bo 1],.im `au [YW ns 0,YW ns 1],aA bo,e5,e6,e7,e8,e9]) ?_ ?_
 ·refine @Ks _ _ _ _ _ _ _ _ _ _ (cz ag ag) [(0,0),(1,0),(0,0),(0,1),(1,1),(1,0),(0,1)] _ (λZ=>∃e5 e9,Z=[.im cO ns,.im (ae aq) [ip ns 0,ip ns 1],.im (ae au) [iQ ns bo 0,iQ ns bo 1],.im `au [YW ns 0,YW ns 1],aA bo,e5,e6,e7,e8,e9]) (J6 (by repeat' first | exact trivial | refine⟨⟨_,_,_,_,_,_,rfl⟩,?_⟩) (by show 7<=UZ;decide)) (d9 5 9) ⟨_,_,rfl⟩ ?_ (λ_ h=>h) rfl VR.never (λ_=>rfl)
  ·rintro y hm _ ⟨e5,e9,rfl⟩;let hj2:∃n m:Nat,n<2/\m<2/\y=((n:Int),(m:Int)):=by
    simp only[R9,SR,or_false] at hm;obtain rfl | rfl | rfl | rfl | rfl | rfl | rfl:=hm
    ·exact⟨0,0,`c,`c,rfl⟩
    ·exact⟨1,0,`c,`c,rfl⟩
    ·exact⟨0,0,`c,`c,rfl⟩
    ·exact⟨0,1,`c,`c,rfl⟩
    ·exact⟨1,1,`c,`c,rfl⟩
    ·exact⟨1,0,`c,`c,rfl⟩
    ·exact⟨0,1,`c,`c,rfl⟩
   let⟨n,m,nl,ml,rfl⟩:=hj2;let a1:bP [ip ns 0,ip ns 1] (n:Int)∣ip ns n:=by
    match n,nl with
    | 0,_=>rfl
    | 1,_=>rfl
   let a2:bP [iQ ns bo 0,iQ ns bo 1] (n:Int)∣iQ ns bo n:=by
    match n,nl with
    | 0,_=>rfl
    | 1,_=>rfl
   let a3:bP [uS ns bo n 0,uS ns bo n 1] (m:Int)∣uS ns bo n m:=by
    match m,ml with
    | 0,_=>rfl
    | 1,_=>rfl
   let a4:bP [YW ns 0,YW ns 1] (m:Int)∣YW ns m:=by
    match m,ml with
    | 0,_=>rfl
    | 1,_=>rfl
   refine aj (a9 (gu (bU (aJ CE hr (ah (aJ CW hr (ah (aL `g `aa a1) (ah (aZ.im (F4 M.list (aL `p (aa 9 rfl) a4))) (ah `T ax))) (key n m)) (ah (aL (EV.lP (aL `r `aa a2)) (aa 9 rfl) a3) ax)) ⟨_,rfl,ID _,Kx _,rfl⟩))) `aG (λ_=>aF ⟨_,_,rfl⟩))
 rintro _ ⟨e5,e9,rfl⟩;exact aj (aU jH rfl)
variable {x:Str}{C:Addr}{l:Xo}
section
variable {h:Heap}{P:Rp->Prop}{oc:`aM}{od an:Option Addr}{Zi:Array Rn}{doc pm XH ct:`aM}{t1 t2:Tok}
def An (K:W7)(mg:Rj):Prop:=∃C fi Zo,bM K C ju/\Mk K C fi/\mg "Step"∣.ref C/\dI K "__init__" "Step.__init__" uR fi Zo/\Binds K Zo xj []
def A3 (K:W7)(mg:Rj):Prop:=∃C fi Zo,bM K C gE/\Mk K C fi/\mg "Spots"∣.ref C/\dI K "__init__" "Spots.__init__" u5 fi Zo/\Binds K Zo ym []
structure Top (P:U4)(w:World)(K:W7)(mg:Rj):Prop where
 M:cb K mg
 M2:mj K mg
 M3:kE mg
 M6:tK mg
 M4:kJ mg
 RW:nI P w K mg "ROW_WORDS" dF
 SC:An K mg
 PC:A3 K mg
 MX:Def K mg "_law_mixed" G0 ["_law_script","_law_k"]
 PL:Def K mg "_law_pull" Pj ["_law_pen"]
 NM:Def K mg "_law_name" Py ["_law_number"]
 PA:Def K mg "_law_passes" L4 ["_law_items"]
 TH:Def K mg "_law_thing" Gz ["_law_pen","_law_depth","_law_loops","_law_calls"]
 LS:Def K mg "_law_list" rS ["_law_pen","_law_depth","_law_loops","_law_calls"]
 DR:Def K mg "_law_drawn" PQ ["_law_script","_law_start"]
 WD:Def K mg "_law_words" Lx ["_law_items","_law_names"]
 TX:Def K mg "_law_text" Pb ["_law_names","_law_lists"]
 IN:Def K mg "is_name" Ms ["word"]
 NB:Def K mg "name_behind" O0 ["words","word"]
 MS:Def K mg "may_stand" OS ["kind","opened"]
 RD:Def K mg "read" Jv ["text"]
 CS:Def K mg "closing_steps" Qk ["steps"]
 AR:Def K mg "around" PK ["steps","number","kind"]
 LF:Def K mg "leads_from" Qh ["steps","closing","number"]
 LI:Def K mg "leads_in" J2 ["steps"]
 PI:Def K mg "parts_in" KH ["steps"]
 ST:Def K mg "stands_in" Pu ["steps","leads"]
 RI:Def K mg "rows_in" OY ["steps","leads","stands"]
 NW:Def K mg "name_words" LL ["spots","parts"]
 NA:Def K mg "named_again" GH ["spots"]
 CA:Def K mg "called_astray" Ql ["spots"]
 CT:Def K mg "come_to" GQ ["spots"]
 NC:Def K mg "not_come_to" Dv ["spots"]
 NL:Def K mg "not_called" G8 ["spots"]
 EB:Def K mg "ended_at_begin" Le ["spots"]
 RB:Def K mg "rows_beyond" LX ["spots"]
 PL2:Def K mg "places_in" K5 ["spots","part"]
 PY:Def K mg "places_beyond" DA ["spots"]
 PB:Def K mg "parts_beyond" P1 ["spots"]
 HI:Def K mg "hindrances" P9 ["spots"]
 NP:Def K mg "need_program" O2 ["text"]
 NU:Def K mg "_law_numbered" sD ["_law_items","_law_keys"]
 EN:Def K mg "_law_entry" Qe ["_law_items","_law_j","_law_behind","_law_loop"]
 RO:Def K mg "_law_rows" rX ["_law_items","_law_behind","_law_loop","_law_rows_here"]
 MP:Def K mg "_law_mapped" BK ["_law_lists"]
 SM:Def K mg "_law_same" Ha ["_law_told","_law_due"]
 WB:Def K mg "_law_web" Jt ["_law_mapped_here"]
 GG:Def K mg "_law_gone" xm ["_law_mapped_here","_law_answers_here","_law_bound"]
 RV:Def K mg "rows_leaving" JV ["web","part"]
 IW:Def K mg "is_whole" Qq ["value"]
 AW:Def K mg "are_whole" C7 ["values"]
 NQ:Def K mg "need_answers" Gn ["answers","bound"]
 AB:Def K mg "at_begin" Qb ["part"]
 GO:Def K mg "go" GF ["stack","row"]
 PA2:Def K mg "part_at" EO ["spots","number"]
 WO:Def K mg "web_of" zu ["text"]
 WJ:Def K mg "walked" Gk ["text","answers","bound"]
 AN:Def K mg "_law_answers" P6 ["_law_script","_law_k"]
theorem J4 {P:U4}(T:Top P w K mg)(F:dI K "law" "law" oQ f fd):fb P w K mg base eo 18 f fd ["_law_script"] (aQ xE K):=by
 let M:=T.M;let M2:=T.M2;let M3:=T.M3;let M6:=T.M6;let M4:=T.M4;let⟨C,fi,Zo,HC,MK,hMg,FI,bi⟩:=T.SC;let⟨D,fj,fdj,HD,MD,hMd,FJ,bj⟩:=T.PC;let GS:A8 P w K mg base C:=⟨HC,⟨fi,Zo,MK,OM HC FI,bi⟩,hMg⟩;let MX:=MI (P:=P) (w:=w) (base:=base) M T.MX;let PL:=MR (P:=P) (w:=w) (base:=base) MX T.PL;let NM:=Od (P:=P) (w:=w) (base:=base) M T.NM;let⟨_,_,F1,m1,b1⟩:=T.PA;let PA:=Om (P:=P) (w:=w) (base:=base) F1 m1 b1 5;let⟨_,_,FTH,mTH,bTH⟩:=T.TH;let⟨_,_,F1,m1,b1⟩:=T.LS;let LS:=G5 (P:=P) (w:=w) (base:=base) M PL NM PA F1 m1 b1 FTH mTH bTH 4;let DR:=OJ (P:=P) (w:=w) (base:=base) M PL NM LS T.DR;let⟨_,_,F1,m1,b1⟩:=T.WD;let WD:=OE (P:=P) (w:=w) (base:=base) F1 m1 b1 5;let TX:=M1 (P:=P) (w:=w) (base:=base) M WD T.TX;let IN:=Nb (P:=P) (w:=w) (base:=base) M M2 T.IN;let NB:=Nx (P:=P) (w:=w) (base:=base) M IN T.NB;let MS:=Oq (P:=P) (w:=w) (base:=base) M2 T.MS;let RD:=Oa (P:=P) (w:=w) (base:=base) M M2 GS MS NB T.RD;let CS:=Of (P:=P) (w:=w) (base:=base) M M2 HC T.CS;let AR:=Og (P:=P) (w:=w) (base:=base) HC T.AR;let LF:=Oz (P:=P) (w:=w) (base:=base) HC AR T.LF;let LI:=MH (P:=P) (w:=w) (base:=base) M CS LF T.LI;let PI:=OB (P:=P) (w:=w) (base:=base) M HC CS T.PI;let ST:=OD (P:=P) (w:=w) (base:=base) M HC T.RW T.ST;let RI:=MG (P:=P) (w:=w) (base:=base) M HC T.RW T.RI;let GP:w8 P w K mg base C D:=⟨HD,⟨fj,fdj,MD,ND HD RD PI LI ST RI FJ,bj⟩,hMd⟩;let NW:=MO (P:=P) (w:=w) (base:=base) (C:=C) (D:=D) T.NW;let NA:=Oe (P:=P) (w:=w) (base:=base) M HD NW T.NA;let CA:=Ol (P:=P) (w:=w) (base:=base) M HC HD T.CA;let⟨_,_,F1,m1,b1⟩:=T.CT;let CT:=OF (P:=P) (w:=w) (base:=base) (C:=C) M HD F1 m1 b1;let⟨_,_,F1,m1,b1⟩:=T.NC;let NC:=OG (P:=P) (w:=w) (base:=base) M M2 HC HD CT F1 m1 b1;let NL:=OI (P:=P) (w:=w) (base:=base) M HC HD NW T.NL;let EB:=Nd (P:=P) (w:=w) (base:=base) HD NW T.EB;let RB:=Nh (P:=P) (w:=w) (base:=base) (C:=C) M3 HD T.RB;let PL2:=Ma (P:=P) (w:=w) (base:=base) (C:=C) M M3 HD T.PL2;let⟨_,_,F1,m1,b1⟩:=T.PY;let PY:=NZ (P:=P) (w:=w) (base:=base) M M3 HD NW CT PL2 F1 m1 b1;let PB:=N3 (P:=P) (w:=w) (base:=base) M3 HD NW T.PB;let HI:=NJ (P:=P) (w:=w) (base:=base) NA CA NC NL EB RB PY PB T.HI;let NP:=MN (P:=P) (w:=w) (base:=base) GP HI T.NP;let⟨_,_,F1,m1,b1⟩:=T.NU;let NU:=GZ (P:=P) (w:=w) (base:=base) F1 m1 b1 4;let EN:=NY (P:=P) (w:=w) (base:=base) M T.EN;let⟨_,_,F1,m1,b1⟩:=T.RO;let RO:=F8 (P:=P) (w:=w) (base:=base) M EN F1 m1 b1 4;let⟨_,_,F1,m1,b1⟩:=T.MP;let MP:=MV (P:=P) (w:=w) (base:=base) M NU EN RO F1 m1 b1;let⟨_,_,F1,m1,b1⟩:=T.SM
 let SM:=GK (P:=P) (w:=w) (base:=base) M M6 F1 m1 b1 3;let WB:=Nf (P:=P) (w:=w) (base:=base) M T.WB;let⟨_,_,F1,m1,b1⟩:=T.GG;let GG:=MZ (P:=P) (w:=w) (base:=base) M WB F1 m1 b1;let RV:=N9 (P:=P) (w:=w) (base:=base) true M T.RV;let IW:=OC (P:=P) (w:=w) (base:=base) M M4 T.IW;let⟨_,_,F1,m1,b1⟩:=T.AW;let AW:=N7 (P:=P) (w:=w) (base:=base) M M4 IW F1 m1 b1;let⟨_,_,F1,m1,b1⟩:=T.NQ;let NQ:=Nl (P:=P) (w:=w) (base:=base) M M4 IW AW F1 m1 b1;let AB:=Nc (P:=P) (w:=w) (base:=base) M3 T.AB;let GO:=Na (P:=P) (w:=w) (base:=base) M3 M4 AB T.GO;let PA2:=Kh (P:=P) (w:=w) (base:=base) (C:=C) M HD T.PA2;let⟨_,_,F1,m1,b1⟩:=T.WO;let WO:=OH (P:=P) (w:=w) (base:=base) M M4 HD NP PL2 PA2 F1 m1 b1;let⟨_,_,F1,m1,b1⟩:=T.WJ;let WJ:=N8 (P:=P) (w:=w) (base:=base) M M4 WO NQ RV AB GO F1 m1 b1;let AN:=Ot (P:=P) (w:=w) (base:=base) M MX T.AN;exact Nm M MX DR TX MP GG AN WJ SM F
theorem rW {xs:Rm}{g:Addr}{gd:Option Addr}{gn:Nat}{gs:Array Rn}{XF:Array Value}(KX:K.In h)(G:h.Ns U2 mg)(a:W8 K U2 x∣(some (.ref g)))(l:K.lookup g∣⟨.type "tuple",gd,.seq XF gn,gs⟩)(z:XF.size<=UZ)(v:Vals (xs.map V.str) XF.toList):tU K mg x xs:=⟨g,_,_,_,Xb KX G a,l,rfl,rfl,z,v⟩
theorem Iq (KX:K.In h)(G:h.Ns U2 mg)(b1:W8 K U2 "len"∣none)(b2:W8 K U2 "min"∣none)(b3:W8 K U2 "range"∣none)(b4:W8 K U2 "int"∣none)(b5:W8 K U2 "list"∣none)(b6:W8 K U2 "zip"∣none)(b7:W8 K U2 "enumerate"∣none)(b8:W8 K U2 "reversed"∣none)(b9:W8 K U2 "any"∣none)(b10:W8 K U2 "all"∣none):cb K mg:=
 ⟨W9 KX G b1,W9 KX G b2,W9 KX G b3,W9 KX G b4,W9 KX G b5,W9 KX G b6,W9 KX G b7,W9 KX G b8,W9 KX G b9,W9 KX G b10⟩
theorem FD (KX:K.In h)(G:h.Ns U2 mg){s1_1 s1_2 s1_3 s1_4 s1_5 s2_1 s2_2 s2_3 s2_4 s2_5 s2_6 s3_1 s3_2 s3_3 s3_4 s4_1 s4_2:Tok}{g1 g2 g3 g4:Addr}{d1 d2 d3 d4:Option Addr}{n1 n2 n3 n4:Nat}{e1 e2 e3 e4:Array Rn}(a1:W8 K U2 "MOST_LETTERS"∣(some (.int 8 t1)))(a2:W8 K U2 "NO_STEP"∣(some (.int (-1) t2)))(c1:W8 K U2 "NAMED"∣(some (.ref g1)))(l1:K.lookup g1∣⟨.type "tuple",d1,.seq #[.str "part" s1_1,.str "do" s1_2,.str "call" s1_3,.str "if" s1_4,.str "while" s1_5] n1,e1⟩)(c2:W8 K U2 "SENTENCES"∣(some (.ref g2)))(l2:K.lookup g2∣⟨.type "tuple",d2,.seq #[.str "do" s2_1,.str "call" s2_2,.str "if" s2_3,.str "while" s2_4,.str "leave" s2_5,.str "back" s2_6] n2,e2⟩)(c3:W8 K U2 "OPENING"∣(some (.ref g3)))(l3:K.lookup g3∣⟨.type "tuple",d3,.seq #[.str "part" s3_1,.str "if" s3_2,.str "else" s3_3,.str "while" s3_4] n3,e3⟩)(c4:W8 K U2 "CLOSING"∣(some (.ref g4)))(l4:K.lookup g4∣⟨.type "tuple",d4,.seq #[.str "else" s4_1,.str "end" s4_2] n4,e4⟩):mj K mg:=
 ⟨⟨_,Xb KX G a1⟩,⟨_,Xb KX G a2⟩,rW KX G c1 l1 (by show 5<=UZ;decide) (.cons ⟨s1_1,rfl⟩ (.cons ⟨s1_2,rfl⟩ (.cons ⟨s1_3,rfl⟩ (.cons ⟨s1_4,rfl⟩ (.cons ⟨s1_5,rfl⟩ (.nil)))))),rW KX G c2 l2 (by show 6<=UZ;decide) (.cons ⟨s2_1,rfl⟩ (.cons ⟨s2_2,rfl⟩ (.cons ⟨s2_3,rfl⟩ (.cons ⟨s2_4,rfl⟩ (.cons ⟨s2_5,rfl⟩ (.cons ⟨s2_6,rfl⟩ (.nil))))))),rW KX G c3 l3 (by show 4<=UZ;decide) (.cons ⟨s3_1,rfl⟩ (.cons ⟨s3_2,rfl⟩ (.cons ⟨s3_3,rfl⟩ (.cons ⟨s3_4,rfl⟩ (.nil))))),rW KX G c4 l4 (by show 2<=UZ;decide) (.cons ⟨s4_1,rfl⟩ (.cons ⟨s4_2,rfl⟩ (.nil)))⟩
theorem El (KX:K.In h)(G:h.Ns U2 mg){t3 t4 t5:Tok}(a1:W8 K U2 "BEGIN"∣(some (.int 0 t1)))(a2:W8 K U2 "END"∣(some (.int 1 t2)))(a3:W8 K U2 "MOST_PARTS"∣(some (.int 4 t3)))(a4:W8 K U2 "MOST_PLACES"∣(some (.int 16 t4)))(a5:W8 K U2 "MOST_PROGRAM_ROWS"∣(some (.int 30 t5))):kE mg:=
 ⟨⟨_,Xb KX G a1⟩,⟨_,Xb KX G a2⟩,⟨_,Xb KX G a3⟩,⟨_,Xb KX G a4⟩,⟨_,Xb KX G a5⟩⟩
theorem EY (KX:K.In h)(G:h.Ns U2 mg){t3 t4 t5 t6:Tok}(b1:W8 K U2 "isinstance"∣none)(b2:W8 K U2 "bool"∣none)(b3:W8 K U2 "max"∣none)(a1:W8 K U2 "NO_CALL"∣(some (.int (-1) t1)))(a2:W8 K U2 "FIRST_PART"∣(some (.int 0 t2)))(a3:W8 K U2 "YES"∣(some (.int 1 t3)))(a4:W8 K U2 "ENDED"∣(some (.str "ended" t4)))(a5:W8 K U2 "BOUND"∣(some (.str "bound" t5)))(a6:W8 K U2 "WANTING"∣(some (.str "wanting" t6))):kJ mg:=
 ⟨W9 KX G b1,W9 KX G b2,W9 KX G b3,⟨_,Xb KX G a1⟩,⟨_,Xb KX G a2⟩,⟨_,Xb KX G a3⟩,⟨_,Xb KX G a4⟩,⟨_,Xb KX G a5⟩,⟨_,Xb KX G a6⟩⟩
theorem FF (KX:K.In h)(G:h.Ns U2 mg)(b1:W8 K U2 "isinstance"∣none)(b2:W8 K U2 "bool"∣none)(b3:W8 K U2 "str"∣none)(b4:W8 K U2 "tuple"∣none):tK mg:=⟨W9 KX G b1,W9 KX G b2,W9 KX G b3,W9 KX G b4⟩
theorem al1 (h:∀a,P [a]):∀us:Rp,us.length=1->P us
 | [a],_=>h a
theorem al2 (h:∀a b,P [a,b]):∀us:Rp,us.length=2->P us
 | [a,b],_=>h a b
theorem al3 (h:∀a b c,P [a,b,c]):∀us:Rp,us.length=3->P us
 | [a,b,c],_=>h a b c
theorem al4 (h:∀a b c d,P [a,b,c,d]):∀us:Rp,us.length=4->P us
 | [a,b,c,d],_=>h a b c d
theorem dm {st:Stmt}{ps:Rm}{kV:`aM}(KX:K.In h)(G:h.Ns U2 mg)(a:W8 K U2 x∣(some (.ref f)):=by k_is)(l:K.lookup f∣⟨oc,od,.func (Xd x x (fA st) (bD st) (ao st) .none kV doc pm an XH ct),Zi⟩:=by k_is)(c:Xh K XH x=true:=by k_is)(k:Xc K (.ref f)=true:=by k_is)(b:∀(kV doc pm:`aM)(an:Option Addr)(XH ct:`aM)(us:Rp),us.length=ps.length->bindArgs (Xd x x (fA st) (bD st) (ao st) .none kV doc pm an XH ct) ⟨us,[]⟩=pure (ps.zip us):=by first | exact λ_ _ _ _ _ _=>K1.al1 λ_=>rfl | exact λ_ _ _ _ _ _=>K1.al2 λ_ _=>rfl | exact λ_ _ _ _ _ _=>K1.al3 λ_ _ _=>rfl | exact λ_ _ _ _ _ _=>K1.al4 λ_ _ _ _=>rfl):Def K mg x st ps:=KR KX G a l c k b
theorem HL {P:U4}(KX:K.In h)(G:h.Ns U2 mg){d v1 v2 v3 v4:Addr}{k1 k2 k3 k4 s1_1 s2_1 s3_1 s3_2 s4_1 s4_2:Tok}{ep n1 n2 n3 n4:Nat}{d1 d2 d3 d4:Option Addr}{l1 l2 l3 l4:Array Rn}(a:W8 K U2 "ROW_WORDS"∣(some (.ref d)))(l:K.lookup d∣⟨.type "dict",none,.dict #[⟨WU w.params "do",.str "do" k1,.ref v1⟩,⟨WU w.params "call",.str "call" k2,.ref v2⟩,⟨WU w.params "if",.str "if" k3,.ref v3⟩,⟨WU w.params "while",.str "while" k4,.ref v4⟩] ep, #[]⟩)(sm:(d==Vh)=false)(u1:K.lookup v1∣⟨.type "tuple",d1,.seq #[.str "do" s1_1] n1,l1⟩)(u2:K.lookup v2∣⟨.type "tuple",d2,.seq #[.str "call" s2_1] n2,l2⟩)(u3:K.lookup v3∣⟨.type "tuple",d3,.seq #[.str "yes" s3_1,.str "no" s3_2] n3,l3⟩)(u4:K.lookup v4∣⟨.type "tuple",d4,.seq #[.str "yes" s4_1,.str "no" s4_2] n4,l4⟩):nI P w K mg "ROW_WORDS" dF:=by
 refine⟨d,_,[((Sum.inr "do":Key),.ref v1),((Sum.inr "call":Key),.ref v2),((Sum.inr "if":Key),.ref v3),((Sum.inr "while":Key),.ref v4)],Xb KX G a,l,⟨_,_,⟨rfl,rfl,rfl⟩,rfl,λe he=>?_,?_,by show Sw [(Sum.inr "do":Key),(Sum.inr "call":Key),(Sum.inr "if":Key),(Sum.inr "while":Key)];decide⟩,sm,?_⟩
 ·simp only[List.mem_toArray,R9,SR,or_false] at he;obtain rfl | rfl | rfl | rfl:=he
  ·exact⟨Sum.inr "do",eC P w "do" k1,rfl⟩
  ·exact⟨Sum.inr "call",eC P w "call" k2,rfl⟩
  ·exact⟨Sum.inr "if",eC P w "if" k3,rfl⟩
  ·exact⟨Sum.inr "while",eC P w "while" k4,rfl⟩
 ·exact .cons (eC P w "do" k1) rfl (.cons (eC P w "call" k2) rfl (.cons (eC P w "if" k3) rfl (.cons (eC P w "while" k4) rfl (.nil))))
 ·exact .cons ⟨rfl,v1,_,_,_,rfl,u1,rfl,rfl,(by show 1<=UZ;decide),.cons ⟨s1_1,rfl⟩ (.nil)⟩ (.cons ⟨rfl,v2,_,_,_,rfl,u2,rfl,rfl,(by show 1<=UZ;decide),.cons ⟨s2_1,rfl⟩ (.nil)⟩ (.cons ⟨rfl,v3,_,_,_,rfl,u3,rfl,rfl,(by show 2<=UZ;decide),.cons ⟨s3_1,rfl⟩ (.cons ⟨s3_2,rfl⟩ (.nil))⟩ (.cons ⟨rfl,v4,_,_,_,rfl,u4,rfl,rfl,(by show 2<=UZ;decide),.cons ⟨s4_1,rfl⟩ (.cons ⟨s4_2,rfl⟩ (.nil))⟩ (.nil))))
theorem step_mk (KX:K.In h)(G:h.Ns U2 mg){kV:`aM}(aC:W8 K U2 "Step"∣(some (.ref C)))(a1:Xa K (.ref C) "__init__"∣(some (.ref f)))(i1:Xr K (.ref f)=true)(l1:K.lookup f∣⟨oc,od,.func (Xd "__init__" "Step.__init__" (fA uR) (bD uR) (ao uR) .none kV doc pm an XH ct),Zi⟩)(c1:Xh K XH "Step.__init__"=true)(k1:Xc K (.ref f)=true)(pg:Xj K C Str.empty=true)(hd:Xi K C=true)(po:Xk K C=true)(sa:Xa K (.ref C) "__setattr__"∣(some (.builtin "object.__setattr__")))(mk:Xl K C=true)(kc:Xc K (.ref C)=true)(o1:Xa K (.ref C) "kind"∣none)(o2:Xa K (.ref C) "name"∣none)(o3:Xa K (.ref C) "word"∣none)(o4:Xa K (.ref C) "within"∣none):An K mg:=by
 refine⟨C,f,_,⟨⟨pg,hd,po,sa⟩,λx hx=>?_⟩,⟨mk,a1,i1,kc⟩,Xb KX G aC,lH (st:=uR) l1 c1 k1,(lH (st:=uR) l1 c1 k1).binds (ps:=xj) λ_ _ _ _ _ _ us hl=>match us,hl with | [_,_,_,_,_],_=>rfl⟩;simp only[ju,R9,SR,or_false] at hx;obtain rfl | rfl | rfl | rfl:=hx
 ·exact o1
 ·exact o2
 ·exact o3
 ·exact o4
theorem IE (KX:K.In h)(G:h.Ns U2 mg){kV:`aM}(aC:W8 K U2 "Spots"∣(some (.ref C)))(a1:Xa K (.ref C) "__init__"∣(some (.ref f)))(i1:Xr K (.ref f)=true)(l1:K.lookup f∣⟨oc,od,.func (Xd "__init__" "Spots.__init__" (fA u5) (bD u5) (ao u5) .none kV doc pm an XH ct),Zi⟩)(c1:Xh K XH "Spots.__init__"=true)(k1:Xc K (.ref f)=true)(pg:Xj K C Str.empty=true)(hd:Xi K C=true)(po:Xk K C=true)(sa:Xa K (.ref C) "__setattr__"∣(some (.builtin "object.__setattr__")))(mk:Xl K C=true)(kc:Xc K (.ref C)=true)(o1:Xa K (.ref C) "steps"∣none)(o2:Xa K (.ref C) "parts"∣none)(o3:Xa K (.ref C) "leads"∣none)(o4:Xa K (.ref C) "stands"∣none)(o5:Xa K (.ref C) "rows"∣none):A3 K mg:=by
 refine⟨C,f,_,⟨⟨pg,hd,po,sa⟩,λx hx=>?_⟩,⟨mk,a1,i1,kc⟩,Xb KX G aC,lH (st:=u5) l1 c1 k1,(lH (st:=u5) l1 c1 k1).binds (ps:=ym) λ_ _ _ _ _ _ us hl=>match us,hl with | [_,_],_=>rfl⟩;simp only[gE,R9,SR,or_false] at hx;obtain rfl | rfl | rfl | rfl | rfl:=hx
 ·exact o1
 ·exact o2
 ·exact o3
 ·exact o4
 ·exact o5
theorem Mb {fa:Addr}{kV:`aM}(KX:K.In h)(G:h.Ns U2 mg)(hfa:mg "law"∣.ref fa)(T:Top l.prog w K mg)(a:W8 K U2 "law"∣(some (.ref f)))(lk:K.lookup f∣⟨oc,od,.func (Xd "law" "law" (fA oQ) (bD oQ) (ao oQ) .none kV doc pm an XH ct),Zi⟩)(c:Xh K XH "law"=true)(k:Xc K (.ref f)=true):
 ∃fd:U8,(∀(s:U0)(v:`aM),V6 s fd ⟨[v],[]⟩ [("_law_script",v)])/\∀base:Heap,K.In base->base.Ns U2 mg->fb l.prog w K mg base eo 18 fa fd ["_law_script"] (aQ xE K):=by
 let e:=hfa.symm.trans (Xb KX G a);cases e
 exact⟨Xd "law" "law" (fA oQ) (bD oQ) (ao oQ) .none kV doc pm an XH ct,λs v=>.of_eq rfl,λbase _ _=>J4 T (lH lk c k)⟩
theorem walk {q:U4}{loose:Rm}{XP:(Rj)->Heap->Prop}{YP:World->Heap->Prop}{d:DefRec}{K:Params->W7}(hn:l.most∣63)(hdf:d.params.defaults=[])(hY:∀(w:World)(h:Heap),YP w h->(K w.params).In h)(F:∀(w:World)(mg:Rj)(fa:Addr)(h:Heap),(K w.params).In h->h.Ns U2 mg->mg d.name∣.ref fa->
  ∃fd:U8,(∀(s:U0)(u:`aM),V6 s fd ⟨[u],[]⟩ [("_law_script",u)])/\∀base:Heap,(K w.params).In base->base.Ns U2 mg->fb l.prog w (K w.params) mg base eo 18 fa fd ["_law_script"] (aQ xE (K w.params))):
 PySem.W.WalkO q loose XP YP l.row.toRowW d [] (λf vs=>PySem.call f vs):=
 L2.ER (n:=63) (k:=18) (x:="_law_script") (CX:=λ_=>eo) (sp:=λw=>aQ xE (K w.params)) hn `c hdf ⟨rfl,`c,`c⟩ hY F
   (λw H a ns hl Zc _ hS=>⟨H,[⟨cO,ns⟩],_,av.refl _,.cons ⟨a,rfl,hS,hl⟩ .nil,⟨ns,rfl,hl,Zc,rfl⟩,λv H' R' _ t=>by let⟨y,hy,rfl⟩:=t;exact hy⟩) λ_ _ _ _ _ z=>z
end
end K1
open PySem PySem.W PyProof.Rows
namespace PySem.W.Fast
def tw4519521862248731655:=0
def tw6712221184231852101:=0
def tw8098219421397884864:=0
def tw7690195665247724612:=0
def tw5331026627985033235:=0
def tw1814102847722477872:=0
def tw13219043168673649994:=0
def tw14423249225129670689:=0
def tw7524917647660997772:=0
def tw15597889880004970471:=0
def tw15314195569425622863:=0
def tw11705475220240158670:=0
def tw4660755464675469267:=0
def tw1687045978301185216:=0
def tw4903195058045638212:=0
def tw5310708864776412118:=0
def tw16020230585354351911:=0
def tw6340159419584327667:=0
def tw12669020011253241382:=0
def tw17566023439128891327:=0
def tw312161110980595417:=0
def tw17264017328852495081:=0
def tw8909773159579130882:=0
def tw5310665146846840351:=0
def tw2914905067699589752:=0
def tw1042634933906450906:=0
def tw9669022166703497419:=0
def tw172245513913234134:=0
def tw10875755874833049157:=0
def tw14064143746796114787:=0
def tw799098099851799879:=0
def tw10698133832869978328:=0
def tw1037569025859739784:=0
def tw13531517252952209373:=0
def tw15854289737774440531:=0
def tw9600263464653737382:=0
def tw8189067959237752642:=0
def tw9366619945634118246:=0
def tw3436122698535223446:=0
def tw1325057730484933219:=0
def tw16070153098269484157:=0
def tw17694012525991607184:=0
def tw1032011914719534387:=0
def tw6271990547749024445:=0
def tw16814349028823777728:=0
def tw713256006269467922:=0
def tw300209761308530020:=0
def tw4731593193146285328:=0
def tw16123127438057596117:=0
def tw16887298232380625312:=0
def tw3478179033823633979:=0
def tw2192595700253742738:=0
def tw5296670568237641068:=0
def tw6036011189105612876:=0
def tw794564773285490696:=0
def tw6336242930368938627:=0
def tw13918765374255262215:=0
def tw15122169945689628848:=0
def tw7407046269315447608:=0
def tw3782343806440183696:=0
def tw5290774735529185246:=0
def tw6605759140501408828:=0
def tw12918541310418684506:=0
def tw477487402656149621:=0
def tw10562719302670345788:=0
def tw17037984730217254080:=0
def tw8624803894728374197:=0
def tw11582969862866011457:=0
def tw12913856652938245:=0
def tw5264243170147238399:=0
def tw13121690388482507369:=0
def tw12413736566404179683:=0
def tw16940710699350839351:=0
def tw3943421902170230273:=0
def tw17933600309794892322:=0
def tw9528413501230701331:=0
def tw11071851985164907655:=0
def tw7981824779851987257:=0
def tw851002026219646003:=0
def tw3669646328707779504:=0
def tw11558848196597164638:=0
def tw4788127021105331618:=0
def tw2731067217416266948:=0
def tw8201684898471561466:=0
def tw11387504611381231747:=0
def tw4254986152217747025:=0
def tw9143879270733835696:=0
def tw2853692016080469188:=0
def tw17539140698542316625:=0
def tw10391274397373626016:=0
def tw15716982580241599611:=0
def tw434672969039672017:=0
def tw12881181515936324210:=0
def tw17183538522124458117:=0
def tw5271894267469580257:=0
def tw8916771749382421049:=0
def tw14503418456198643105:=0
def tw1688579732384981520:=0
def tw96770357521620931:=0
def tw18100015223066319427:=0
def tw1097994777894816248:=0
def tw15597519082008624898:=0
def tw2828821918912619523:=0
def tw3914689674313107103:=0
def tw9562005836045369015:=0
def tw5524857805231129483:=0
def tw8829373758260543640:=0
def tw9713113999635063658:=0
def tw14367277850199875058:=0
def tw11153895558397831385:=0
def tw14231579371884513945:=0
def tw6092804989991441301:=0
def tw5223282262466751697:=0
def tw17422163144845472995:=0
def tw5071583584503252176:=0
def tw18408893008117404190:=0
def tw9269577534369610440:=0
def tw10902782033594524681:=0
def tw1471285916649008007:=0
def tw15612721421297676574:=0
def tw16809247199033363842:=0
def tw1743549789745306929:=0
def tw16124129090615480777:=0
def tw12202796163934172863:=0
def tw2217269552309883829:=0
def tw9499391574004247622:=0
def tw17639528939481873368:=0
def tw4670305620003123435:=0
def tw10537715666495342183:=0
def tw14027300588031749458:=0
def tw16763201859671916405:=0
def tw7878823586274330613:=0
def tw6633861705071766019:=0
def tw13011341313213005755:=0
def tw10552147935526931513:=0
def tw8972384863212999265:=0
def tw7709255329732323824:=0
def tw4333864678447301146:=0
def tw868134699266975876:=0
def tw619244452287836067:=0
def tw13572751741193442584:=0
def tw6810921649262131001:=0
def tw1780462380361907745:=0
def tw3666409764024126593:=0
def tw24557807792654721:=0
def tw10293395635706722011:=0
def tw14022867578168156590:=0
def tw17564544392320319141:=0
def tw16113841015138952681:=0
def tw12528404591676020301:=0
def tw13679243282388360844:=0
def tw5974032193292413845:=0
def tw16211199232396308632:=0
def tw15425418942483089689:=0
def tw12510262857631766681:=0
def tw1940042227745365646:=0
def tw12022223004553726247:=0
def tw15794659766435537463:=0
def tw14392734596369154845:=0
def tw9051120715327257598:=0
def tw105436984286466471:=0
def tw1288263279848364845:=0
def tw8900157208354248632:=0
def tw1756443814903181545:=0
def tw651775757968342948:=0
def tw10602039823038833820:=0
def tw8296125876558136261:=0
def tw1990677756116851757:=0
def tw18387242083188816305:=0
def tw355230181484374640:=0
def tw4272070319230965633:=0
def tw6978972650499406174:=0
def tw834414450426672480:=0
def tw3099257933783130094:=0
def tw2408079210801723155:=0
def tw6176212598813752146:=0
def tw12266896977465332908:=0
def tw6970047966924636050:=0
def tw7553502148833281028:=0
def tw3182124031436201136:=0
def tw9387809349101580075:=0
def tw7376525916491978654:=0
def tw540481494224181350:=0
def tw2360190959662675586:=0
def tw12623245508518112299:=0
def tw10431921764752746344:=0
def tw225624262806072235:=0
def tw12653645680772905175:=0
def tw11768314783394233028:=0
def tw5309719316182731213:=0
def tw11932064133969249677:=0
def tw14165357263164527671:=0
def tw6199491142742750378:=0
def tw6601970461963456882:=0
def tw9898446117818272423:=0
def tw6147802364669015591:=0
def tw9445433690998467029:=0
def tw8368326861237666123:=0
def tw15326509148251695701:=0
def tw8890889302188006324:=0
def tw8350617601295346106:=0
def tw10332096871150862104:=0
def tw7001009559180993793:=0
def tw8715511906274125380:=0
def tw7841556344209000247:=0
def tw380879077730150800:=0
def tw3739277099813676372:=0
def tw17824757783566945989:=0
def tw13668936469242137072:=0
def tw13382547708885801329:=0
def tw10724962479208996614:=0
def tw5735369871756839389:=0
def tw3784461380590562766:=0
def tw2184867550524167664:=0
def tw13268031977171134624:=0
def tw9476883685098230815:=0
def tw16197779655304945403:=0
def tw15560373453590212816:=0
def tw13752368656714888310:=0
def tw13519119646010586401:=0
def tw13074753057756265719:=0
def tw15913243942115012053:=0
def tw16782106832610568772:=0
def tw5032354907426946768:=0
def tw13895579068645970795:=0
def tw1359156602107133112:=0
def tw10572109324005744675:=0
def tw7016978875880692178:=0
def tw15177536823231357116:=0
def tw1022566300576200639:=0
def tw16908229284038002765:=0
def tw12629581836922221736:=0
def tw3423270502257515749:=0
def tw4335590685408578608:=0
def tw5296514108078624159:=0
def tw9357798174260173103:=0
def tw7461039875728724563:=0
def tw11658438584519246951:=0
def tw522939231639557930:=0
def tw4460690000640587730:=0
def tw18133797166992314754:=0
def tw12137838773038065566:=0
def tw17381917663648858900:=0
def tw8039996044627640279:=0
def tw3393836203528846340:=0
def tw17835871834298164160:=0
def tw7415478626914066457:=0
def tw8904700615299225007:=0
def tw12317066420961191954:=0
def tw3224062962061746136:=0
end PySem.W.Fast
end
set_option maxRecDepth 100000 in
set_option maxHeartbeats 0 in
theorem PySem.Challenge.cw_fewcounters_k74_whole_two_programs_by_tu_holds : PySem.Challenge.rw_fewcounters_k74_whole_two_programs_by_tu.Holds := by
 w_on;o_law;k_head;(case hw=>w_witness2)
 k_fill
 refine K1.walk (l:=PySem.Challenge.rw_fewcounters_k74_whole_two_programs_by_tu) rfl rfl (λw h Y=>PySem.W.kIn_of Y) ?F
 case F=>
  intro w mg fa h KX G hmg;have M:K1.cb (L2.qk KX) mg:=by
   dsimp only[L2.qk];refine' K1.Iq KX G ?b1 ?b2 ?b3 ?b4 ?b5 ?b6 ?b7 ?b8 ?b9 ?b10
   (case b1=>k_is);(case b2=>k_is);(case b3=>k_is);(case b4=>k_is);(case b5=>k_is);(case b6=>k_is);(case b7=>k_is);(case b8=>k_is);(case b9=>k_is);(case b10=>k_is)
  have M2:K1.mj (L2.qk KX) mg:=by
   dsimp only[L2.qk];refine' K1.FD KX G ?a1 ?a2 ?c1 ?l1 ?c2 ?l2 ?c3 ?l3 ?c4 ?l4
   (case a1=>k_is);(case a2=>k_is);(case c1=>k_is);(case l1=>k_is);(case c2=>k_is);(case l2=>k_is);(case c3=>k_is);(case l3=>k_is);(case c4=>k_is);(case l4=>k_is)
  have M4:K1.kJ mg:=by
   refine' K1.EY KX G ?b1 ?b2 ?b3 ?a1 ?a2 ?a3 ?a4 ?a5 ?a6
   (case b1=>k_is);(case b2=>k_is);(case b3=>k_is);(case a1=>k_is);(case a2=>k_is);(case a3=>k_is);(case a4=>k_is);(case a5=>k_is);(case a6=>k_is)
  have M6:K1.tK mg:=by
   refine' K1.FF KX G ?b1 ?b2 ?b3 ?b4
   (case b1=>k_is);(case b2=>k_is);(case b3=>k_is);(case b4=>k_is)
  have M3:K1.kE mg:=by
   refine' K1.El KX G ?a1 ?a2 ?a3 ?a4 ?a5
   (case a1=>k_is);(case a2=>k_is);(case a3=>k_is);(case a4=>k_is);(case a5=>k_is)
  have DRW:Fc.nI (PySem.Challenge.rw_fewcounters_k74_whole_two_programs_by_tu).prog w (L2.qk KX) mg "ROW_WORDS" K1.dF:=by
   dsimp only[L2.qk];refine' K1.HL KX G ?a ?l ?sm ?u1 ?u2 ?u3 ?u4
   (case a=>k_is);(case l=>k_is);(case sm=>rfl);(case u1=>k_is);(case u2=>k_is);(case u3=>k_is);(case u4=>k_is)
  have DSC:K1.An (L2.qk KX) mg:=by
   dsimp only[L2.qk];refine' K1.step_mk KX G ?aC ?a1 ?i1 ?l1 ?c1 ?k1 ?pg ?hd ?po ?sa ?mk ?kc ?o1 ?o2 ?o3 ?o4
   (case aC=>k_is);(case a1=>k_is);(case i1=>k_is);(case l1=>k_is);(case c1=>k_is);(case k1=>k_is);(case pg=>k_is);(case hd=>k_is);(case po=>k_is);(case sa=>k_is);(case mk=>k_is);(case kc=>k_is);(case o1=>k_is);(case o2=>k_is);(case o3=>k_is);(case o4=>k_is)
  have DPC:K1.A3 (L2.qk KX) mg:=by
   dsimp only[L2.qk];refine' K1.IE KX G ?aC ?a1 ?i1 ?l1 ?c1 ?k1 ?pg ?hd ?po ?sa ?mk ?kc ?o1 ?o2 ?o3 ?o4 ?o5
   (case aC=>k_is);(case a1=>k_is);(case i1=>k_is);(case l1=>k_is);(case c1=>k_is);(case k1=>k_is);(case pg=>k_is);(case hd=>k_is);(case po=>k_is);(case sa=>k_is);(case mk=>k_is);(case kc=>k_is);(case o1=>k_is);(case o2=>k_is);(case o3=>k_is);(case o4=>k_is);(case o5=>k_is)
  refine' K1.Mb KX G hmg ⟨M,M2,M3,M6,M4,DRW,DSC,DPC,by exact K1.dm KX G,by exact K1.dm KX G,by exact K1.dm KX G,by exact K1.dm KX G,by exact K1.dm KX G,by exact K1.dm KX G,by exact K1.dm KX G,by exact K1.dm KX G,by exact K1.dm KX G,by exact K1.dm KX G,by exact K1.dm KX G,by exact K1.dm KX G,by exact K1.dm KX G,by exact K1.dm KX G,by exact K1.dm KX G,by exact K1.dm KX G,by exact K1.dm KX G,by exact K1.dm KX G,by exact K1.dm KX G,by exact K1.dm KX G,by exact K1.dm KX G,by exact K1.dm KX G,by exact K1.dm KX G,by exact K1.dm KX G,by exact K1.dm KX G,by exact K1.dm KX G,by exact K1.dm KX G,by exact K1.dm KX G,by exact K1.dm KX G,by exact K1.dm KX G,by exact K1.dm KX G,by exact K1.dm KX G,by exact K1.dm KX G,by exact K1.dm KX G,by exact K1.dm KX G,by exact K1.dm KX G,by exact K1.dm KX G,by exact K1.dm KX G,by exact K1.dm KX G,by exact K1.dm KX G,by exact K1.dm KX G,by exact K1.dm KX G,by exact K1.dm KX G,by exact K1.dm KX G,by exact K1.dm KX G,by exact K1.dm KX G,by exact K1.dm KX G,by exact K1.dm KX G,by exact K1.dm KX G,by exact K1.dm KX G⟩ ?qa ?qb ?qc ?qd
  (case qa=>k_is);(case qb=>k_is);(case qc=>k_is);(case qd=>k_is)
