import PyProof.Rows.All
import Wide.All
import OpenK.AllK
import Wide.FinOn
import Lean
import PyProof.EqAt
import PyProof.EqKinds
import PyProof.TupleCall
import PyProof.NeKinds
import PyProof.WalksEnum
import PyProof.EnumMake
import KE.KTryMore
import PyProof.NsDelKeeps
import PyProof.SumWalkG
import PyProof.SeqI3
import KE.KDictSum
import PyProof.AttrMiss
import PyProof.IsiH_list
import KE.KDictOf
import PyProof.ZipIter
import PyProof.TupleIter
import PyProof.EnumIter
import PyProof.StrCalls
import PySem.Challenge.RW_fewcounters_k67_whole_walks_broken_off
import PyProof.StrCalls2
import PyProof.StrCalls3
import PyProof.StrLawsTight
import PyProof.StrLawsChain
import PyProof.StrLawsJoin
import PyProof.Rows.StrItems
import PyProof.StrWalks
import PyProof.FString5
import PyProof.Rows.Range3
import KE.KRevIter
import PyProof.MeetsDict
import PyProof.Rows.TupIter
set_option Elab.async false
set_option linter.all false
set_option maxRecDepth 100000
set_option maxHeartbeats 4000000
noncomputable section
open Lean in
def cvP:Nat→Syntax→MacroM (TSyntax `rcasesPat)
 | 0,_=>Macro.throwUnsupported
 | n+1,s=>match s with
  | `(⟨$xs,*⟩)=>do
   let l←xs.getElems.mapM λp=>do let q←cvP n p;`(Lean.Parser.Tactic.rcasesPatLo|$q:rcasesPat)
   `(rcasesPat|⟨$l,*⟩)
  | `(_)=>`(rcasesPat|_)
  | `($x:ident)=>`(rcasesPat|$x:ident)
  | _=>Macro.throwUnsupported
set_option compiler.extract_closed false
set_option hygiene false
local macro_rules|`(tactic|let ⟨$xs,*⟩:=$e)=>do {let p←cvP 9 (←`(⟨$xs,*⟩));`(tactic|obtain $p:rcasesPat:=$e)}|`(tactic|cbv)=>`(tactic|first|lia|omega)|`(tactic|let $d:letDecl)=>`(tactic|have $d:letDecl)|`($a∣$b)=>`($a=some $b)|`(~~~$e)=>`(by simpa using $e)|`(⇑$s)=>`(($s).heap.objs.size)
local macro_rules|`($n:name)=>do
 let s←`([(by cbv),(by decide +kernel),(by decide),(by simp),(aa 0 rfl),(model X.prog X.w),(aa 1 rfl),(.Name x p1),(aw XN Ls),(Inv X XR σ H s),(fst XN Ls j),(ha σ H0 R0 H R E _ λv H1 R1 E1 s1 e1=>hb σ H0 R0 H1 R1 E1 _ λu H2 R2 E2 s2 e2=>?_),(bq X scope cl C (own++fr) s H ex),(λf XU A outer s H E qs T nd hr hS=>?_),(autoParam (At X i x) cb),(aa 3 rfl),(bq X scope cl C (own++fr) s Hh ex),(aa 2 rfl),(Value->Va->Prop),(model prog w),(List α),(bf x (dB own ix Γ1)),(eW 5 rfl ev_int rfl),(λC s H ex=>⟨λXR s1 σ H v u Q I r h=>h C s _ ex XR s1 u I r,λXR s1 σ H Q I h=>h C s _ ex XR s1 I,λXR s1 σ H Q I h=>h C s _ ex XR s1 I⟩),(.Call (.Attribute `h "append" ap) [e] [] cp),(λf XU A outer st H E qs T nd hr hS=>?_),(ha σ H0 R0 H R E _ λv H1 R1 E1 s1 e1=>?_),(bK XN Ls),(ar K σ H0 R0 H R Z),(cC XN Ls),(s1.trans s2),(List (List Th)),(λC s H ex=>aW 0),(ha σ H0 R0 H R E _ λv H1 R1 E1 s1 e1=>kl σ H0 R0 H1 R1 E1 _ λH2 R2 E2 s2=>kh σ H0 R0 H2 R2 E2 _ λH3 R3 E3 s3=>?_),(.ListComp elt [⟨target,iter,ifs,0⟩] scope pos),(λh=>aG ?_),(he σ H0 R0 H R E _ λv H1 R1 E1 s1 e1=>?_),(eN 0 (j:=2) (EV.inr (gy (EV.qB (dM 0 ev_int rfl (y:=(Sum.inr c:Rv ⊕ Int)) rfl)) ev_int)) ev_int rfl rfl rfl ?_),(dg XN Ls),(List aH),(λx=>⟨.inr rfl,.inl rfl,trivial⟩),(List V),(((X7 items.size 0 lo:Nat):Int)==0&&(1:Int)==1&&(X7 items.size items.size hi-X7 items.size 0 lo)==items.size),(λx h=>bt h),(au.refl _),(aa 4 rfl),(List Th),(a8 (ha pos XR s σ H _ I h) λus s1 ⟨vs,H1,I1,r1,q1⟩=>?_),(λx=>⟨.inr rfl,trivial⟩),(λZ hΓ=>?_),(Z[i]?∣(.ob (bC a ps))),(ap.endLine==cp.line),(∀b∈ch,(b∈X.ex∨X.s₀.heap.objs.size<=b)/\b≠X.env.locals/\(∀x c,X.env.cells.lookup x∣c->c≠b)/\∀p∈X.pn++XR,p.1≠b),(λXU A outer s H E qs T hr hS=>?_),(gR WG WH WI gL (aV hN) (aI aN br hs) X0 Yf XZ hs rfl),(λF r=>i8 F r.2.2.1 r.2.2.2.1),(λXU A outer s H vs Q E hr h=>?_),(bS ev_int),(.Subscript `h b p2),(cJ `r (ba.im (aP (r:=aq) (ak aB (ak (EV.sP (aK (EV.lP `p) ev_int (oI (i:=1) rfl))) aM)) (l2 _ _))) (aL (by simp;cbv))),(aa 5 rfl),(autoParam (Loc X.env.scope x) YV),(λC' s H ex c hc=>dy),(aZ S Ld),((fq L (Ye Ls i:Int),q0.2.1,q0.2.2)),(aa 6 rfl),((⇑s2,({cls:=.type "list",data:=.seq XT.toArray k}:Obj))),(fst XN Ls j+1),(.Name x p),(A.deeper (U4 qual (ao st) ⇑s f XU)),((∀c o,c≠z->c≠TO->c≠i1->c≠i2->s.heap.get? c∣o->h'.get? c∣o)),(rfl),(eG ns XO n),(aR (jy C D) K),(autoParam (Loc X.env.scope y) YV),(cg XN (((f+1:Nat)):Int) (w+2) (f:Int) z.2),(fK 5 rfl ev_int rfl),(aP aM (Uy _)),(if 0<ns.length then ns.getD (k%(ns.length:Int)).toNat 0 else 0),(Z[i]?∣.mu r xs),(Z[i]?∣(.ob (fN r a as xss))),(X7 items.size items.size hi-X7 items.size 0 lo),(λh=>XE h `c),(.ListComp elt [⟨tg,iter,ifs,0⟩] scope pos),(dM 1 ev_int rfl (y:=k) rfl),(aE P w K mg base "name_words" 1 (aR (y8 C D) K)),(cj XN Ls),(aE X.prog X.w X.K X.mg X.base x k (gG r S X.K)),(Value),(ha XR s σ H _ I h),(λr s'=>r= .ok (.ret (.bool true))/\OldK s₁.heap s'.heap/\s'.os=s₁.os/\U6 s'.gens),(bU I q `d),(List (Str×Addr)),(aE X.prog X.w X.K X.mg X.base x k (aR S X.K)),(List PV),(eD Ls j),(Xn x x (fA st) (bE st) (ao st) .none kV doc pm an XU ct),(.inl rfl),(ar X.K σ H0 R0 H R Z),(A.under (.builtin "type.__call__" ⟨.ref C::us,kw⟩)),(aE P w K mg base "_law_pull" 2 (gG de y6 K)),(List (Str×List Th)),(aO c ag [(Ye Ls (i+1):Int)]),(.Call (.Name "len" p) [a] [] pos),(cf K mg),(Option (Int->Pn->List Th×Pn)),(λe=>by cases e),(ah `e ax),(X.A.units+1<cLine),(Str×List Th),(aL (by simp;cbv)),(aI aN br hs)])
 let c:=n.getName.toString.toList.map λc=>if c.val<91 then c.val.toNat-39 else c.val.toNat-97
 let i:=match c with|[x]=>x|[x,y]=>52+52*x+y|_=>9999
 let a:=s.raw[1].getSepArgs
 if i<a.size then return a[i]! else Lean.Macro.throwUnsupported
set_option hygiene true
abbrev Rt:=PySem.Str->Option PySem.Value
abbrev Ru:=List (PySem.Addr×PySem.Obj)
abbrev Rv:=List Int
abbrev Rx:=List PySem.Str
abbrev Ry:=Option PySem.Value
abbrev Rz:=List PySem.Addr
abbrev RC:=List PySem.Value
abbrev RE:=List PySem.Expr
abbrev RF:=List (Int×Int)
theorem XE{a b:Prop}(h:a)(g:¬a):b:=absurd h g
theorem XF{c:Prop}[Decidable c](n:¬c){α:Type _}{t e:α}:(ite c t e)=e:=if_neg n
theorem XG{c:Prop}[Decidable c](n:c){α:Type _}{t e:α}:(ite c t e)=t:=if_pos n
theorem XH{p:Prop}[Decidable p](h:decide p=true):p:=of_decide_eq_true h
theorem XI{p:Prop}[Decidable p](h:decide p=false):¬p:=of_decide_eq_false h
theorem XJ{p:Prop}[Decidable p](h:p):decide p=true:=decide_eq_true h
theorem XM{p:Prop}[Decidable p](h:¬p):decide p=false:=decide_eq_false h
open Array renaming length_toList→RG
open Bool renaming false_ne_true→RH,and_eq_true→RJ,eq_iff_iff→RK,beq_eq_decide_eq→RL,false_eq_true→RM,or_eq_true→RN,and_true→RP
open False renaming elim→RQ
open ForInStep renaming yield→RR
open Int renaming emod_lt_of_pos→RS,emod_nonneg→RU,toNat_natCast→RX,le_refl→RY,le_trans→RZ
open List renaming getElem?_eq_some_iff→R6,getElem?_eq_getElem→R7,getD_eq_getElem?_getD→R8,length_map→R9,mem_singleton→Sa,mem_cons_of_mem→Sb,length_append→Sd,mem_cons_self→Se,getElem?_map→Sf,mem_of_getElem?→Sg,getElem?_set_self→Sh,length_cons→Si,mem_cons→Sj,mem_append_right→Sk,mem_append→Sl,range→Sm,mem_append_left→Sn,map_append→So,mem_iff_getElem?→Sr,size_toArray→Ss,append_assoc→Su,mem_map→Sv,append_nil→Sw,length_take→Sx,nodup_cons→Sz,getElem?_append_left→SD,getElem?_eq_none→SE,getElem?_set_ne→SF,getElem?_append_right→SG,length_nil→SH,Nodup→SJ,map_cons→SK,length_singleton→SN,getElem_mem→SO,filter_eq_self→SQ,length_set→SR,take_succ→SS,filter_append→SU,mem_filter→SV,take_length→SW,length_range→SX,getElem?_range→SY,nodup_append→S0,take_succ_cons→S3,not_mem_nil→S4,dropLast_concat_getLast→S5,ext_getElem?→S6,replicate→S7,nil_append→S8,foldl_cons→S9,map_map→Ta,mem_range→Tb,filter_cons_of_pos→Tc,filter_cons_of_neg→Td,flatMap_cons→Te,drop_eq_getElem_cons→Tf,foldl_append→Tg,set_set→Ti,filter_eq_nil_iff→Tj,length_replicate→Tn,flatMap_append→To,lookup→Tp,cons_append→Tq,take_of_length_le→Tr,length_zip→Ts,lookup_cons→Tt,map_congr_left→Tu,length_filter_le→Tv,take_append_drop→Tw,getElem?_replicate→Tx,find?_cons→Tz,range_succ→TB,take_zero→TC,length_drop→TJ,drop_of_length_le→TK,flatMap_singleton→TL,getElem?_zip_eq_some→TN,length_dropLast→TQ,nodup_nil→TR,getElem_of_mem→TU,length_pos_iff→TY,find?_cons_of_neg→TZ,all_eq_true→T1,filter_cons→T2,mem_flatMap→T3,map_nil→T4,of_mem_zip→T5,mem_iff_getElem→T6,filterMap_cons→T7,length_reverse→T8,sum_cons→T9,getElem_inj→Ua,length_eq_zero_iff→Ub,mem_filterMap→Uc,mem_replicate→Ud,set_cons_succ→Ue,getElem?_drop→Ug,find?_cons_of_pos→Uh,filter_map→Ui,any_cons→Uj,getElem?_reverse→Uk,filter_congr→Ul,mem_of_mem_take→Um,any_eq_true→Uo,drop_length→Uq,range'→Ur,forIn_cons→Us,map_drop→Ut,sum_append→Uu,map_singleton→Uv
open Nat renaming le_refl→Uw,le_trans→Ux,zero_le→Uy,lt_of_le_of_lt→Uz,lt_of_lt_of_le→UA,ne_of_lt→UB,lt_irrefl→UC,lt_or_ge→UD,zero_add→UE,lt_succ_self→UG,le_succ→UH,le_add_right→UI,ne_of_gt→UJ,min_le_left→UK,add_zero→UL,lt_of_le_of_ne→UM,not_lt→UN,min_le_right→UO,sub_self→UP,add_assoc→UQ,le_of_lt→UR,le_of_eq→US
open Ne renaming symm→UT
open Option renaming map_eq_some_iff→UU,some_ne_none→UW,map_some→UX,isSome_map→UY
open Prod renaming ext→UZ
open PyProof.Rows renaming boot_list→U0,callWith_type1→U1,slot_tuple_getitem→U2,boot_tuple→U3,envOfC→U4,boot_int→U5,AllBare→U6,boot_range→U7,subscriptTail→U8
open PySem renaming sizeLine→U9,Shared→Va,wpAny_bind→Vb,mainGlobals→Vc,wpAny_pure→Vd,Program→Ve,starEach→Vf,Around→Vg,swapsWith→Vh,FuncData→Vi,wpAny_truthy_bool→Vj,compareOp→Vk,mem_of_lookup→Vl,foldedSetIterable→Vm,wpAny_field→Vn,wpAny_mono→Vo,assignEach→Vp,wpAny_holding→Vq,sysModules→Vr,wpAny_callSpecial?_slot→Vs,IsPair→Vt,holding→Vu,wpAny_newObj_type→Vv,valueAt→Vw,behindInMarks→Vx,boot_len→Vy,wpAny_seqItems→Vz,bootBuiltins→VA,wpAny_setField_rec→VB,wpAny_passesOwn→VC,assign→VD,binaryOp→VE,wpAny_call_entry→VF,wpAny_pyIter_list→VG,NameKind→VH,call_meets→VI,sliceBounds→VJ,isTrue→VL,wpAny_Call_Name_kw→VM,tupleKind_room_in1→VN,getItem→VO,swapsWithSole→VP,swappedStores→VQ,standAt→VR,wpAny_execs_nil→VS,letOwnedTupleGo→VT,IsPart→VU,typeIs_str→VW,wpAny_rule→VX,wpAny_updateSeq_pair→VY,codeAny→VZ,sizeLine_eq→V0,backTo→V1,wpAny_standAt→V2,intBits_le_64→V3,wpAny_onRaise→V4,Keyword→V5,callerA→V6,pyNext→V7,codeAny_mono→V8,tupleKind→V9,PassesOwn→Wa,strValues→Wb,IsRangeIter→Wc,subscripted→Wd,setItem→We,rawInt→Wf,BindsTo→Wg,stored→Wh,dictSetDefault→Wi,GenState→Wj,IntMulOk→Wl,ZipApart→Wm,attributeBase→Wn,Str→Wo,Within→Wq
open PySem.Around renaming under→Wr
open PySem.Builtin.List renaming listTooLong→Ws
open PySem.Builtin.Range renaming rangeSize→Wt
open PySem.Builtin.Slice renaming slicePlaces→Wu,sliceAdjust→Wv
open PySem.Builtin.SmallTypes renaming nextOf→Ww,ownedTupleIsFree→Wx
open PySem.Builtin.Str renaming occurrences→Wy
open PySem.Builtin.Tuple renaming tupleExact→Wz
open PySem.Calls renaming callWith_builtin→WA,spliced_cons→WC
open PySem.Code renaming isFrame→WE
open PySem.F renaming plainAttrs_list→WG,slot_list_append→WH,type_list_append→WI,slot_tuple_iterator_next→WK,slot_zip_next→WL,args_str_split_2→WM,entry_str_split→WN,slot_str_split→WQ
open PySem.Heap renaming get?_push_of_some→WR,lt_size→WT,get?_push_size→WU,size_push→WV,SameBut→WW,get?_update_self→WX,dictOf_iff→WY,ExtBut→WZ
open PySem.Heap.SameBut renaming update→W0
open PySem.NameKind renaming cell→W2
open PySem.Obj renaming mapSeq→W3
open PySem.PassesOwn renaming never→W4
open PySem.PyData renaming keyHash→W5
open PySem.SeqAt renaming EqAt→W6
open PySem.Str renaming join→W7,ofString→W8
open PySem.Txt renaming split→W9
open PySem.Value renaming ref→Xa,none→Xb,int→Xc,str→Xd,bool→Xe,float→Xf,type→Xg
open PySem.W renaming Frag→Xh,nsIn→Xi,mg_none_of→Xj,findIn→Xk,mg_of→Xl,keepIn→Xm,fnOf→Xn,kia_one→Xo,emptyDict→Xp,instObj→Xq,codeIn→Xr,hasDictIn→Xt,plainGet→Xu,plainOver→Xv,makesIn→Xw,methodObj→Xx,takerIn→Xy,OpenLaw→Xz,lookIn→XA,kitOne→XB,isFn→XC
open True renaming intro→XD
open List(all_cons drop_zero forIn_nil filter_nil take_nil prefix_rfl range'_one map_flatMap map_id)
abbrev YJ(x:Wo):Prop:=(x==("__debug__":Wo))=false
abbrev Cd0(x:Wo):Prop:=(x==("__classdict__":Wo))=false
def vA1:Lean.Syntax:=Lean.Unhygienic.run `(Lean.Parser.Tactic.tacticSeq|first | exact Or.inl rfl | exact Or.inr (Or.inl rfl) | exact Or.inr (Or.inr rfl))
def YV:Lean.Syntax:=Lean.Unhygienic.run `(Lean.Parser.Tactic.tacticSeq|first | exact Or.inl rfl | exact Or.inr rfl)
def YU:Lean.Syntax:=Lean.Unhygienic.run `(Lean.Parser.Tactic.tacticSeq|first | exact .inl rfl | exact .inr rfl)
namespace L2
open PySem PySem.Spec PyProof.Rows
variable {a b:Addr}
abbrev Key:=Sum Int Str
noncomputable def pH:Key->Value->Bool
 | .inl k,v=>Value.isInt k v
 | .inr x,v=>Value.isStrOf x v
noncomputable def Rm (w:World):Key->Int
 | .inl k=>hashInt k
 | .inr x=>hashStr w x
theorem eo:∀{k:Key}{v:`aK},pH k v=true->(∃i t,k=Sum.inl i/\v=Xc i t)∨(∃x t,k=Sum.inr x/\v=Xd x t)
 | .inl i,v,h=>by
   let⟨t,e⟩:=Value.isInt_shape (k:=i) (v:=v) h;exact .inl ⟨i,t,rfl,e⟩
 | .inr x,v,h=>by
   let⟨t,e⟩:=Value.isStrOf_shape (x:=x) (v:=v) h;exact .inr ⟨x,t,rfl,e⟩
theorem Dd (i:Int)(t:Tok):pH (.inl i) (.int i t)=true:=by simp[pH,Value.isInt]
theorem BA (x:Str)(t:Tok):pH (.inr x) (.str x t)=true:=by simp[pH,Value.isStrOf]
theorem J4 (a b:Int):decide ((Sum.inl a:Key)=Sum.inl b)=(a==b):=by
 by_cases e:a=b
 ·subst e;simp
 ·let h:¬(Sum.inl a:Key)=Sum.inl b:=λq=>e (Sum.inl.inj q);rw[XM h];exact(beq_eq_false_iff_ne.mpr e).symm
theorem Mo (a b:Str):decide ((Sum.inr a:Key)=Sum.inr b)=decide (a=b):=by
 by_cases e:a=b
 ·subst e;simp
 ·let h:¬(Sum.inr a:Key)=Sum.inr b:=λq=>e (Sum.inr.inj q);rw[XM h,XM e]
theorem JW (a:Int)(b:Str):decide ((Sum.inl a:Key)=Sum.inr b)=false:=XM (λq=>nomatch q)
theorem LW (a:Str)(b:Int):decide ((Sum.inr a:Key)=Sum.inl b)=false:=XM (λq=>nomatch q)
def cE (prog:Ve)(w:World):PySem.KeyKind prog w Key where
 is:=pH
 hash:=Rm w
 inj:=λv a b ha hb=>by
  obtain⟨i,t,rfl,rfl⟩ | ⟨x,t,rfl,rfl⟩:=eo ha
  ·obtain⟨j,u,rfl,e⟩ | ⟨y,u,rfl,e⟩:=eo hb
   ·injection e with e1 _;rw[e1]
   ·exact nomatch e
  ·obtain⟨j,u,rfl,e⟩ | ⟨y,u,rfl,e⟩:=eo hb
   ·exact nomatch e
   ·injection e with e1 _;rw[e1]
 byValue:=λk v h=>by
  rcases eo h with⟨i,t,rfl,rfl⟩ | ⟨x,t,rfl,rfl⟩<;>rfl
 pyHash:=λhv h=>by
  obtain⟨i,t,rfl,rfl⟩ | ⟨x,t,rfl,rfl⟩:=eo hv
  ·exact wpAny_pyHash_int h
  ·exact wpAny_pyHash_str h
 eqBool:=λhu hv h=>by
  obtain⟨i,t,rfl,rfl⟩ | ⟨x,t,rfl,rfl⟩:=eo hu
  ·obtain⟨j,u,rfl,rfl⟩ | ⟨y,u,rfl,rfl⟩:=eo hv
   ·rw[J4] at h;exact wpAny_eqBool_int h
   ·rw[JW] at h;exact W6.int_str i t y u _ _ _ _ h
  ·obtain⟨j,u,rfl,rfl⟩ | ⟨y,u,rfl,rfl⟩:=eo hv
   ·rw[LW] at h;exact W6.str_int x t j u _ _ _ _ h
   ·rw[Mo] at h;exact wpAny_eqBool_str h
 «strs»:=λk x t v h=>by
  obtain⟨i,u,rfl,e⟩ | ⟨y,u,rfl,e⟩:=eo h
  ·exact nomatch e
  ·injection e with e1 _;subst e1;cases v<;>rfl
theorem yJ (prog:Ve)(w:World)(i:Int)(t:Tok):(cE prog w).is (.inl i) (.int i t)=true:=Dd i t
theorem eC (prog:Ve)(w:World)(x:Str)(t:Tok):(cE prog w).is (.inr x) (.str x t)=true:=BA x t
inductive V where
 | X4 | bl (b:Bool) | int (i:Int) | str (x:Str) | ZJ (b:Array UInt8) | flt (b:UInt64) | ref (a:Addr) | ty (n:String)
 deriving DecidableEq
noncomputable def RelV:V->Value->Prop
 | .X4,u=>u=Xb
 | .bl b,u=>u=Xe b
 | .int i,u=>∃t,u=Xc i t
 | .str x,u=>∃t,u=Xd x t
 | .ZJ b,u=>∃t,u=Value.bytes b t
 | .flt b,u=>∃t,u=Xf b t
 | .ref a,u=>u=Xa a
 | .ty n,u=>u=Xg n
abbrev Vals:List V->RC->Prop:=Paired RelV
theorem Vals.length {xs:`P}{us:RC}(r:Vals xs us):xs.length=us.length:=Paired.length r
theorem Vals.get:∀{xs:`P}{us:RC}{i:Nat}{x:V},Vals xs us->xs[i]?∣x->∃u,us[i]?∣u/\RelV x u
 | _,_,_,_,.nil,e=>by simp at e
 | _,_,0,_,.cons r _,e=>by simp at e;subst e;exact⟨_,rfl,r⟩
 | _,_,i+1,x,.cons _ t,e=>by
   let⟨u,h1,h2⟩:=Vals.get (i:=i) (x:=x) t (~~~e);exact⟨u,by simpa using h1,h2⟩
theorem Vals.set {x:V}{u:`aK}(r:RelV x u):∀{xs:`P}{us:RC}(i:Nat),Vals xs us->Vals (xs.set i x) (us.set i u)
 | _,_,_,.nil=>.nil
 | _,_,0,.cons _ t=>.cons r t
 | _,_,i+1,.cons q t=>.cons q (Vals.set r i t)
theorem Vals.append:∀{xs ys:`P}{us ws:RC},Vals xs us->Vals ys ws->Vals (xs++ys) (us++ws)
 | _,_,_,_,.nil,s=>s
 | _,_,_,_,.cons r t,s=>.cons r (Vals.append t s)
theorem Vals.take:∀{xs:`P}{us:RC}(n:Nat),Vals xs us->Vals (xs.take n) (us.take n)
 | _,_,0,_=>.nil
 | _,_,_+1,.nil=>.nil
 | _,_,n+1,.cons r t=>.cons r (Vals.take n t)
theorem Vals.drop:∀{xs:`P}{us:RC}(n:Nat),Vals xs us->Vals (xs.drop n) (us.drop n)
 | _,_,0,r=>r
 | _,_,_+1,.nil=>.nil
 | _,_,n+1,.cons _ t=>Vals.drop n t
noncomputable def jH:Option V->Ry->Prop
 | some v,some u=>RelV v u
 | none,none=>True
 | _,_=>False
def KV {κ:Type}:List (κ×V)->List (κ×Value)->Prop:=Paired λ(p:κ×V)(q:κ×Value)=>p.1=q.1/\RelV p.2 q.2
noncomputable def kV:Key->V
 | .inl i=>.int i
 | .inr x=>.str x
inductive HO where
 | lst (xs:`P)
 | tup (xs:`P)
 | dK (kvs:List (Key×V)) | dT (kvs:List (List Key×V))
 | set (S:Int->Bool) (n:Nat)
 | ins (C dx:Addr) (fs:List (Str×V))
 | own (x:Addr)
 | xd (fs:List (Str×V))
 | met (f x:Addr)
 | Z8 (lo hi:Int)
 | YI (o:Obj) (u:HO)
 | tbl (ps:Array Value)
 | ext (φ:Heap->Prop)
abbrev Hp:=Addr->Option HO
noncomputable def upd (H:Hp)(a:Addr)(o:HO):Hp:=λb=>if b=a then some o else H b
theorem aD {H:Hp}{o:HO}:upd H a o a∣o:=by unfold upd;rw[XG rfl]
theorem aF {H:Hp}{o:HO}(h:b≠a):upd H a o b=H b:=by unfold upd;rw[XF h]
theorem OQ {H:Hp}{o u:HO}(h:H a∣o)(h':H b∣u)(d:o≠u):a≠b:=by
 intro e;subst e;rw[h] at h';exact d (Option.some.inj h')
theorem dt {H:Hp}{o:HO}(h:H a∣o)(h':H b=none):a≠b:=by
 intro e;subst e;rw[h] at h';cases h'
section
variable (P:Ve)(w:World)
noncomputable def da (H:Hp)(h:Heap)(a:Addr):HO->Prop
 | .lst xs=>xs.length<=U9/\∃(XT:RC)(n:Nat),Vals xs XT/\h.get? a=some {cls:=.type "list",data:=.seq XT.toArray n}
 | .tup xs=>xs.length<=U9/\∃XT:RC,Vals xs XT/\IsTup h a XT.toArray
 | .dK kvs=>kvs.length<=U9/\(a==Vr)=false/\∃vs,KV kvs vs/\h.DictOf (cE P w) a vs
 | .dT kvs=>kvs.length<=U9/\(a==Vr)=false/\∃xs:List (List Key×Addr×Value),
  Paired (λ(p:List Key×V)(q:List Key×Addr×Value)=>p.1=q.1/\H q.2.1∣(.tup (p.1.map kV))/\RelV p.2 q.2.2) kvs xs/\
  ∃o es ep,h.get? a∣o/\o.ExactDict/\o.data= .dict es ep/\es.toList=xs.map (entryOfKey (V9 (cE P w)))/\(xs.map (·.1)).Nodup
 | .set S n=>h.SetOf (intKind P w) a S n
 | .ins C dx fs=>H dx∣.own a/\fs.length<=1000/\dx≠a/\h.get? a∣Xq C dx/\
  ∃mA,h.Ns1 dx mA/\(∀f,jH (fs.lookup f) (mA f))/\Wq mA (fs.map (·.1))
 | .own _=>∃o,h.get? a∣o
 | .xd fs=>∃mA,h.Ns1 a mA/\∀f,jH (fs.lookup f) (mA f)
 | .Z8 lo hi=>∃t u v,h.get? a=some {cls:=.type "range",data:=.fields #[.int lo t,.int hi u,.int 1 v]}
 | .YI o u=>h.get? a∣o/\da H h a u
 | .tbl ps=>h.get? a=some {cls:=.none,data:=.fields ps}
 | .met f x=>h.get? a∣(Xx (.ref f) (.ref x))
 | .ext φ=>φ h/\(∃o,h.get? a∣o)/\∀h1 h2:Heap,φ h1->(∀o,h1.get? a∣o->h2.get? a∣o)->φ h2
def fo (H:Hp)(h:Heap):Prop:=∀a o,H a∣o->da P w H h a o
end
variable {H:Hp}{P:Ve}{w:World}{H':Hp}{h h':Heap}
section
variable {o:HO}
theorem da.lt (x:da P w H h a o):a<h.objs.size:=by
 cases o with
 | lst xs=>let⟨_,_,_,_,e⟩:=x;exact WT e
 | tup xs=>let⟨_,_,_,p⟩:=x;exact p.lt
 | dK kvs=>let⟨_,_,_,_,o,_,_,e,_⟩:=x;exact WT e
 | dT kvs=>let⟨_,_,_,_,o,_,_,e,_⟩:=x;exact WT e
 | set S n=>let⟨o,_,_,_,e,_⟩:=x;exact WT e
 | ins C dx fs=>let⟨_,_,_,e,_⟩:=x;exact WT e
 | own y=>let⟨_,e⟩:=x;exact WT e
 | xd fs=>let⟨_,⟨_,_,_,e,_⟩,_⟩:=x;exact WT e
 | Z8 lo hi=>let⟨_,_,_,e⟩:=x;exact WT e
 | YI ob u=>let⟨e,_⟩:=x;exact WT e
 | tbl ps=>exact WT (show h.get? a∣_ from x)
 | met f y=>exact WT (show h.get? a∣_ from x)
 | ext φ=>let⟨_,⟨_,e⟩,_⟩:=x;exact WT e
theorem Paired.Ff {α β:Type}{F G:α->β->Prop}:∀{l₁:`u}{l₂:List β},Paired F l₁ l₂->(∀a b,F a b->G a b)->Paired G l₁ l₂
 | _,_,.nil,_=>.nil
 | _,_,.cons r t,f=>.cons (f _ _ r) (Paired.Ff t f)
theorem da.Yt (x:da P w H h a o)(k:∀b u,(b=a∨H b∣.own a)->h.get? b∣u->h'.get? b∣u)(ho:∀b,H b∣.own a->H' b∣.own a)(ht:∀b xs,H b∣.tup xs->H' b∣.tup xs):da P w H' h' a o:=by
 induction o with
 | lst xs=>let⟨z,XT,n,r,e⟩:=x;exact⟨z,XT,n,r,k _ _ `aT e⟩
 | tup xs=>let⟨z,XT,r,ob,e,c⟩:=x;exact⟨z,XT,r,ob,k _ _ `aT e,c⟩
 | dK kvs=>let⟨z,y,vs,r,ob,es,ep,e,c⟩:=x;exact⟨z,y,vs,r,ob,es,ep,k _ _ `aT e,c⟩
 | dT kvs=>
   let⟨z,y,xs,r,ob,es,ep,e,c⟩:=x;exact⟨z,y,xs,Paired.Ff r λp q z=>⟨z.1,ht _ _ z.2.1,z.2.2⟩,ob,es,ep,k _ _ `aT e,c⟩
 | set S n=>let⟨ob,es,ep,t,e,c⟩:=x;exact⟨ob,es,ep,t,k _ _ `aT e,c⟩
 | ins C dx fs=>
   let⟨d,z,ne,e,mA,⟨od,es,ep,e2,c⟩,r⟩:=x;exact⟨ho _ d,z,ne,k _ _ `aT e,mA,⟨od,es,ep,k _ _ (.inr d) e2,c⟩,r⟩
 | own y=>let⟨ob,e⟩:=x;exact⟨ob,k _ _ `aT e⟩
 | xd fs=>let⟨mA,⟨od,es,ep,e,c⟩,r⟩:=x;exact⟨mA,⟨od,es,ep,k _ _ `aT e,c⟩,r⟩
 | Z8 lo hi=>let⟨t,u,v,e⟩:=x;exact⟨t,u,v,k _ _ `aT e⟩
 | YI ob u ih=>let⟨e,q⟩:=x;exact⟨k _ _ `aT e,ih q⟩
 | tbl ps=>
   let e:h.get? a=some {cls:=.none,data:=.fields ps}:=x;show h'.get? a=some {cls:=.none,data:=.fields ps};exact k a _ `aT e
 | met f y=>
   let e:h.get? a∣(Xx (.ref f) (.ref y)):=x;show h'.get? a∣(Xx (.ref f) (.ref y));exact k a _ `aT e
 | ext φ=>let⟨p,⟨o,e⟩,st⟩:=x;exact⟨st _ _ p λo q=>k _ _ `aT q,⟨o,k _ _ `aT e⟩,st⟩
theorem fo.lt (x:fo P w H h)(e:H a∣o):a<h.objs.size:=(x a o e).lt
theorem fo.fresh (x:fo P w H h)(e:h.objs.size<=a):H a=none:=by
 cases q:H a with
 | none=>rfl
 | some u=>exact XE (UA (x.lt q) e) (UC _)
theorem fo.kept (x:fo P w H h)(k:∀b u,h.get? b∣u->h'.get? b∣u):fo P w H h':=λa o e=>
 (x a o e).Yt (λb u _ q=>k b u q) (λ_ q=>q) λ_ _ q=>q
theorem fo.laid (x:fo P w H h)(k:∀b u,h.get? b∣u->h'.get? b∣u)(hp:h.objs.size<=a)(new:da P w (upd H a o) h' a o):fo P w (upd H a o) h':=λb u e=>by
 let hn:=x.fresh hp;by_cases hb:b=a
 ·subst hb;rw[aD] at e;cases e;exact new
 ·rw[aF hb] at e;exact(x b u e).Yt (λc v _ q=>k c v q) (λc q=>by rw[aF (dt q hn)];exact q) λc xs q=>by rw[aF (dt q hn)];exact q
end
def Rd (H:Hp)(a:Addr)(u:HO):Prop:=H a∣u∨∃o,H a∣.YI o u
theorem Rd.ok {u:HO}(r:Rd H a u)(x:fo P w H h):da P w H h a u:=by
 obtain r | ⟨o,r⟩:=r
 ·exact x a u r
 ·let⟨_,q⟩:=x a _ r;exact q
noncomputable def Cm:Option HO->Prop
 | some (.lst _)=>True
 | some (.dK _)=>True
 | some (.dT _)=>True
 | some (.set _ _)=>True
 | some (.ins _ _ _)=>True
 | some (.ext _)=>True
 | _=>False
section
variable {x e:Addr}{o':HO}
theorem fo.write (ok:fo P w H h)(mu:Cm (H x))(he:e=x∨H e∣.own x)(k:∀b u,b≠e->h.get? b∣u->h'.get? b∣u)(heo:∃u,h'.get? e∣u)(new:da P w (upd H x o') h' x o'):fo P w (upd H x o') h':=λb u q=>by
 let nown:∀c y,H c∣.own y->c≠x:=λc y r z=>by subst z;rw[r] at mu;exact mu
 let ntup:∀c xs,H c∣.tup xs->c≠x:=λc xs r z=>by subst z;rw[r] at mu;exact mu
 by_cases hb:b=x
 ·subst hb;rw[aD] at q;cases q;exact new
 ·rw[aF hb] at q;by_cases hbe:b=e
  ·let q':H b∣.own x:=by
    obtain z | z:=he
    ·exact XE (hbe.trans z) hb
    ·rw[hbe];exact z
   rw[q] at q';cases q'
   let⟨v,hv⟩:=heo;exact⟨v,by rw[hbe];exact hv⟩
  ·refine(ok b u q).Yt (λc v hc r=>k c v ?_ r) (λc r=>by rw[aF (nown c b r)];exact r) λc xs r=>by rw[aF (ntup c xs r)];exact r
   obtain rfl | hc:=hc
   ·exact hbe
   ·rintro rfl;obtain z | z:=he
    ·exact nown c b hc z
    ·rw[hc] at z;cases z;exact hb rfl
end
structure Un (fs ex:Rz)(H H':Hp)(h h':Heap):Prop where
 keep:∀b o,h.get? b∣o->H b=none->b∉fs->b∉ex->h'.get? b∣o
 slot:∀b o,h.get? b∣o->H b=none->b∈fs->b∉ex->∃sl,h'.get? b=some {o with slots:=sl}
 free:∀b o,h.get? b∣o->H b=none->b∉ex->H' b=none
 there:∀b o,h.get? b∣o->b∉ex->∃o',h'.get? b∣o'
 Y7:∀b xs,H b∣.tup xs->H' b∣.tup xs
 Y1:∀b o u,H b∣.YI o u->H' b∣.YI o u
 Y8:∀b ps,H b∣.tbl ps->∃more,H' b∣(.tbl (ps++more))
section
variable {fs fs' ex ex':Rz}{H1 H2:Hp}{h1 h2:Heap}{x e:Addr}{o:HO}
theorem Un.any (u:Un fs ex H H1 h h1){ob:Obj}(q:h.get? b∣ob)(n:H b=none)(hx:b∉ex):∃sl,h1.get? b=some {ob with slots:=sl}:=by
 by_cases hb:b∈fs
 ·exact u.slot b ob q n hb hx
 ·exact⟨ob.slots,u.keep b ob q n hb hx⟩
theorem Un.kept (k:∀b u,h.get? b∣u->h'.get? b∣u):Un fs ex H H h h':=
 ⟨λb ob q _ _ _=>k b ob q,λb ob q _ _ _=>⟨ob.slots,k b ob q⟩,λ_ _ _ n _=>n,λb ob q _=>⟨ob,k b ob q⟩,λ_ _ q=>q,λ_ _ _ q=>q,λ_ ps q=>⟨#[],by rw[q];simp⟩⟩
theorem Un.refl:Un fs ex H H h h:=Un.kept λ_ _ q=>q
theorem Un.laid (k:∀b u,h.get? b∣u->h'.get? b∣u)(hp:h.objs.size<=a)(hn:H a=none):Un fs ex H (upd H a o) h h' where
 keep:=λb u q _ _ _=>k b u q
 slot:=λb u q _ _ _=>⟨u.slots,k b u q⟩
 free:=λb u q n _=>by rw[aF (UB (UA (WT q) hp))];exact n
 there:=λb u q _=>⟨u,k b u q⟩
 Y7:=λb xs q=>by rw[aF (dt q hn)];exact q
 Y1:=λb u xs q=>by rw[aF (dt q hn)];exact q
 Y8:=λb ps q=>⟨#[],by rw[aF (dt q hn),q];simp⟩
theorem Un.write (mu:Cm (H x))(he:e=x∨H e∣.own x)(k:∀b u,b≠e->h.get? b∣u->h'.get? b∣u)(heo:∃u,h'.get? e∣u):Un fs ex H (upd H x o) h h':=by
 let hx:∀b,H b=none->b≠x:=λb n z=>by subst z;rw[n] at mu;exact mu
 let hb:∀b,H b=none->b≠e:=λb n z=>by
  subst z;obtain r | r:=he
  ·exact hx b n r
  ·rw[n] at r;cases r
 let hm:∀b u,H b∣u->¬Cm (some u)->b≠x:=λb u q nm z=>by subst z;rw[q] at mu;exact nm mu
 refine⟨λb u q n _ _=>k b u (hb b n) q,λb u q n _ _=>⟨u.slots,k b u (hb b n) q⟩,λb u q n _=>by rw[aF (hx b n)];exact n,λb u q _=>?_,
  λb xs q=>by rw[aF (hm b _ q λz=>z)];exact q,λb u xs q=>by rw[aF (hm b _ q λz=>z)];exact q,λb ps q=>⟨#[],by rw[aF (hm b _ q λz=>z),q];simp⟩⟩
 by_cases hbe:b=e
 ·subst hbe;exact heo
 ·exact⟨u,k b u hbe q⟩
end
noncomputable def Hc (h:Heap)(H:Hp):Rz:=(Sm h.objs.size).filter λa=>(H a).isSome
def nQ (h:Heap)(H:Hp):Heap:=PySem.W.hideAll h (Hc h H)
theorem DE (h:Heap)(H:Hp):(nQ h H).objs.size=h.objs.size:=PySem.W.hideAll_size _ _
variable {o:Obj}
theorem EM (e:h.get? b∣o)(n:H b=none):(nQ h H).get? b∣o:=
 PySem.W.hideAll_get _ e λhm=>by
  let q:(H b).isSome=true:=(SV.mp hm).2;rw[n] at q;simp at q
theorem Iw (e:(nQ h H).get? b∣o):h.get? b∣o/\H b=none:=by
 let e':h.get? b∣o:=PySem.W.of_hideAll (Hc h H) e;refine⟨e',?_⟩;cases q:H b with
 | none=>rfl
 | some x=>
   let hm:b∈Hc h H:=SV.mpr ⟨Tb.mpr (WT e'),by simp[q]⟩;let z:(nQ h H).get? b=none:=PySem.W.hideAll_none (Hc h H) hm;rw[z] at e;cases e
structure Mod (K:Xh)(mg:Rt)(base:Heap):Prop where
 kin:K.In base
 glob:base.Ns Vc mg
 blt:∃mb,base.Ns builtinsNs mb/\∀x:Str,x≠"__name__"->mb x=VA x
 nolimit:base.NoLimit
structure Cx where
 prog:Ve
 w:World
 K:Xh
 mg:Rt
 base:Heap
 A:Vg
 N:Rx
 s₀:Va
 H₀:Hp
 env:Env
 outer:List Env
 stack:List Env
 ex:Rz
 fn:Str->Bool
 calm:Bool
 pn:Ru
 xe:Value->Va->Prop
def nD (l:List Env):Rz:=l.filterMap (·.frame)
abbrev Cx.fs (X:Cx):Rz:=nD X.outer
def Dz (sc:Scope)(x:Str):Prop:=sc.names.lookup x∣.local∨sc.names.lookup x∣.cell∨sc.names.lookup x∣.free
def Loc (sc:Scope)(x:Str):Prop:=sc.names.lookup x∣.local∨sc.names.lookup x∣.cell
abbrev l7 (X:Cx)(cp:Pos)(es:RE):Prop:=((V1 cp (Vf es X.env)).all (λx=> !x.1)&&(backToKw cp (keywordEach [] X.env)).all (λx=>x.1.isSome)&&decide (es.length+([]:List V5).length+(if([]:List V5).isEmpty then 0 else 1)<30))=true
abbrev dq (X:Cx)(e:Expr)(es:RE):Prop:=Vf (e::es) X.env=(false,eval e X.env)::Vf es X.env
abbrev fW (X:Cx)(e:Expr):Prop:=Vf [e] X.env=[(false,eval e X.env)]
abbrev xW (X:Cx)(a b:Expr):Prop:=Vf [a,b] X.env=[(false,eval a X.env),(false,eval b X.env)]
abbrev fc (X:Cx)(cp:Pos)(es:RE):Prop:=(V1 cp (Vf es X.env)).any (·.1)=false
abbrev fh (X:Cx)(e:Expr)(x:Str):Prop:=Wn e x X.env (eval e X.env)=eval e X.env
abbrev fM (X:Cx)(x:Str):Prop:=X.fn x=true∨X.env.scope.names.lookup x∣.local
structure At (X:Cx)(i:Nat)(x:Str):Prop where
 n:X.N[i]?∣x
 v:Dz X.env.scope x
 d:(x==("__debug__":Str))=false
 c:(x==("__classdict__":Str))=false
def cb:Lean.Syntax:=Lean.Unhygienic.run `(Lean.Parser.Tactic.tacticSeq| exact⟨rfl,by first | exact Or.inl rfl | exact Or.inr (Or.inl rfl) | exact Or.inr (Or.inr rfl),`c,`c⟩)
def Look (env:Env)(h:Heap)(m:Rt)(x:Str)(u:`aK):Prop:=
 (env.kindOf x∣.local/\m x∣u)∨((env.kindOf x∣.cell∨env.kindOf x∣.free)/\∃c,env.cells.lookup x∣c/\h.IsCell c (some u))
structure Cx.Ok (X:Cx):Prop where
 mod:Mod X.K X.mg X.base
 kind:X.env.scope.kind= .function
 glob:X.env.globals=Vc
 blt:X.env.builtins=builtinsNs
 above:X.s₀.heap.objs.size<=X.env.locals
 inj:∀x y c,X.env.cells.lookup x∣c->X.env.cells.lookup y∣c->x=y
 has:∀x,(X.env.kindOf x∣.cell∨X.env.kindOf x∣.free)->∃c,X.env.cells.lookup x∣c
 cab:∀x c,X.fn x=true->X.env.cells.lookup x∣c->X.s₀.heap.objs.size<=c
 hd:X.calm=true->X.A.handled=none
 frames:X.A.frames∣X.stack
 stk:X.stack=X.outer∨(X.stack=X.env::X.outer/\X.env.frame∣X.env.locals)
 exf:∀b∈X.ex,b≠X.env.locals/\∀x c,X.env.cells.lookup x∣c->c≠b
 bs:∀b o,X.base.get? b∣o->X.s₀.heap.get? b∣o/\X.H₀ b=none
 bsz:X.base.objs.size<=X.s₀.heap.objs.size
 ZW:∀b o,X.base.get? b∣o->b∉X.ex
 ZO:∀b∈X.ex,b∉X.fs
 YR:X.s₀.heap.FunFrames X.base X.outer
 frf:∀b∈X.fs,X.H₀ b=none
structure Inv (X:Cx)(XR:Ru)(σ:List (Option V))(H:Hp)(s:Va):Prop where
 ok:X.Ok
 os:s.os=X.s₀.os
 bare:U6 s.gens
 base:Un X.fs X.ex X.H₀ H X.s₀.heap s.heap
 loc:∃m,s.heap.Ns X.env.locals m/\∀(i:Nat)(x:Str)(v:V),X.N[i]?∣x->σ[i]?∣some v->Dz X.env.scope x->∃u,RelV v u/\Look X.env s.heap m x u
 cell:∀x c,X.env.cells.lookup x∣c->∃v,s.heap.IsCell c v
 free:H X.env.locals=none
 YB:∀x c,X.env.cells.lookup x∣c->H c=none
 pin:∀p∈X.pn++XR,s.heap.get? p.1∣p.2/\H p.1=none/\p.1≠X.env.locals/\p.1∉X.fs/\∀v,p.2.data≠ .cell v
 XX:fo X.prog X.w H s.heap
 len:σ.length=X.N.length
variable {X:Cx}{XR:Ru}{s:Va}{x:Str}{i:Nat}{g':Array Wj}{d':Drawn}{it:Addr}{N:Rx}{M:Model}{A:Vg}{E:`s}{v:V}{u:`aK}{s':Va}
section
variable {σ:List (Option V)}
variable {t':Nat}{ch:Rz}
theorem Cx.Ok.Rf (ok:X.Ok)(e:X.base.get? b∣o):b∉X.fs:=λhb=>by
 have:=(ok.YR.mem hb).1;rw[e] at this;cases this
theorem Inv.bs (I:`j):∀b o,X.base.get? b∣o->s.heap.get? b∣o/\H b=none:=λb o e=>
 ⟨I.base.keep b o (I.ok.bs b o e).1 (I.ok.bs b o e).2 (I.ok.Rf e) (I.ok.ZW b o e),I.base.free b o (I.ok.bs b o e).1 (I.ok.bs b o e).2 (I.ok.ZW b o e)⟩
theorem Inv.bk (I:`j):∀b o,X.base.get? b∣o->s.heap.get? b∣o:=λb o e=>(I.bs b o e).1
theorem Inv.mod (I:`j):Mod X.K X.mg X.base:=I.ok.mod
theorem Inv.gu (I:`j):X.K.In s.heap:=I.ok.mod.kin.keeps I.bk
theorem Inv.lt (I:`j):X.env.locals<⇑s:=let ⟨_,hn,_⟩:=I.loc;hn.lt
theorem Inv.sz (I:`j):X.s₀.heap.objs.size<=⇑s:=Ux I.ok.above (UR I.lt)
theorem Inv.QM (I:`j)(h:⇑s<=a):a∉X.fs:=λhb=>by
 let⟨_,o,ho,_⟩:=I.ok.YR.mem hb;exact XE (UA (WT ho) (Ux I.sz h)) (UC _)
theorem Inv.cne (I:`j):∀x c,X.env.cells.lookup x∣c->c≠X.env.locals:=λx c e z=>by
 let⟨v,o,ho,hd⟩:=I.cell x c e;let⟨m,⟨o',es,ep,Ze,hd',_⟩,_⟩:=I.loc;rw[z,Ze] at ho;cases ho;rw[hd'] at hd;cases hd
theorem Inv.YR (I:`j):s.heap.FunFrames X.base X.outer:=by
 let all:∀(l:List Env),(∀b∈nD l,b∈X.fs)->X.s₀.heap.FunFrames X.base l->s.heap.FunFrames X.base l:=by
  intro l
  induction l with
  | nil=>intro _ _;trivial
  | cons env r ih=>
    intro hs hl;let⟨hk,⟨L,o,hf,hn,ho,hd⟩,hr⟩:=hl;let hL:L∈X.fs:=hs L (by unfold nD;rw[T7,hf];exact Se);let⟨sl,e⟩:=I.base.slot L o ho (I.ok.frf L hL) hL λz=>I.ok.ZO L z hL;exact⟨hk,⟨L,_,hf,hn,e,hd⟩,ih (λb hb=>hs b (by unfold nD;rw[T7,hf];exact Sb _ hb)) hr⟩
 exact all X.outer (λ_ hb=>hb) I.ok.YR
theorem Inv.stack (I:`j):s.heap.FunFrames X.base X.stack:=by
 obtain e | ⟨e,hf⟩:=I.ok.stk
 ·rw[e];exact I.YR
 ·rw[e];let⟨m,hn,_⟩:=I.loc;refine .cons (by rw[I.ok.kind];decide) hf hn ?_ I.YR;exact Heap.get?_none_of_le (Ux I.ok.bsz I.ok.above)
theorem Inv.yd (I:`j):∀b∈nD X.stack,b∈X.env.locals::X.fs:=λb hb=>by
 obtain e | ⟨e,hf⟩:=I.ok.stk
 ·rw[e] at hb;exact Sb _ hb
 ·rw[e] at hb;unfold nD at hb;rw[T7,hf] at hb;exact hb
theorem Inv.yT (I:`j):∀b∈nD X.stack,H b=none:=λb hb=>by
 obtain e | hb:=Sj.mp (I.yd b hb)
 ·rw[e];exact I.free
 ·let⟨_,o,ho,_⟩:=I.ok.YR.mem hb;exact I.base.free b o ho (I.ok.frf b hb) λz=>I.ok.ZO b z hb
theorem Inv.step (I:`j)(ZR:`aa)(keep:∀b o,b≠X.env.locals->b∉X.fs->b∉ch->s.heap.get? b∣o->H b=none->h'.get? b∣o)(slot:∀b o,b≠X.env.locals->b∈X.fs->b∉ch->s.heap.get? b∣o->H b=none->∃sl,h'.get? b=some {o with slots:=sl})(free:∀b o,b∉ch->s.heap.get? b∣o->H b=none->H' b=none)(there:∀b o,b∉ch->s.heap.get? b∣o->∃o',h'.get? b∣o')(Y7:∀b xs,H b∣.tup xs->H' b∣.tup xs)(Y1:∀b o u,H b∣.YI o u->H' b∣.YI o u)(Y8:∀b ps,H b∣.tbl ps->∃more,H' b∣(.tbl (ps++more)))(ns:∀m,s.heap.Ns X.env.locals m->h'.Ns X.env.locals m)(XX:fo X.prog X.w H' h')(hg:U6 g'):
 Inv X XR σ H' {s with heap:=h',gens:=g',drawn:=d',toks:=t'}:=by
 let neL:∀b o,X.s₀.heap.get? b∣o->b≠X.env.locals:=λb o e=>UB (UA (WT e) I.ok.above);let ZY:∀b o,X.s₀.heap.get? b∣o->b∉X.ex->b∉ch:=λb o e hx hb=>by
  rcases(ZR b hb).1 with z | z
  ·exact hx z
  ·exact XE (UA (WT e) z) (UC _)
 let cellK:∀x c,X.env.cells.lookup x∣c->∀v,s.heap.IsCell c v->h'.IsCell c v:=λx c e v ⟨o,ho,hd⟩=>by
  let nch:c∉ch:=λz=>(ZR c z).2.2.1 x c e rfl;by_cases hc:c∈X.fs
  ·let⟨sl,q⟩:=slot c o (I.cne x c e) hc nch ho (I.YB x c e);exact⟨_,q,hd⟩
  ·exact⟨o,keep c o (I.cne x c e) hc nch ho (I.YB x c e),hd⟩
 refine⟨I.ok,I.os,hg,⟨λb o e n hb hx=>?_,λb o e n hb hx=>?_,λb o e n hx=>?_,λb o e hx=>?_,λb xs e=>Y7 b xs (I.base.Y7 b xs e),λb o xs e=>Y1 b o xs (I.base.Y1 b o xs e),λb ps e=>?_⟩,?_,λx c e=>?_,?_,λx c e=>?_,λp hp=>?_,XX,I.len⟩
 ·exact keep b o (neL b o e) hb (ZY b o e hx) (I.base.keep b o e n hb hx) (I.base.free b o e n hx)
 ·let⟨sl,e1⟩:=I.base.slot b o e n hb hx;let⟨sl',e2⟩:=slot b _ (neL b o e) hb (ZY b o e hx) e1 (I.base.free b o e n hx);exact⟨sl',e2⟩
 ·let⟨o',e1⟩:=I.base.there b o e hx;exact free b o' (ZY b o e hx) e1 (I.base.free b o e n hx)
 ·let⟨o',e1⟩:=I.base.there b o e hx;exact there b o' (ZY b o e hx) e1
 ·let⟨m1,e1⟩:=I.base.Y8 b ps e;let⟨m2,e2⟩:=Y8 b _ e1;exact⟨m1++m2,by rw[e2,Array.append_assoc]⟩
 ·let⟨m,hn,hl⟩:=I.loc;refine⟨m,ns m hn,λi x v e1 e2 e3=>?_⟩;let⟨u,r,l⟩:=hl i x v e1 e2 e3;refine⟨u,r,?_⟩;obtain l | ⟨k,c,e,z⟩:=l
  ·exact .inl l
  ·exact .inr ⟨k,c,e,cellK x c e _ z⟩
 ·let⟨v,z⟩:=I.cell x c e;exact⟨v,cellK x c e v z⟩
 ·let⟨m,⟨o,_,_,ho,_⟩,_⟩:=I.loc;exact free _ o (λz=>(ZR _ z).2.1 rfl) ho I.free
 ·let⟨v,o,ho,hd⟩:=I.cell x c e;exact free c o (λz=>(ZR c z).2.2.1 x c e rfl) ho (I.YB x c e)
 ·let⟨e,n,ne,nf,d⟩:=I.pin p hp;let nch:p.1∉ch:=λz=>(ZR p.1 z).2.2.2 p hp rfl;exact⟨keep p.1 p.2 ne nf nch e n,free p.1 p.2 nch e n,ne,nf,d⟩
theorem Inv.un (I:`j)(u:Un X.fs [] H H' s.heap h')(XX:fo X.prog X.w H' h'):Inv X XR σ H' {s with heap:=h',toks:=t'}:=by
 let⟨m,⟨o,es,ep,ho,r⟩,_⟩:=id I.loc;let⟨sl,hL⟩:=u.any ho I.free `d;exact I.step (g':=s.gens) (d':=s.drawn) (ch:=[]) (λ_ z=>nomatch z) (λb o _ hb _ e n=>u.keep b o e n hb `d) (λb o _ hb _ e n=>u.slot b o e n hb `d) (λb o _ e n=>u.free b o e n `d) (λb o _ e=>u.there b o e `d) u.Y7 u.Y1 u.Y8 (λm' hm=>by
  let⟨o',es',ep',Ze,r'⟩:=hm;rw[ho] at Ze;cases Ze
  exact⟨_,es',ep',hL,r'⟩) XX I.bare
theorem Inv.call (I:`j)(u:Un (nD X.stack) ch H H' s.heap h')(XX:fo X.prog X.w H' h')(hg:U6 g')(ZR:`aa):
 Inv X XR σ H' {s with heap:=h',gens:=g',drawn:=d',toks:=t'}:=by
 let⟨m,⟨o,es,ep,ho,r⟩,_⟩:=id I.loc;let⟨sl,hL⟩:=u.any ho I.free λz=>(ZR _ z).2.1 rfl;exact I.step (ch:=ch) ZR (λb o hL hb hc e n=>u.keep b o e n (λz=>(Sj.mp (I.yd b z)).elim hL hb) hc) (λb o _ _ hc e n=>u.any e n hc) (λb o hc e n=>u.free b o e n hc) (λb o hc e=>u.there b o e hc) u.Y7 u.Y1 u.Y8 (λm' hm=>by
  let⟨o',es',ep',Ze,r'⟩:=hm;rw[ho] at Ze;cases Ze
  exact⟨_,es',ep',hL,r'⟩) XX hg
theorem Inv.turned (I:`j)(k:∀b o,b≠it->s.heap.get? b∣o->h'.get? b∣o)(hn:H it=none)(hL:it≠X.env.locals)(h1:it∈X.ex∨X.s₀.heap.objs.size<=it)(h2:∀x c,X.env.cells.lookup x∣c->c≠it)(h3:∀p∈X.pn++XR,p.1≠it):Inv X XR σ H {s with heap:=h',toks:=t'}:=by
 let nit:∀b u,H b∣u->b≠it:=λb u e z=>by rw[z,hn] at e;cases e
 refine I.step (g':=s.gens) (d':=s.drawn) (ch:=[it]) (λb hb=>?_) (λb o _ _ hc e _=>k b o (λz=>hc (by simp[z])) e) (λb o _ _ hc e _=>⟨o.slots,k b o (λz=>hc (by simp[z])) e⟩) (λ_ _ _ _ n=>n)
  (λb o hc e=>⟨o,k b o (λz=>hc (by simp[z])) e⟩) (λ_ _ e=>e) (λ_ _ _ e=>e) (λb ps e=>⟨#[],by rw[e];simp⟩) (λm hm=>?_) (λb u e=>?_) I.bare
 ·let e:b=it:= ~~~hb
  subst e;exact⟨h1,hL,h2,h3⟩
 ·let⟨o,es,ep,ho,r⟩:=hm;exact⟨o,es,ep,k _ o (UT hL) ho,r⟩
 ·refine(I.XX b u e).Yt (λc v hc q=>k c v ?_ q) (λ_ q=>q) λ_ _ q=>q;obtain z | z:=hc
  ·rw[z];exact nit b u e
  ·exact nit c _ z
theorem Inv.tok (I:`j)(t:Nat):Inv X XR σ H {s with toks:=t}:=I.un (h':=s.heap) (t':=t) Un.refl I.XX
theorem Inv.kept (I:`j)(k:∀b u,s.heap.get? b∣u->h'.get? b∣u):Inv X XR σ H {s with heap:=h',toks:=t'}:=I.un (Un.kept k) (I.XX.kept k)
theorem Inv.laid {a:Addr}{o:HO}(I:`j)(k:∀b u,s.heap.get? b∣u->h'.get? b∣u)(hp:⇑s<=a)(new:da X.prog X.w (upd H a o) h' a o):
 Inv X XR σ (upd H a o) {s with heap:=h',toks:=t'}:=I.un (Un.laid k hp (I.XX.fresh hp)) (I.XX.laid k hp new)
theorem Inv.write {x e:Addr}{o:HO}(I:`j)(mu:Cm (H x))(he:e=x∨H e∣.own x)(k:∀b u,b≠e->s.heap.get? b∣u->h'.get? b∣u)(heo:∃u,h'.get? e∣u)(new:da X.prog X.w (upd H x o) h' x o):Inv X XR σ (upd H x o) {s with heap:=h',toks:=t'}:=I.un (Un.write mu he k heo) (I.XX.write mu he k heo new)
theorem Inv.kO {pins':Ru}(I:`j)(h:∀p∈pins',s.heap.get? p.1∣p.2/\H p.1=none/\p.1≠X.env.locals/\p.1∉X.fs/\∀v,p.2.data≠ .cell v):Inv X pins' σ H s:=
 ⟨I.ok,I.os,I.bare,I.base,I.loc,I.cell,I.free,I.YB,λp hp=>(Sl.mp hp).elim (λz=>I.pin p (Sn _ z)) (h p),I.XX,I.len⟩
theorem vT (hN:N.Nodup){j:Nat}(a:N[i]?∣x)(b:N[j]?∣x):i=j:=by
 let⟨h1,e1⟩:=R6.mp a;let⟨h2,e2⟩:=R6.mp b;exact(Ua hN).mp (e1.trans e2.symm)
theorem uU {Q:Unit->Va->Prop}(I:`j)(hN:X.N.Nodup)(hi:X.N[i]?∣x)(hx:Loc X.env.scope x)(r:RelV v u)(h:∀s',Inv X XR (σ.set i (some v)) H s'->(∃a,WW a s.heap s'.heap/\(a=X.env.locals∨X.env.cells.lookup x∣a))->Q () s')(hf:fM X x:=by first | exact .inl rfl | exact .inr rfl | assumption):wpAny M A (storeName X.env x u) Q E s:=by
 let⟨m,hn,hl⟩:=id I.loc;let hcls:(X.env.scope.kind== .class ||(X.env.scope.kind== .module&&X.env.locals != X.env.globals))=false:=by rw[I.ok.kind];rfl
 let hiσ:i<σ.length:=by rw[I.len];exact(R6.mp hi).1
 let cne:=I.cne;let tracked:∀{a:Addr}{h':Heap},(∃o,s.heap.get? a∣o/\H a=none)->WW a s.heap h'->fo X.prog X.w H h':=λ{a h'} ha hs b ob e=>by
  let⟨_,_,hfree⟩:=ha;refine(I.XX b ob e).Yt (λc w' hc q=>(hs.2 c ?_).trans q) (λ_ q=>q) λ_ _ q=>q;rintro rfl;obtain rfl | hc:=hc
  ·rw[hfree] at e;cases e
  ·rw[hfree] at hc;cases hc
 obtain hk | hk:=hx
 ·refine wpAny_storeName_local hk hn (λh' hn' hs=>?_) hcls;let⟨oL,_,_,hoL,_⟩:=id hn;refine h _ ⟨I.ok,I.os,I.bare,⟨λb o e n hb hx=>?_,λb o e n hb hx=>?_,I.base.free,λb o e hx=>?_,I.base.Y7,I.base.Y1,I.base.Y8⟩,⟨_,hn',λj y v' e1 e2 e3=>?_⟩,λy c e=>?_,I.free,I.YB,λp hp=>?_,tracked ⟨oL,hoL,I.free⟩ hs,by simpa using I.len⟩ ⟨_,hs,.inl rfl⟩
  ·exact(hs.2 b (UB (UA (WT e) I.ok.above))).trans (I.base.keep b o e n hb hx)
  ·let⟨sl,e1⟩:=I.base.slot b o e n hb hx;exact⟨sl,(hs.2 b (UB (UA (WT e) I.ok.above))).trans e1⟩
  ·let⟨o',e1⟩:=I.base.there b o e hx;exact⟨o',(hs.2 b (UB (UA (WT e) I.ok.above))).trans e1⟩
  ·by_cases hj:j=i
   ·subst hj;rw[hi] at e1;cases e1
    rw[Sh hiσ] at e2;cases e2
    exact⟨u,r,.inl ⟨hk,`d⟩⟩
   ·rw[SF (UT hj)] at e2;let⟨u',r',q⟩:=hl j y v' e1 e2 e3;refine⟨u',r',?_⟩;obtain⟨k,e⟩ | ⟨k,c,e,z⟩:=q
    ·refine .inl ⟨k,?_⟩;have:y≠x:=λe=>hj (vT hN e1 (e▸hi));simp[this,e]
    ·exact .inr ⟨k,c,e,z.sameBut hs (cne y c e)⟩
  ·let⟨w',z⟩:=I.cell y c e;exact⟨w',z.sameBut hs (cne y c e)⟩
  ·let⟨e,n,ne,nf,d⟩:=I.pin p hp;exact⟨(hs.2 p.1 ne).trans e,n,ne,nf,d⟩
 ·let hfn:X.fn x=true:=by
   obtain z | z:=hf
   ·exact z
   ·rw[z] at hk;cases hk
  let⟨c,hc⟩:=I.ok.has x (.inl hk);let⟨w',z⟩:=I.cell x c hc;refine wpAny_storeName_cell I.ok.kind hk hc z (λh' hc' hs=>?_);let⟨oc,hoc,hocd⟩:=id z;refine h {s with heap:=h'} ⟨I.ok,I.os,I.bare,⟨λb o e n hb hx=>?_,λb o e n hb hx=>?_,I.base.free,λb o e hx=>?_,I.base.Y7,I.base.Y1,I.base.Y8⟩,⟨m,hn.sameBut hs (UT (cne x c hc)),λj y v' e1 e2 e3=>?_⟩,λy c' e=>?_,I.free,I.YB,λp hp=>?_,tracked ⟨oc,hoc,I.YB x c hc⟩ hs,by simpa using I.len⟩ ⟨c,hs,.inr hc⟩
  ·exact(hs.2 b (UB (UA (WT e) (I.ok.cab x c hfn hc)))).trans (I.base.keep b o e n hb hx)
  ·let⟨sl,e1⟩:=I.base.slot b o e n hb hx;exact⟨sl,(hs.2 b (UB (UA (WT e) (I.ok.cab x c hfn hc)))).trans e1⟩
  ·let⟨o',e1⟩:=I.base.there b o e hx;exact⟨o',(hs.2 b (UB (UA (WT e) (I.ok.cab x c hfn hc)))).trans e1⟩
  ·by_cases hj:j=i
   ·subst hj;rw[hi] at e1;cases e1
    rw[Sh hiσ] at e2;cases e2
    exact⟨u,r,.inr ⟨.inl hk,c,hc,hc'⟩⟩
   ·rw[SF (UT hj)] at e2;let⟨u',r',q⟩:=hl j y v' e1 e2 e3;refine⟨u',r',?_⟩;obtain q | ⟨k,c',e,z'⟩:=q
    ·exact .inl q
    ·refine .inr ⟨k,c',e,z'.sameBut hs ?_⟩;rintro rfl;exact hj (vT hN e1 (I.ok.inj _ _ _ e hc▸hi))
  ·by_cases hcc:c'=c
   ·subst hcc;exact⟨_,hc'⟩
   ·let⟨w2,z2⟩:=I.cell y c' e;exact⟨w2,z2.sameBut hs hcc⟩
  ·let⟨e,n,ne,nf,d⟩:=I.pin p hp;refine⟨(hs.2 p.1 ?_).trans e,n,ne,nf,d⟩;intro q;rw[q,hoc] at e;let q':oc=p.2:=Option.some.inj e;exact d w' (by rw[← q'];exact hocd)
theorem rG {Q:Unit->Va->Prop}(I:`j)(hN:X.N.Nodup)(hi:X.N[i]?∣x)(hx:Loc X.env.scope x)(r:RelV v u)(h:∀s',Inv X XR (σ.set i (some v)) H s'->Q () s')(hf:fM X x:=by first | exact .inl rfl | exact .inr rfl | assumption):wpAny M A (storeName X.env x u) Q E s:=
 uU I hN hi hx r (λs' I' _=>h s' I') hf
theorem Inv.NG (I:`j)(ho:s'.os=s.os)(u:Un (nD X.stack) ch H H' s.heap s'.heap)(XX:fo X.prog X.w H' s'.heap)(hg:U6 s'.gens)(ZR:`aa):Inv X XR σ H' s':=by
 let⟨h',g',d',t',o'⟩:=s';let e:o'=s.os:=ho;subst e;exact I.call (g':=g') (t':=t') (d':=d') u XX hg ZR
end
abbrev XK:=Value->Option Addr->Hp->Prop
abbrev St:=List (Option V)
abbrev VK:=V->Hp->Prop
abbrev TE:=St->Hp->VK->Prop
abbrev TT:=St->Hp->(Bool->Hp->Prop)->Prop
abbrev TA:=St->Hp->(List V->Hp->Prop)->Prop
structure Ends where
 nx:St->Hp->Prop
 rt:VK
 bk:St->Hp->Prop:=λ_ _=>False
 ct:St->Hp->Prop:=λ_ _=>False
abbrev TS:=Ends->St->Hp->Prop
def EP (X:Cx)(XR:Ru)(σ:St)(Q:VK)(u:`aK)(s':Va):Prop:=∃v H',Inv X XR σ H' s'/\RelV v u/\Q v H'
def TP (X:Cx)(XR:Ru)(σ:St)(Q:Bool->Hp->Prop)(b:Bool)(s':Va):Prop:=∃H',Inv X XR σ H' s'/\Q b H'
def AP (X:Cx)(XR:Ru)(σ:St)(Q:List V->Hp->Prop)(us:RC)(s':Va):Prop:=∃vs H',Inv X XR σ H' s'/\Vals vs us/\Q vs H'
noncomputable def SP (X:Cx)(XR:Ru)(D:Ends)(f:Flow)(s':Va):Prop:=
 match f with
 | .next=>∃σ' H',Inv X XR σ' H' s'/\D.nx σ' H'
 | .brk=>∃σ' H',Inv X XR σ' H' s'/\D.bk σ' H'
 | .cont=>∃σ' H',Inv X XR σ' H' s'/\D.ct σ' H'
 | .ret u=>∃v σ' H',Inv X XR σ' H' s'/\RelV v u/\D.rt v H'
def PE (X:Cx)(e:Expr)(t:TE):Prop:=
 ∀(XR:Ru)(s:Va)(σ:St)(H:Hp)(Q:VK),Inv X XR σ H s->t σ H Q->wpAny `f X.A (eval e X.env) (EP X XR σ Q) X.xe s
def PT (X:Cx)(e:Expr)(t:TT):Prop:=
 ∀(XR:Ru)(s:Va)(σ:St)(H:Hp)(Q:Bool->Hp->Prop),Inv X XR σ H s->t σ H Q->wpAny `f X.A (VL e X.env (eval e X.env)) (TP X XR σ Q) X.xe s
def PW (X:Cx)(e:Expr)(t:TT):Prop:=
 ∀(whole:Sem Value)(XR:Ru)(s:Va)(σ:St)(H:Hp)(Q:Bool->Hp->Prop),Inv X XR σ H s->t σ H Q->wpAny `f X.A (VL e X.env whole) (TP X XR σ Q) X.xe s
variable {e:Expr}
theorem PW.pt {t:TT}(h:PW X e t):PT X e t:=h _
def PA (X:Cx)(es:RE)(t:TA):Prop:=
 ∀(pos:Pos)(XR:Ru)(s:Va)(σ:St)(H:Hp)(Q:List V->Hp->Prop),Inv X XR σ H s->t σ H Q->wpAny `f X.A (spliced (V1 pos (Vf es X.env))) (AP X XR σ Q) X.xe s
def PS (X:Cx)(st:Stmt)(t:TS):Prop:=
 ∀(XR:Ru)(s:Va)(σ:St)(H:Hp)(D:Ends),Inv X XR σ H s->t D σ H->wpAny `f X.A (exec st X.env) (SP X XR D) X.xe s
def lJ (X:Cx)(st:List Stmt)(t:TS):Prop:=
 ∀(XR:Ru)(s:Va)(σ:St)(H:Hp)(D:Ends),Inv X XR σ H s->t D σ H->wpAny `f X.A (execs st X.env) (SP X XR D) X.xe s
theorem a8 {α:Type}{t:Sem α}{Q Q':α->Va->Prop}(h:wpAny M A t Q E s)(hQ:∀a s,Q a s->Q' a s):wpAny M A t Q' E s:=Vo h hQ λ_ _ x=>x
variable {Q:`s}{pos:Pos}{σ:St}{ta:TE}{c:Expr}
section
def QH (i:Nat):TE:=λσ H Q=>∃v,σ[i]?∣some v/\Q v H
def tC (v:V):TE:=λ_ H Q=>Q v H
theorem aV (hN:At X i x):PE X (.Name x pos) (QH i):=by
 intro XR s σ H Q I h;let⟨v,e,h⟩:=h;let⟨m,hn,hl⟩:=I.loc;let⟨u,r,l⟩:=hl i x v hN.n e hN.v;let fin:EP X XR σ Q u s:=⟨v,H,I,r,h⟩;obtain⟨hk,hm⟩ | ⟨hk,c,hc,Zb⟩:=l
 ·exact wpAny_Name (wpAny_loadName_local I.ok.kind hk hn hm fin) hN.d
 ·obtain hk | hk:=hk
  ·exact wpAny_Name (wpAny_loadName_cell I.ok.kind hk hc Zb fin) hN.d
  ·exact wpAny_Name (wpAny_loadName_free I.ok.kind hk hc Zb fin hN.c) hN.d
theorem wL {i j pos}:PE X (.Constant (.int i) j pos) (tC (.int i)):=λ_ _ _ H _ I h=>wpAny_Constant_int ⟨.int i,H,I.tok _,⟨_,rfl⟩,h⟩
theorem AQ {b j pos}:PE X (.Constant (.bool b) j pos) (tC (.bl b)):=λ_ _ _ H _ I h=>Constant_bool ⟨.bl b,H,I,rfl,h⟩
theorem Lf {j pos}:PE X (.Constant .none j pos) (tC .X4):=λ_ _ _ H _ I h=>Constant_none ⟨.X4,H,I,rfl,h⟩
theorem J5 {x j pos}:PE X (.Constant (.str x) j pos) (tC (.str x)):=λ_ _ _ H _ I h=>Calls.Constant_str ⟨.str x,H,I.tok _,⟨_,rfl⟩,h⟩
def Gl (X:Cx)(x:Str):Prop:=X.env.kindOf x∣.globalImplicit
theorem uE (I:`j)(hg:Gl X x)(hm:X.mg x∣u)(h:Q u s)(hd:YJ x:=by decide):wpAny `f X.A (eval (.Name x pos) X.env) Q E s:=
 Calls.Name_function_global I.ok.kind hg (Calls.loadGlobal_global (by rw[I.ok.glob];exact I.mod.glob.keeps I.bk) hm h) hd
theorem ji (I:`j)(hg:Gl X x)(hm:X.mg x=none)(hv:VA x∣u)(h:Q u s)(hn:x≠"__name__":=by decide)(hd:YJ x:=by decide):wpAny `f X.A (eval (.Name x pos) X.env) Q E s:=by
 let⟨mb,h1,h2⟩:=I.mod.blt;exact Calls.Name_function_global I.ok.kind hg (Calls.loadGlobal_builtin (by rw[I.ok.glob];exact I.mod.glob.keeps I.bk) hm (by rw[I.ok.blt];exact h1.keeps I.bk) ((h2 x hn).trans hv) h) hd
theorem jI (hg:Gl X x)(hm:X.mg x∣u)(r:RelV v u)(hd:YJ x:=by decide):PE X (.Name x pos) (tC v):=
 λ_ _ _ H _ I h=>uE I hg hm ⟨v,H,I,r,h⟩ hd
theorem Ig (hg:Gl X x)(hm:X.mg x=none)(hv:VA x∣u)(r:RelV v u)(hn:x≠"__name__":=by decide)(hd:YJ x:=by decide):PE X (.Name x pos) (tC v):=
 λ_ _ _ H _ I h=>ji I hg hm hv ⟨v,H,I,r,h⟩ hn hd
variable {a b:Expr}{tb:TE}
def PC (X:Cx)(op:CmpOp)(a b:Expr)(t:TE):Prop:=
 ∀(XR:Ru)(s:Va)(σ:St)(H:Hp)(Q:VK),Inv X XR σ H s->t σ H Q->
  wpAny `f X.A (eval a X.env) (λv s₁=>wpAny `f X.A (eval b X.env) (λu s₂=>wpAny `f X.A (Vk op v u) (EP X XR σ Q) X.xe s₂) X.xe s₁) X.xe s
def tB (t:TE):TT:=λσ H Q=>t σ H λx H1=>∃c,x= .bl c/\Q c H1
theorem m8 {op:CmpOp}{t:TE}(h:PC X op a b t)(h1:Vx op b=false:=by first | exact nobehind _ `c `c | rfl):PT X (.Compare a [op] [b] pos) (tB t):=by
 intro XR s σ H Q I hw;refine wpAny_isTrue_Compare1 (a8 (h XR s σ H _ I hw) λv s1 h1=>a8 h1 λu s2 h2=>a8 h2 λc s3 ⟨x,H1,I1,r1,q1⟩=>?_) h1;let⟨d,rfl,q⟩:=q1;cases r1
 exact Vj ⟨H1,I1,q⟩
theorem Lm {t:TE}(h:PE X e t)(he:∀whole,VL e X.env whole=(do let v ← whole;VR e.pos;Vu [v] (truthy v)):=by intro _;rfl):PT X e (tB t):=by
 intro XR s σ H Q I hw;refine isTrue_plain (a8 (h XR s σ H _ I hw) λv s1 ⟨x,H1,I1,r1,q1⟩=>?_) (he _);let⟨d,rfl,q⟩:=q1;cases r1
 exact Vj ⟨H1,I1,q⟩
variable {tA tB':TT}{rest:RE}
noncomputable def QC (t u:TT):TT:=λσ H Q=>t σ H λc H1=>if c=true then u σ H1 Q else Q false H1
noncomputable def tOr (t u:TT):TT:=λσ H Q=>t σ H λc H1=>if c=true then Q true H1 else u σ H1 Q
def Rl (t:TT):TT:=λσ H Q=>t σ H λc H1=>Q (!c) H1
theorem Hz (ha:PT X a tA):PW X (.BoolOp .And [a] pos) tA:=by
 intro wh XR s σ H Q I h;refine isTrue_and (a8 (ha XR s σ H Q I h) λc s1 e=>?_);cases c with
 | true=>exact isTrue_and_nil e
 | false=>exact e
theorem Mb (ha:PT X a tA):PW X (.BoolOp .Or [a] pos) tA:=by
 intro wh XR s σ H Q I h;refine isTrue_or (a8 (ha XR s σ H Q I h) λc s1 e=>?_);cases c with
 | false=>exact isTrue_or_nil e
 | true=>exact e
theorem LO (ha:PT X a tA)(hb:PW X (.BoolOp .And (b::rest) pos) tB'):PW X (.BoolOp .And (a::b::rest) pos) (QC tA tB'):=by
 intro wh XR s σ H Q I h;refine isTrue_and (a8 `aL λc s1 ⟨H1,I1,q1⟩=>?_);cases c with
 | true=>exact hb wh XR s1 σ H1 Q I1 q1
 | false=>exact⟨H1,I1,q1⟩
theorem MT (ha:PT X a tA)(hb:PW X (.BoolOp .Or (b::rest) pos) tB'):PW X (.BoolOp .Or (a::b::rest) pos) (tOr tA tB'):=by
 intro wh XR s σ H Q I h;refine isTrue_or (a8 `aL λc s1 ⟨H1,I1,q1⟩=>?_);cases c with
 | true=>exact⟨H1,I1,q1⟩
 | false=>exact hb wh XR s1 σ H1 Q I1 q1
theorem Lb (ha:PT X a tA):PT X (.UnaryOp .Not a pos) (Rl tA):=by
 intro XR s σ H Q I h;exact isTrue_not (ha XR s σ H (λc H1=>Q (!c) H1) I h)
noncomputable def MR (ta tb:TE):TE:=λσ H Q=>ta σ H λx H1=>∃c,x= .bl c/\if c=true then tb σ H1 Q else Q (.bl false) H1
def Nr (ta:TE):TE:=λσ H Q=>ta σ H λx H1=>∃c,x= .bl c/\Q (.bl (!c)) H1
theorem Ke {op}{t:TE}(h:PE X a t):PE X (.BoolOp op [a] pos) t:=λXR s σ H Q I hw=>BoolOp_one (h XR s σ H Q I hw)
theorem Ko (ha:PE X a ta)(hb:PE X (.BoolOp .And (b::rest) pos) tb):PE X (.BoolOp .And (a::b::rest) pos) (MR ta tb):=by
 intro XR s σ H Q I h;refine BoolOp_and (a8 `aL λv s1 ⟨x,H1,I1,r1,q1⟩=>?_);let⟨c,rfl,q1⟩:=q1;cases r1
 refine Vj ?_;cases c with
 | true=>exact hb XR s1 σ H1 Q I1 q1
 | false=>exact⟨.bl false,H1,I1,rfl,q1⟩
theorem Kv (ha:PE X a ta):PE X (.UnaryOp .Not a pos) (Nr ta):=by
 intro XR s σ H Q I h;refine UnaryOp_ (a8 `aL λv s1 ⟨x,H1,I1,r1,q1⟩=>?_);let⟨c,rfl,q1⟩:=q1;cases r1
 exact not_of (Vj ⟨.bl (!c),H1,I1,rfl,q1⟩)
noncomputable def tIf (t:TT)(ta tb:TE):TE:=λσ H Q=>t σ H λc H1=>if c=true then ta σ H1 Q else tb σ H1 Q
theorem FF (hc:PT X c tA)(ha:PE X a ta)(hb:PE X b tb):PE X (.IfExp c a b pos) (tIf tA ta tb):=by
 intro XR s σ H Q I h;refine wpAny_IfExp (a8 (hc XR s σ H _ I h) λd s1 ⟨H1,I1,q1⟩=>?_);cases d with
 | true=>exact ha XR s1 σ H1 Q I1 q1
 | false=>exact hb XR s1 σ H1 Q I1 q1
end
def bw (K:Xh)(H:Hp)(a:Addr)(xs:`P):Prop:=
 Rd H a (.lst xs)∨
  ∃(o:Obj)(XT:Array Value)(n:Nat),K.lookup a∣o/\o.cls= .type "list"/\o.dict=none/\o.data= .seq XT n/\XT.size<=U9/\Vals xs XT.toList
def dY (K:Xh)(H:Hp)(a:Addr)(xs:`P):Prop:=
 Rd H a (.tup xs)∨
  ∃(o:Obj)(XT:Array Value)(n:Nat),K.lookup a∣o/\o.cls= .type "tuple"/\o.data= .seq XT n/\XT.size<=U9/\Vals xs XT.toList
noncomputable def QQ:Value->Option V
 | .none=>some .X4
 | .bool b=>some (.bl b)
 | .int i _=>some (.int i)
 | .str x _=>some (.str x)
 | .bytes b _=>some (.ZJ b)
 | .float b _=>some (.flt b)
 | .ref a=>some (.ref a)
 | .type n=>some (.ty n)
 | _=>none
theorem RelV.abs {x:V}(r:RelV x u):QQ u∣x:=by
 cases x with
 | X4=>cases r;rfl
 | bl _=>cases r;rfl
 | int _=>let⟨t,rfl⟩:=r;rfl
 | str _=>let⟨t,rfl⟩:=r;rfl
 | ZJ _=>let⟨t,rfl⟩:=r;rfl
 | flt _=>let⟨t,rfl⟩:=r;rfl
 | ref _=>cases r;rfl
 | ty _=>cases r;rfl
theorem RelV.inj {x y:V}{u:`aK}(r:RelV x u)(q:RelV y u):x=y:=Option.some.inj (r.abs.symm.trans q.abs)
theorem Vals.inj:∀{xs ys:`P}{us:RC},Vals xs us->Vals ys us->xs=ys
 | _,_,_,.nil,.nil=>rfl
 | _,_,_,.cons r t,.cons r' t'=>by rw[r.inj r',Vals.inj t t']
variable {xs:`P}{K:Xh}
section
variable {ys:`P}
theorem bw.of (h:H a∣.lst xs):bw K H a xs:=.inl (.inl h)
theorem dY.of (h:H a∣.tup xs):dY K H a xs:=.inl (.inl h)
theorem Inv.list (I:`j)(h:bw X.K H a xs):∃XT:RC,Vals xs XT/\PlainL s.heap a XT.toArray/\xs.length<=U9:=by
 obtain h | ⟨o,XT,n,hk,hc,hd,hs,hz,r⟩:=h
 ·let⟨z,XT,n,r,e⟩:=h.ok I.XX;exact⟨XT,r,⟨_,n,e,rfl,rfl,rfl⟩,z⟩
 ·refine⟨XT.toList,r,⟨o,n,I.gu a o hk,hc,hd,by simpa using hs⟩,?_⟩;let e:=r.length;simp only[RG] at e;cbv
theorem Inv.tuple (I:`j)(h:dY X.K H a xs):∃XT:RC,Vals xs XT/\IsTup s.heap a XT.toArray/\xs.length<=U9:=by
 obtain h | ⟨o,XT,n,hk,hc,hs,hz,r⟩:=h
 ·let⟨z,XT,r,p⟩:=h.ok I.XX;exact⟨XT,r,p,z⟩
 ·refine⟨XT.toList,r,⟨o,I.gu a o hk,hc,n,by simpa using hs⟩,?_⟩;let e:=r.length;simp only[RG] at e;cbv
theorem Inv.oa (I:`j)(h:bw X.K H a xs)(h':bw X.K H a ys):xs=ys:=by
 let⟨XT,r,⟨o,n,e,_,_,d⟩,_⟩:=I.list h;let⟨its',r',⟨o',n',e',_,_,d'⟩,_⟩:=I.list h';rw[e] at e';cases e'
 rw[d] at d';injection d' with d1 _;have:XT=its':= ~~~congrArg Array.toList d1
 subst this;exact r.inj r'
theorem Inv.u5 (I:`j)(h:dY X.K H a xs)(h':dY X.K H a ys):xs=ys:=by
 let⟨XT,r,⟨o,e,_,n,d⟩,_⟩:=I.tuple h;let⟨its',r',⟨o',e',_,n',d'⟩,_⟩:=I.tuple h';rw[e] at e';cases e'
 rw[d] at d';injection d' with d1 _;have:XT=its':= ~~~congrArg Array.toList d1
 subst this;exact r.inj r'
end
abbrev Cx.mC (X:Cx)(E:`s):Cx:={X with xe:=E}
abbrev Cx.gW (X:Cx):Cx:=X.mC λ_ _=>False
theorem Cx.Ok.mC {X:Cx}(ok:X.Ok)(E:`s):(X.mC E).Ok:=
 ⟨ok.mod,ok.kind,ok.glob,ok.blt,ok.above,ok.inj,ok.has,ok.cab,ok.hd,ok.frames,ok.stk,ok.exf,ok.bs,ok.bsz,ok.ZW,ok.ZO,ok.YR,ok.frf⟩
theorem Cx.Ok.jS (ok:(X.mC E).Ok):X.Ok:=
 ⟨ok.mod,ok.kind,ok.glob,ok.blt,ok.above,ok.inj,ok.has,ok.cab,ok.hd,ok.frames,ok.stk,ok.exf,ok.bs,ok.bsz,ok.ZW,ok.ZO,ok.YR,ok.frf⟩
theorem Inv.mC (I:`j)(E:`s):Inv (X.mC E) XR σ H s:=⟨I.ok.mC E,I.os,I.bare,I.base,I.loc,I.cell,I.free,I.YB,I.pin,I.XX,I.len⟩
theorem Inv.jS (I:Inv (X.mC E) XR σ H s):Inv X XR σ H s:=⟨I.ok.jS,I.os,I.bare,I.base,I.loc,I.cell,I.free,I.YB,I.pin,I.XX,I.len⟩
theorem SP.jS {D:Ends}{f:Flow}{s':Va}(h:SP (X.mC E) XR D f s'):SP X XR D f s':=by
 cases f with
 | next=>let⟨σ',H',I,q⟩:=h;exact⟨σ',H',I.jS,q⟩
 | brk=>let⟨σ',H',I,q⟩:=h;exact⟨σ',H',I.jS,q⟩
 | cont=>let⟨σ',H',I,q⟩:=h;exact⟨σ',H',I.jS,q⟩
 | ret u=>let⟨v,σ',H',I,r,q⟩:=h;exact⟨v,σ',H',I.jS,r,q⟩
theorem lJ.gW {st:List Stmt}{t:TS}(h:lJ X.gW st t):lJ X st t:=λXR s σ H D I hw=>
 Vo (h XR s σ H D (I.mC _) hw) (λ_ _ q=>q.jS) λ_ _ z=>RQ z
variable {te:TE}{tc:TT}
section
variable {st:Stmt}{rest:List Stmt}{t u:TS}
def N3:TS:=λD σ H=>D.nx σ H
def Q4 (t u:TS):TS:=λD σ H=>t {D with nx:=u D} σ H
theorem Iv:lJ X [] N3:=λ_ _ σ H _ I h=>VS ⟨σ,H,I,h⟩
theorem EX (h1:PS X st t)(h2:lJ X rest u):lJ X (st::rest) (Q4 t u):=by
 intro XR s σ H D I h;refine wpAny_execs_cons (a8 (h1 XR s σ H {D with nx:=u D} I h) λf s1 q=>?_);cases f with
 | next=>
   let⟨σ',H',I',q⟩:=q;exact h2 XR s1 σ' H' D I' q
 | ret v=>exact q
 | brk=>exact q
 | cont=>exact q
theorem IG (h1:PS X st t):lJ X [st] t:=by
 intro XR s σ H D I h;refine wpAny_execs_cons (a8 (h1 XR s σ H D I h) λf s1 q=>?_);cases f with
 | next=>exact VS q
 | ret v=>exact q
 | brk=>exact q
 | cont=>exact q
theorem Inv.quiet (I:`j):interactive X.env=false:=by simp[interactive,I.ok.kind]
def Nq (te:TE):TS:=λD σ H=>te σ H λ_ H1=>D.nx σ H1
theorem dQ (he:PE X e te)(hs:Vh e none pos.line X.env=pure false:=by rfl):PS X (.Expr e pos) (Nq te):=by
 intro XR s σ H D I h;exact wpAny_Expr_any (a8 (he XR s σ H _ I h) λv s1 ⟨x,H1,I1,r1,q1⟩=>⟨σ,H1,I1,q1⟩) I.quiet hs
def Rn (te:TE):TS:=λD σ H=>te σ H D.rt
theorem h9 (he:PE X e te):PS X (.Return (some e) pos) (Rn te):=by
 intro XR s σ H D I h;exact wpAny_Return_some (a8 (he XR s σ H _ I h) λv s1 ⟨x,H1,I1,r1,q1⟩=>⟨x,σ,H1,I1,r1,q1⟩)
noncomputable def QS (c:TT)(t u:TS):TS:=λD σ H=>c σ H λb H1=>if b=true then t D σ H1 else u D σ H1
theorem OA {a b:List Stmt}(hc:PT X c tc)(ha:lJ X a t)(hb:lJ X b u):PS X (.If c a b pos) (QS tc t u):=by
 intro XR s σ H D I h;refine wpAny_If (a8 (hc XR s σ H _ I h) λd s1 ⟨H1,I1,q1⟩=>?_);cases d with
 | true=>exact ha XR s1 σ H1 D I1 q1
 | false=>exact hb XR s1 σ H1 D I1 q1
end
abbrev TG:=V->St->Hp->(St->Hp->Prop)->Prop
abbrev sZ:=List V->St->Hp->(St->Hp->Prop)->Prop
def PG (X:Cx)(target:Expr)(t:TG):Prop:=
 ∀(XR:Ru)(s:Va)(σ:St)(H:Hp)(v:V)(u:`aK)(Q:St->Hp->Prop),Inv X XR σ H s->RelV v u->t v σ H Q->
  wpAny `f X.A (VD target X.env u) (λ_ s'=>∃σ' H',Inv X XR σ' H' s'/\Q σ' H') X.xe s
noncomputable def CJ (X:Cx)(ts:RE)(t:sZ):Prop:=
 ∀(XR:Ru)(s:Va)(σ:St)(H:Hp)(vs:`P)(us:RC)(Q:St->Hp->Prop),Inv X XR σ H s->Vals vs us->t vs σ H Q->
  wpAny `f X.A (assignInOrder ((Vp ts X.env).map (·.2)) us) (λ_ s'=>∃σ' H',Inv X XR σ' H' s'/\Q σ' H') X.xe s
abbrev Es:=V->V->V->Hp->(Hp->Prop)->Prop
def JO (X:Cx)(t:Es):Prop:=
 ∀(XR:Ru)(s:Va)(σ:St)(H:Hp)(o i v:V)(ov iv u:`aK)(Q:Hp->Prop),Inv X XR σ H s->RelV o ov->RelV i iv->RelV v u->t o i v H Q->
  wpAny `f X.A (We ov iv u) (λ_ s'=>∃H',Inv X XR σ H' s'/\Q H') X.xe s
abbrev GX:=V->V->Hp->VK->Prop
def Pr (X:Cx)(op:Operator)(t:GX):Prop:=
 ∀(XR:Ru)(s:Va)(σ:St)(H:Hp)(x y:V)(v u:`aK)(Q:VK),Inv X XR σ H s->RelV x v->RelV y u->t x y H Q->
  wpAny `f X.A (inplaceOp op v u) (EP X XR σ Q) X.xe s
variable {op:Operator}{es:RE}{n:Nat}{tg:Expr}{pos':Pos}
def A7 (i:Nat):TG:=λv σ H Q=>Q (σ.set i (some v)) H
theorem fz (hN:X.N.Nodup)(hi:X.N[i]?∣x)(hx:Loc X.env.scope x)(hf:fM X x:=by first | exact .inl rfl | exact .inr rfl | assumption):PG X (.Name x pos) (A7 i):=by
 intro XR s σ H v u Q I r h;exact wpAny_assign_Name (rG I hN hi hx r (λs' I'=>⟨_,H,I',h⟩) hf)
def QN:sZ:=λvs σ H Q=>vs=[]/\Q σ H
def N5 (t:TG)(u:sZ):sZ:=λvs σ H Q=>∃v r,vs=v::r/\t v σ H λσ' H'=>u r σ' H' Q
theorem pJ:CJ X [] QN:=by
 intro XR s σ H vs us Q I r h;let⟨e,h⟩:=h;subst e;cases r
 exact assignInOrder_nil ⟨σ,H,I,h⟩
theorem fb {t:TG}{u:sZ}(h1:PG X e t)(h2:CJ X es u)(hs:(Vp (e::es) X.env).map (·.2)=VD e X.env::(Vp es X.env).map (·.2):=by rfl):CJ X (e::es) (N5 t u):=by
 intro XR s σ H vs us Q I r h;let⟨v,vr,e1,h⟩:=h;subst e1;cases r with
 | cons r rr=>
   rw[hs];refine assignInOrder_cons (a8 (h1 XR s σ H _ _ _ I r h) λ_ s1 ⟨σ1,H1,I1,q1⟩=>?_);exact h2 XR s1 σ1 H1 _ _ Q I1 rr q1
def QU (K:Xh)(n:Nat)(t:sZ):TG:=λv σ H Q=>∃a xs,v= .ref a/\dY K H a xs/\xs.length=n/\t xs σ H Q
theorem wF {k:Nat}{t:sZ}(hc:X.calm=true)(h:CJ X es t)(hn:(Vp es X.env).length=n:=by rfl)(hst:(Vp es X.env).findIdx? (·.1)=none:=by rfl):PG X (.Tuple es k pos) (QU X.K n t):=by
 intro XR s σ H v u Q I r hw;let⟨a,xs,e1,hq,hl,hw⟩:=hw;subst e1;cases r
 let⟨XT,rv,ht,hz⟩:=I.tuple hq;refine assign_Tuple_tuple (I.ok.hd hc) ht (by simp[hn,← hl,rv.length]) hst λh' hx=>?_;let I1:Inv X XR σ H {s with heap:=h'}:=I.kept (t':=s.toks) λb o e=>hx b o (UB (WT e)) e;exact h XR _ σ H xs _ Q I1 (~~~rv) hw
def QZ (to ti:TE)(t:Es):TG:=λv σ H Q=>to σ H λo H1=>ti σ H1 λi H2=>t o i v H2 λH3=>Q σ H3
theorem xE {o i:Expr}{to ti:TE}{t:Es}(ho:PE X o to)(hi:PE X i ti)(hs:JO X t)(ha:∀v,VD (.Subscript o i pos) X.env v=(do
  let ov ← Vu [v] (eval o X.env)
  let iv ← Vu [v,ov] (eval i X.env)
  VR pos
  Vu [v,ov,iv] (We ov iv v)
  release [v,ov,iv] []):=by intro _;rfl):PG X (.Subscript o i pos) (QZ to ti t):=by
 intro XR s σ H v u Q I r h;rw[ha];refine Vb (Vq (a8 (ho XR s σ H _ I h) λov s1 ⟨x,H1,I1,r1,q1⟩=>?_));refine Vb (Vq (a8 (hi XR s1 σ H1 _ I1 q1) λiv s2 ⟨y,H2,I2,r2,q2⟩=>?_));refine Vb (V2 (Vb (Vq (a8 (hs XR s2 σ H2 x y v ov iv u _ I2 r1 r2 r q2) λ_ s3 ⟨H3,I3,q3⟩=>?_))));exact wpAny_release ⟨σ,H3,I3,q3⟩
def FU (te:TE)(g:TG):TS:=λD σ H=>te σ H λx H1=>g x σ H1 D.nx
theorem sD {g:TG}(he:PE X e te)(hg:PG X tg g)(hs:VP [tg] e pos.line X.env=pure false:=by rfl)(hw:VQ [tg] e X.env=pure none:=by rfl)(h1:(Vp [tg] X.env).map (·.2)=[VD tg X.env]:=by rfl):PS X (.Assign [tg] e pos) (FU te g):=by
 intro XR s σ H D I h;refine wpAny_Assign_stores (a8 (he XR s σ H _ I h) λv s1 ⟨x,H1,I1,r1,q1⟩=>?_) hs hw;rw[h1];exact a8 (hg XR s1 σ H1 x v _ I1 r1 q1) λ_ s2 q=>q
theorem jV (hN:X.N.Nodup)(hi:X.N[i]?∣x)(hx:Loc X.env.scope x)(he:PE X e te)(hs:Vh e (some (.Name x pos')) pos.line X.env=pure false:=by rfl)(hf:fM X x:=by first | exact .inl rfl | exact .inr rfl | assumption):
 PS X (.Assign [.Name x pos'] e pos) (FU te (A7 i)):=by
 intro XR s σ H D I h;refine wpAny_Assign_Name (a8 (he XR s σ H _ I h) λv s1 ⟨y,H1,I1,r1,q1⟩=>?_) hs;exact rG I1 hN hi hx r1 (λs2 I2=>⟨_,H1,I2,q1⟩) hf
def Ri (i:Nat)(te:TE)(ti:GX):TS:=λD σ H=>∃x,σ[i]?∣some x/\te σ H λy H1=>ti x y H1 λz H2=>D.nx (σ.set i (some z)) H2
theorem Lc {ti:GX}(hN:X.N.Nodup)(hi:X.N[i]?∣x)(hx:Loc X.env.scope x)(he:PE X e te)(ho:Pr X op ti)(hf:fM X x:=by first | exact .inl rfl | exact .inr rfl | assumption):
 PS X (.AugAssign (.Name x pos') op e pos) (Ri i te ti):=by
 intro XR s σ H D I h;let⟨v,e1,h⟩:=h;let⟨m,hn,hl⟩:=I.loc;let vis:Dz X.env.scope x:=by obtain k | k:=hx;exact .inl k;exact .inr (.inl k)
 let⟨u,r,l⟩:=hl i x v hi e1 vis;refine wpAny_AugAssign_Name ?_;let go:wpAny `f X.A (eval e X.env) (λw s₂=>wpAny `f X.A (inplaceOp op u w) (λr s₃=>wpAny `f X.A (storeName X.env x r) (λ_=>SP X XR D .next) X.xe s₃) X.xe s₂) X.xe s:=by
  refine a8 (he XR s σ H _ I h) λw s1 ⟨y,H1,I1,r1,q1⟩=>?_;refine a8 (ho XR s1 σ H1 v y u w _ I1 r r1 q1) λz s2 ⟨zv,H2,I2,r2,q2⟩=>?_;exact rG I2 hN hi hx r2 (λs3 I3=>⟨_,H2,I3,q2⟩) hf
 obtain⟨hk,hm⟩ | ⟨hk,c,hc,Zb⟩:=l
 ·exact wpAny_loadName_local I.ok.kind hk hn hm go
 ·obtain hk | hk:=hk
  ·exact wpAny_loadName_cell I.ok.kind hk hc Zb go
  ·obtain k | k:=hx
   ·have:X.env.scope.names.lookup x∣.free:=hk;rw[k] at this;cases this
   ·have:X.env.scope.names.lookup x∣.free:=hk;rw[k] at this;cases this
def ipI (f:Int->Int->Int):GX:=λx y H Q=>∃i j,x= .int i/\y= .int j/\Q (.int (f i j)) H
theorem KO:Pr X .Add (ipI λi j=>i+j):=by
 intro XR s σ H x y v u Q I r1 r2 h;let⟨i,j,e1,e2,q⟩:=h;subst e1;subst e2;let⟨t,rfl⟩:=r1;let⟨t',rfl⟩:=r2;exact iadd_int ⟨.int _,H,I.tok _,⟨_,rfl⟩,q⟩
variable {body:List Stmt}{tb:TS}
noncomputable def JI (c:TT)(tb:TS):TS:=λD σ H=>∃W:Nat->St->Hp->Prop,(∃m,W m σ H)/\∀m σ H,W m σ H->
 c σ H λb H1=>if b=true then∃N:St->Hp->Prop,(∀σ' H',N σ' H'->∃m',m'<m/\W m' σ' H')/\tb {D with nx:=N,ct:=N,bk:=D.nx} σ H1 else D.nx σ H1
theorem Fe (hp:Wa `f X.A X.env X.xe)(hc:PT X c tc)(hb:lJ X body tb):PS X (.While c body [] pos) (JI tc tb):=by
 intro XR s σ H D I h;let⟨W,⟨m0,w0⟩,turn⟩:=h;refine wpAny_While (codeAny_whileLoop (λn s'=>∃σ' H',Inv X XR σ' H' s'/\W n σ' H') ?_ m0 ⟨σ,H,I,w0⟩);rintro n s1 ⟨σ1,H1,I1,w1⟩;refine VC hp (a8 (hc XR s1 σ1 H1 _ I1 (turn n σ1 H1 w1)) λb s2 ⟨H2,I2,q2⟩=>?_);cases b with
 | true=>
   let⟨N,hN,q2⟩:=q2;rw[XG rfl];refine VC hp (a8 (hb XR s2 σ1 H2 _ I2 q2) λf s3 q3=>?_);cases f with
   | next=>
     let⟨σ3,H3,I3,n3⟩:=q3;let⟨m',hm,w3⟩:=hN σ3 H3 n3;exact⟨m',hm,σ3,H3,I3,w3⟩
   | cont=>
     let⟨σ3,H3,I3,n3⟩:=q3;let⟨m',hm,w3⟩:=hN σ3 H3 n3;exact⟨m',hm,σ3,H3,I3,w3⟩
   | brk=>exact q3
   | ret v=>exact q3
 | false=>
   rw[XF RH];exact VS ⟨σ1,H2,I2,q2⟩
structure It where
 go:Nat->Hp->Prop
 yld:Nat->Hp->V->Hp->Prop
 stop:Nat->Hp->Prop
def mB (X:Cx)(XR:Ru)(H:Hp)(b:Addr):Prop:=
 H b=none/\b≠X.env.locals/\b∉X.fs/\(b∈X.ex∨X.s₀.heap.objs.size<=b)/\(∀x c,X.env.cells.lookup x∣c->c≠b)/\∀p∈X.pn++XR,p.1≠b
theorem Inv.j8 (I:`j)(hb:⇑s<=b)(hn:H' b=none):mB X XR H' b:=by
 refine⟨hn,UJ (UA I.lt hb),I.QM hb,.inr (Ux I.sz hb),λx c e z=>?_,λp hp z=>?_⟩
 ·let⟨v,q⟩:=I.cell x c e;exact XE (UA q.lt (by rw[z];exact hb)) (UC _)
 ·exact XE (UA (WT (I.pin p hp).1) (by rw[z];exact hb)) (UC _)
structure Turn (P:Ve)(w:World)(K:Xh)(tg:Expr)(J:It)(fp:Rz)(it:Addr)(tn:Nat->Heap->Prop):Prop where
 mem:it∈fp
 obj:∀i h,tn i h->∀b∈fp,∃o,h.get? b∣o/\∀v,o.data≠ .cell v
 keep:∀i h h',tn i h->(∀b∈fp,∀o,h.get? b∣o->h'.get? b∣o)->tn i h'
 item:∀(X:Cx),X.prog=P->X.w=w->X.K=K->X.calm=true->∀(i:Nat)(XR:Ru)(s:Va)(σ:St)(H:Hp)(E:`s),Inv X XR σ H s->(∀b∈fp,mB X XR H b)->tn i s.heap->J.go i H->
  wpAny (model P w) X.A (V7 (.ref it)) (λr s1=>∃u,r∣u/\
   wpAny (model P w) X.A (VT tg (.ref it) u) (λ_ s2=>∃x H',Inv X XR σ H' s2/\RelV x u/\J.yld i H x H'/\tn (i+1) s2.heap/\∀b∈fp,H' b=none) E s1) E s
 done:∀(X:Cx),X.prog=P->X.w=w->X.K=K->X.calm=true->∀(i:Nat)(XR:Ru)(s:Va)(σ:St)(H:Hp)(E:`s),Inv X XR σ H s->(∀b∈fp,mB X XR H b)->tn i s.heap->J.stop i H->
  wpAny (model P w) X.A (V7 (.ref it)) (λr s1=>r=none/\Inv X XR σ H s1) E s
 self:∀(A:Vg)(i:Nat)(s:Va)(Q:`s)(E:`s),tn i s.heap->Q (.ref it) s->wpAny (model P w) A (pyIter (.ref it)) Q E s
abbrev TI:=St->Hp->(It->Hp->Prop)->Prop
def Kw (X:Cx)(XR:Ru)(σ:St)(tg:Expr)(R:It->Hp->Prop)(itv:`aK)(s2:Va):Prop:=
 ∃(it:Addr)(fp:Rz)(tn:Nat->Heap->Prop)(J:It)(H':Hp),itv= .ref it/\Inv X XR σ H' s2/\Turn X.prog X.w X.K tg J fp it tn/\tn 0 s2.heap/\(∀b∈fp,mB X XR H' b)/\R J H'
def PI (X:Cx)(tg iter:Expr)(wi:TI):Prop:=
 ∀(XR:Ru)(s:Va)(σ:St)(H:Hp)(R:It->Hp->Prop),Inv X XR σ H s->wi σ H R->
  wpAny `f X.A (eval iter X.env) (λv s1=>wpAny `f X.A (pyIter v) (Kw X XR σ tg R) X.xe s1) X.xe s
theorem pE {n:String}{vs:Array Value}{Q:Unit->Va->Prop}(ho:s.heap.get? it∣o)(hc:o.cls= .type n)(hd:o.data= .fields vs)(hn:["enumerate","zip","dict_itemiterator","dict_reverseitemiterator","odict_iterator","itertools.zip_longest","itertools.pairwise"].contains n=false)(hQ:Q () s):wpAny M A (VT tg (.ref it) u) Q E s:=by
 unfold VT;cases tg<;>first
  | exact Vd hQ
  | (cases u<;>first
   | exact Vd hQ
   | (refine Vb (wpAny_load ho ?_)
      rw[hc,hd];show wpAny M A (if(["enumerate","zip","dict_itemiterator","dict_reverseitemiterator","odict_iterator","itertools.zip_longest","itertools.pairwise"].contains n&&vs[0]?==some (Wf _))=true then _ else _) Q E s;rw[XF (by intro h;rw[hn,Bool.false_and] at h;cases h)]
      exact Vd hQ))
def Qo (K:Xh)(a:Addr):It:=
 ⟨λi H=>∃xs x,bw K H a xs/\xs[i]?∣x,λi H x H'=>H'=H/\∀xs,bw K H a xs->xs[i]?∣x,λi H=>∃xs,bw K H a xs/\xs.length<=i⟩
def P9 (K:Xh)(a:Addr):It:=
 ⟨λi H=>∃xs x,dY K H a xs/\xs[i]?∣x,λi H x H'=>H'=H/\∀xs,dY K H a xs->xs[i]?∣x,λi H=>∃xs,dY K H a xs/\xs.length<=i⟩
def Bw (lo:Int)(n:Nat):It:=⟨λi _=>i<n,λi H x H'=>H'=H/\x= .int (lo+i),λi _=>n<=i⟩
theorem By (a it:Addr):Turn P w K tg (Qo K a) [it] it (λi h=>h.IsListIter it a i) where
 mem:=`d
 obj:=λi h st b hb=>by
  let e:b=it:= ~~~hb
  subst e;let⟨o,e,c,d⟩:=st;exact⟨o,e,λv z=>by rw[d] at z;cases z⟩
 keep:=λi h h' st k=>st.at λo e=>k it `d o e
 item:=by
  intro X hP hw hK hc i XR s σ H E I hf st hg;subst hP hw hK;let⟨xs,x,hq,hx⟩:=hg;let⟨XT,rv,p,hz⟩:=I.list hq;let⟨u,hu,ru⟩:=rv.get hx;let⟨f0,f1,f2,f3,f4,f5⟩:=hf it `d;refine wpAny_pyNext_list_item st p.isList (x:=u) (~~~hu) λh' Zq sb=>?_;let I1:Inv X XR σ H {s with heap:=h'}:=I.turned (t':=s.toks) (λb o hb e=>(sb.2 b hb).trans e) f0 f1 f3 f4 f5;let⟨o,e,c,d⟩:=id Zq;exact⟨u,rfl,pE (s:={s with heap:=h'}) e c d `c ⟨x,H,I1,ru,⟨rfl,λys hy=>by rw[I.oa hy hq];exact hx⟩,Zq,λb hb=>(hf b hb).1⟩⟩
 done:=by
  intro X hP hw hK hc i XR s σ H E I hf st hg;subst hP hw hK;let⟨xs,hq,hx⟩:=hg;let⟨XT,rv,p,hz⟩:=I.list hq;let⟨f0,f1,f2,f3,f4,f5⟩:=hf it `d;let hl:=rv.length;exact wpAny_pyNext_list_end (I.ok.hd hc) st p.isList (by simp;cbv) λh' eb=>⟨rfl,I.turned (t':=s.toks) (λb o hb e=>eb b o hb e) f0 f1 f3 f4 f5⟩
 self:=λ_ _ _ _ _ st h=>wpAny_pyIter_listiter st h
theorem Bm (a it:Addr):Turn P w K tg (P9 K a) [it] it (λi h=>h.IsTupleIter it a i) where
 mem:=`d
 obj:=λi h st b hb=>by
  let e:b=it:= ~~~hb
  subst e;let⟨o,e,c,d⟩:=st;exact⟨o,e,λv z=>by rw[d] at z;cases z⟩
 keep:=λi h h' st k=>st.at λo e=>k it `d o e
 item:=by
  intro X hP hw hK hc i XR s σ H E I hf st hg;subst hP hw hK;let⟨xs,x,hq,hx⟩:=hg;let⟨XT,rv,p,hz⟩:=I.tuple hq;let⟨u,hu,ru⟩:=rv.get hx;let⟨f0,f1,f2,f3,f4,f5⟩:=hf it `d;refine wpAny_pyNext_tuple_item st (show s.heap.IsTuple a XT.toArray from p) (x:=u) (~~~hu) λh' Zq sb=>?_;let I1:Inv X XR σ H {s with heap:=h'}:=I.turned (t':=s.toks) (λb o hb e=>(sb.2 b hb).trans e) f0 f1 f3 f4 f5;let⟨o,e,c,d⟩:=id Zq;exact⟨u,rfl,pE (s:={s with heap:=h'}) e c d `c ⟨x,H,I1,ru,⟨rfl,λys hy=>by rw[I.u5 hy hq];exact hx⟩,Zq,λb hb=>(hf b hb).1⟩⟩
 done:=by
  intro X hP hw hK hc i XR s σ H E I hf st hg;subst hP hw hK;let⟨xs,hq,hx⟩:=hg;let⟨XT,rv,p,hz⟩:=I.tuple hq;let⟨f0,f1,f2,f3,f4,f5⟩:=hf it `d;let hl:=rv.length;exact wpAny_pyNext_tuple_end (I.ok.hd hc) st (show s.heap.IsTuple a XT.toArray from p) (by simp;cbv) λh' eb=>⟨rfl,I.turned (t':=s.toks) (λb o hb e=>eb b o hb e) f0 f1 f3 f4 f5⟩
 self:=λ_ _ _ _ _ st h=>wpAny_pyIter_tupleiter st h
theorem AF (it:Addr)(lo:Int)(n:Nat):Turn P w K tg (Bw lo n) [it] it (λi h=>Wc h it (lo+(i:Nat)*1) ((n:Int)-(i:Nat)) 1) where
 mem:=`d
 obj:=λi h st b hb=>by
  let e:b=it:= ~~~hb
  subst e;exact⟨_,st,λv z=>by
   let z':Data.fields _=Data.cell v:=z;cases z'⟩
 keep:=λi h h' st k=>k it `d _ st
 item:=by
  intro X hP hw hK hc i XR s σ H E I hf st hg;subst hP hw hK;let⟨f0,f1,f2,f3,f4,f5⟩:=hf it `d;let W:=Walks.range (prog:=X.prog) (w:=X.w) (I.ok.hd hc) it lo 1 n;refine W.item i s _ _ hg st λv h' tk hv Zq kk=>?_;let⟨t,rfl⟩:=hv;let I1:Inv X XR σ H {s with heap:=h',toks:=tk}:=I.turned (λb o hb e=>kk b o (~~~hb) e) f0 f1 f3 f4 f5;refine⟨_,rfl,pE (s:={s with heap:=h',toks:=tk}) (n:="range_iterator") Zq rfl rfl `c ⟨.int (lo+i),H,I1,⟨t,?_⟩,⟨rfl,rfl⟩,Zq,λb hb=>(hf b hb).1⟩⟩;rw[Int.mul_one]
 done:=by
  intro X hP hw hK hc i XR s σ H E I hf st hg;subst hP hw hK;let⟨f0,f1,f2,f3,f4,f5⟩:=hf it `d;exact wpAny_pyNext_range_end (I.ok.hd hc) st (by have:n<=i:=hg;cbv) λh' eb=>⟨rfl,I.turned (t':=s.toks) (λb o hb e=>eb b o hb e) f0 f1 f3 f4 f5⟩
 self:=λ_ _ _ _ _ st h=>wpAny_pyIter_rangeiter st h
variable {l:Expr}{tl:TE}
def Oh (K:Xh)(tl:TE):TI:=λσ H R=>tl σ H λx H1=>∃a,x= .ref a/\(∃xs,bw K H1 a xs)/\R (Qo K a) H1
def Q7 (K:Xh)(tl:TE):TI:=λσ H R=>tl σ H λx H1=>∃a,x= .ref a/\(∃xs,dY K H1 a xs)/\R (P9 K a) H1
theorem zO (hl:PE X l tl):PI X tg l (Oh X.K tl):=by
 intro XR s σ H R I h;refine a8 (hl XR s σ H _ I h) λv s1 ⟨x,H1,I1,r1,q1⟩=>?_;let⟨a,e,⟨xs,hq⟩,q⟩:=q1;subst e;cases r1
 let⟨XT,rv,p,hz⟩:=I1.list hq;refine VG p.isList ?_;refine⟨⇑s1,[⇑s1],_,_,H1,rfl,I1.kept (t':=s1.toks) λb o e=>WR _ e,By a _,⟨_,WU _ rfl,rfl,rfl⟩,λb hb=>?_,q⟩;let e:b=⇑s1:= ~~~hb
 subst e;exact I1.j8 (Uw _) (I1.XX.fresh (Uw _))
theorem D6 (hl:PE X l tl):PI X tg l (Q7 X.K tl):=by
 intro XR s σ H R I h;refine a8 (hl XR s σ H _ I h) λv s1 ⟨x,H1,I1,r1,q1⟩=>?_;let⟨a,e,⟨xs,hq⟩,q⟩:=q1;subst e;cases r1
 let⟨XT,rv,p,hz⟩:=I1.tuple hq;refine wpAny_pyIter_tuple (show s1.heap.IsTuple a XT.toArray from p) ?_;refine⟨⇑s1,[⇑s1],_,_,H1,rfl,I1.kept (t':=s1.toks) λb o e=>WR _ e,Bm a _,⟨_,WU _ rfl,rfl,rfl⟩,λb hb=>?_,q⟩;let e:b=⇑s1:= ~~~hb
 subst e;exact I1.j8 (Uw _) (I1.XX.fresh (Uw _))
theorem wR {R:It->Hp->Prop}{lo hi:Int}{t u v:Tok}{tk:Nat}(I:`j)(h1: -(2 ^ 62)<=lo)(h2:lo<2 ^ 62)(h3: -(2 ^ 62)<=hi)(h4:hi<2 ^ 62)(q:R (Bw lo (hi-lo).toNat) H):wpAny `f X.A (pyIter (.ref ⇑s)) (Kw X XR σ tg R) E {s with heap:=s.heap.push {cls:=.type "range",data:=.fields #[.int lo t,.int hi u,.int 1 v]},toks:=tk}:=by
 refine wpAny_pyIter_range (IsRange.new ..) (small_one h1 h2 h3 h4) ?_;let I1:Inv X XR σ H {s with heap:=s.heap.push {cls:=.type "range",data:=.fields #[.int lo t,.int hi u,.int 1 v]},toks:=tk}:=I.kept λb o e=>WR _ e;refine⟨(s.heap.push {cls:=.type "range",data:=.fields #[.int lo t,.int hi u,.int 1 v]}).objs.size,[(s.heap.push {cls:=.type "range",data:=.fields #[.int lo t,.int hi u,.int 1 v]}).objs.size],_,_,H,rfl,
  I1.kept (t':=tk) λb o e=>WR _ e,AF _ lo (hi-lo).toNat,?_,λb hb=>?_,q⟩
 ·let e1:lo+((0:Nat):Int)*1=lo:=`d
  let e2:(((hi-lo).toNat:Nat):Int)-((0:Nat):Int)=Wt lo hi 1:=by rw[rangeSize_one];split<;>cbv
  show Wc _ _ (lo+((0:Nat):Int)*1) ((((hi-lo).toNat:Nat):Int)-((0:Nat):Int)) 1;rw[e1,e2];exact WU _ rfl
 ·let e:b=(s.heap.push {cls:=.type "range",data:=.fields #[.int lo t,.int hi u,.int 1 v]}).objs.size:= ~~~hb
  subst e;exact I1.j8 (Uw _) (I1.XX.fresh (Uw _))
def Ox (ta:TA):TI:=λσ H R=>ta σ H λvs H1=>∃j:Int,vs=[.int j]/\ -(2 ^ 62)<=j/\j<2 ^ 62/\R (Bw 0 j.toNat) H1
def OC (ta:TA):TI:=λσ H R=>ta σ H λvs H1=>∃i j:Int,vs=[.int i,.int j]/\(-(2 ^ 62)<=i/\i<2 ^ 62/\ -(2 ^ 62)<=j/\j<2 ^ 62)/\R (Bw i (j-i).toNat) H1
theorem Cy {a:Expr}{ta:TA}{p:Pos}(hg:Gl X "range")(hm:X.mg "range"=none)(ha:PA X [a] ta)(hs:fW X a:=by rfl):PI X tg (.Call (.Name "range" p) [a] [] pos) (Ox ta):=by
 intro XR s σ H R I h;refine Call_ (ji I hg hm U7 (U1 `V hs rfl));let⟨j,e,q1,q2,q⟩:=q1;subst e;cases r1 with
 | cons r rr=>
   cases rr
   let⟨t,rfl⟩:=r;exact call_range_1 (wR I1 `a `a q1 q2 (~~~q))
theorem D5 {a b:Expr}{ta:TA}{p:Pos}(hg:Gl X "range")(hm:X.mg "range"=none)(ha:PA X [a,b] ta)(hs:xW X a b:=by rfl)(Ys:fW X b:=by rfl):
 PI X tg (.Call (.Name "range" p) [a,b] [] pos) (OC ta):=by
 intro XR s σ H R I h;refine Call_ (ji I hg hm U7 (U1 `V (by first | rw[dq,hs,Ys] | rw[hs,Ys]) (by rw[Ys];rfl)));let⟨i,j,e,⟨q1,q2,q3,q4⟩,q⟩:=q1;subst e;cases r1 with
 | cons r rr=>
   cases rr with
   | cons r' rr=>
     cases rr
     let⟨t,rfl⟩:=r;let⟨t',rfl⟩:=r';exact call_range_2 (wR I1 q1 q2 q3 q4 q)
def QR (wi:TI)(g:TG)(tb:TS):TS:=λD σ H=>wi σ H λJ H1=>∃W:Nat->Nat->St->Hp->Prop,(∃m,W 0 m σ H1)/\∀i m σ H,W i m σ H->
 (J.stop i H/\D.nx σ H)∨(J.go i H/\∃N:St->Hp->Prop,(∀σ' H',N σ' H'->∃m',m'<m/\W (i+1) m' σ' H')/\∀x H',J.yld i H x H'->g x σ H' λσ2 H2=>tb {D with nx:=N,ct:=N,bk:=D.nx} σ2 H2)
noncomputable def m9 (fp:Rz)(h:Heap):Ru:=fp.filterMap λb=>(h.get? b).map λo=>(b,o)
theorem kE {fp:Rz}(hb:b∈fp)(e:h.get? b∣o):(b,o)∈m9 fp h:=Uc.mpr ⟨b,hb,by rw[e];rfl⟩
theorem Ca {fp:Rz}{p:Addr×Obj}(hp:p∈m9 fp h):p.1∈fp/\h.get? p.1∣p.2:=by
 let⟨b,hb,e⟩:=Uc.mp hp;cases q:h.get? b with
 | none=>rw[q] at e;cases e
 | some o=>
   rw[q] at e;let e':(b,o)=p:=Option.some.inj e;subst e';exact⟨hb,q⟩
theorem Inv.pinned {fp:Rz}(I:`j)(hf:∀b∈fp,mB X XR H b)(ho:∀b∈fp,∃o,s.heap.get? b∣o/\∀v,o.data≠ .cell v):Inv X (XR++m9 fp s.heap) σ H s:=
 I.kO λp hp=>(Sl.mp hp).elim (λz=>I.pin p (Sk _ z)) λz=>by
   let⟨hb,e⟩:=Ca z;let⟨f0,f1,f2,_⟩:=hf p.1 hb;let⟨o,e',d⟩:=ho p.1 hb;rw[e] at e';cases e'
   exact⟨e,f0,f1,f2,d⟩
theorem Inv.qV {pl:Ru}(I:Inv X (XR++pl) σ H s):Inv X XR σ H s:=I.kO λp hp=>I.pin p (Sk _ (Sn _ hp))
theorem BW {iter:Expr}{wi:TI}{g:TG}(hp:Wa `f X.A X.env X.xe)(hc:X.calm=true)(hi:PI X tg iter wi)(hg:PG X tg g)(hb:lJ X body tb)(hs:∀x,Vm iter X.env x=pure x:=by intro _;rfl):PS X (.For tg iter body [] pos) (QR wi g tb):=by
 intro XR s σ H D I h;refine wpAny_For (a8 (hi XR s σ H _ I h) λv s1 h1=>a8 h1 λitv s2 h2=>?_) hs;let⟨it,fp,tn,J,H2,e,I2,T,st2,f2,W,⟨m0,w0⟩,turn⟩:=h2;subst e
 let stat:∀{H':Hp},(∀b∈fp,H' b=none)->∀b∈fp,mB X XR H' b:=λhn b hb=>⟨hn b hb,(f2 b hb).2⟩;refine codeAny_forLoop_any (λn s'=>∃i σ' H',Inv X XR σ' H' s'/\tn i s'.heap/\(∀b∈fp,H' b=none)/\W i n σ' H') ?_ m0 ⟨0,σ,H2,I2,st2,λb hb=>(f2 b hb).1,w0⟩;rintro n s3 ⟨i,σ3,H3,I3,st3,fr3,w3⟩;obtain⟨stop,qn⟩ | ⟨go,N,hN,step⟩:=turn i n σ3 H3 w3
 ·refine VC hp (a8 (T.done X rfl rfl rfl hc i XR s3 σ3 H3 X.xe I3 (stat fr3) st3 stop) λr s4 ⟨hr,I4⟩=>?_);subst hr;exact VS ⟨σ3,H3,I4,qn⟩
 ·refine VC hp (a8 (T.item X rfl rfl rfl hc i XR s3 σ3 H3 X.xe I3 (stat fr3) st3 go) λr s4 ⟨u,hr,h4⟩=>?_);subst hr;refine VC hp (a8 h4 λ_ s5 ⟨x,H5,I5,r5,y5,st5,fr5⟩=>?_);let I5':=I5.pinned (stat fr5) (T.obj _ _ st5);refine VC hp (a8 (hg _ s5 σ3 H5 x u _ I5' r5 (step x H5 y5)) λ_ s6 ⟨σ6,H6,I6,q6⟩=>?_);refine VC hp (a8 (hb _ s6 σ6 H6 _ I6 q6) λf s7 q7=>?_);let again:∀{σ7:St}{H7:Hp},Inv X (XR++m9 fp s5.heap) σ7 H7 s7->N σ7 H7->∃m,m<n/\∃i σ' H',Inv X XR σ' H' s7/\tn i s7.heap/\(∀b∈fp,H' b=none)/\W i m σ' H':=λ{σ7 H7} I7 n7=>by
   let⟨m',hm,w7⟩:=hN σ7 H7 n7;refine⟨m',hm,i+1,σ7,H7,I7.qV,T.keep _ _ _ st5 λb hb o e=>(I7.pin (b,o) (Sk _ (Sk _ (kE hb e)))).1,λb hb=>?_,w7⟩;let⟨o,e,d⟩:=T.obj _ _ st5 b hb;exact(I7.pin (b,o) (Sk _ (Sk _ (kE hb e)))).2.1
  cases f with
  | next=>let⟨σ7,H7,I7,n7⟩:=q7;exact again I7 n7
  | cont=>let⟨σ7,H7,I7,n7⟩:=q7;exact again I7 n7
  | brk=>let⟨σ7,H7,I7,q7⟩:=q7;exact⟨σ7,H7,I7.qV,q7⟩
  | ret v=>let⟨x7,σ7,H7,I7,r7,q7⟩:=q7;exact⟨x7,σ7,H7,I7.qV,r7,q7⟩
abbrev R2:=V->V->Hp->VK->Prop
def fm (X:Cx)(f:Value->Value->Sem Value)(r:R2):Prop:=
 ∀(XR:Ru)(s:Va)(σ:St)(H:Hp)(x y:V)(v u:`aK)(Q:VK),Inv X XR σ H s->RelV x v->RelV y u->r x y H Q->
  wpAny `f X.A (f v u) (EP X XR σ Q) X.xe s
def MG (X:Cx)(f:Value->Sem Value)(r:V->Hp->VK->Prop):Prop:=
 ∀(XR:Ru)(s:Va)(σ:St)(H:Hp)(x:V)(v:`aK)(Q:VK),Inv X XR σ H s->RelV x v->r x H Q->
  wpAny `f X.A (f v) (EP X XR σ Q) X.xe s
def fO (X:Cx)(f:`aK)(r:List V->Hp->VK->Prop):Prop:=
 ∀(XR:Ru)(s:Va)(σ:St)(H:Hp)(xs:`P)(us:RC)(Q:VK),Inv X XR σ H s->Vals xs us->r xs H Q->
  wpAny `f X.A (call f us) (EP X XR σ Q) X.xe s
def Q3 (X:Cx)(r:V->Hp->(Bool->Hp->Prop)->Prop):Prop:=
 ∀(XR:Ru)(s:Va)(σ:St)(H:Hp)(x:V)(v:`aK)(Q:Bool->Hp->Prop),Inv X XR σ H s->RelV x v->r x H Q->
  wpAny `f X.A (truthy v) (TP X XR σ Q) X.xe s
def G7 (r:R2)(ta tb:TE):TE:=λσ H Q=>ta σ H λx H1=>tb σ H1 λy H2=>r x y H2 Q
def tUn (r:V->Hp->VK->Prop)(ta:TE):TE:=λσ H Q=>ta σ H λx H1=>r x H1 Q
def rI (C:Int->Int->Prop)(g:Int->Int->V):R2:=λx y H Q=>∃i j,x= .int i/\y= .int j/\C i j/\Q (g i j) H
def uL (g:Int->Int->V):R2:=λx y H Q=>∃i j,x= .int i/\y= .int j/\Q (g i j) H
def rU (g:Int->V):V->Hp->VK->Prop:=λx H Q=>∃i,x= .int i/\Q (g i) H
variable {g:Int->Int->Int}{r:R2}
section
variable {a b:Expr}{tb tc:TE}
variable {f:Value->Value->Sem Value}
theorem ES (ha:PE X a ta)(hb:PE X b tb){R:V->V->Hp->Prop}(I:`j)(h:ta σ H λx H1=>tb σ H1 λy H2=>R x y H2)(hf:∀v u s2 x y H2,Inv X XR σ H2 s2->RelV x v->RelV y u->R x y H2->wpAny `f X.A (f v u) Q X.xe s2):
 wpAny `f X.A (eval a X.env) (λv s₁=>wpAny `f X.A (eval b X.env) (λu s₂=>wpAny `f X.A (f v u) Q X.xe s₂) X.xe s₁) X.xe s:=by
 refine a8 `aL λv s1 ⟨x,H1,I1,r1,q1⟩=>?_;refine a8 (hb XR s1 σ H1 _ I1 q1) λu s2 ⟨y,H2,I2,r2,q2⟩=>?_;exact hf v u s2 x y H2 I2 r1 r2 q2
theorem Gs (ho:fm X (VE op) r)(ha:PE X a ta)(hb:PE X b tb):PE X (.BinOp a op b pos) (G7 r ta tb):=by
 intro XR s σ H Q I h;exact wpAny_BinOp (ES ha hb I h λv u s2 x y H2 I2 rx ry q=>ho XR s2 σ H2 x y v u Q I2 rx ry q)
theorem Ow {op:UnaryOp}{r:V->Hp->VK->Prop}(ho:MG X (unaryOp op) r)(ha:PE X a ta):PE X (.UnaryOp op a pos) (tUn r ta):=by
 intro XR s σ H Q I h;exact UnaryOp_ (a8 `aL λv s1 ⟨x,H1,I1,r1,q1⟩=>ho XR s1 σ H1 x v Q I1 r1 q1)
theorem zw {C:Int->Int->Prop}(rule:∀(i j:Int)(t u:Tok)(s:Va)(Q:`s)(E:`s),C i j->Q (.int (g i j) s.toks) {s with toks:=s.toks+1}->wpAny `f X.A (f (.int i t) (.int j u)) Q E s):
 fm X f (rI C λi j=>.int (g i j)):=by
 intro XR s σ H x y v u Q I rx ry h;let⟨i,j,rfl,rfl,hc,q⟩:=h;let⟨t,rfl⟩:=rx;let⟨t',rfl⟩:=ry;exact rule i j t t' s _ _ hc ⟨.int (g i j),H,I.tok _,⟨_,rfl⟩,q⟩
theorem Lk 
 (rule:∀(i j:Int)(t u:Tok)(s:Va)(Q:`s)(E:`s),Q (.int (g i j) s.toks) {s with toks:=s.toks+1}->wpAny `f X.A (f (.int i t) (.int j u)) Q E s):
 fm X f (uL λi j=>.int (g i j)):=by
 intro XR s σ H x y v u Q I rx ry h;let⟨i,j,rfl,rfl,q⟩:=h;let⟨t,rfl⟩:=rx;let⟨t',rfl⟩:=ry;exact rule i j t t' s _ _ ⟨.int (g i j),H,I.tok _,⟨_,rfl⟩,q⟩
theorem Bh {g:Int->Int->Bool}(rule:∀(i j:Int)(t u:Tok)(s:Va)(Q:`s)(E:`s),Q (.bool (g i j)) s->wpAny `f X.A (f (.int i t) (.int j u)) Q E s):
 fm X f (uL λi j=>.bl (g i j)):=by
 intro XR s σ H x y v u Q I rx ry h;let⟨i,j,rfl,rfl,q⟩:=h;let⟨t,rfl⟩:=rx;let⟨t',rfl⟩:=ry;exact rule i j t t' s _ _ ⟨.bl (g i j),H,I,rfl,q⟩
def Lj (i j:Int):Prop:=0<j/\j<1073741824
def K6 (i j:Int):Prop:=0<=j/\j<=1000000/\i.natAbs<2 ^ 64
def A0 (i j:Int):Prop:=(-(2 ^ 64)<i/\i<2 ^ 64)∨(-(2 ^ 64)<j/\j<2 ^ 64)
theorem A0.ok {i j:Int}(h:A0 i j):Wl i j:=by
 obtain⟨h1,h2⟩ | ⟨h1,h2⟩:=h
 ·exact .of_left (V3 h1 h2)
 ·exact .of_right (V3 h1 h2)
theorem Mu:fm X (VE .Add) (uL λi j=>.int (i+j)):=Lk λ_ _ _ _ _ _ _ q=>add_int q
theorem LU:fm X (VE .Sub) (uL λi j=>.int (i-j)):=Lk λ_ _ _ _ _ _ _ q=>sub_int q
theorem MC:fm X (VE .Mult) (rI A0 λi j=>.int (i*j)):=zw λ_ _ _ _ _ _ _ hc q=>mul_int q hc.ok
theorem Ib:fm X (VE .FloorDiv) (rI Lj λi j=>.int (i/j)):=zw λi j _ _ _ _ _ hc q=>by
 let h1:(0:Int)<j:=hc.1;let h2:j<1073741824:=hc.2;exact floordiv_int `a (by rw[Int.fdiv_eq_ediv_of_nonneg i `a];exact q) (.inl (PyProof.noPylong_small `a))
theorem Lg:fm X (VE .Mod) (rI (λ_ j=>0<j) λi j=>.int (i%j)):=zw λi j _ _ _ _ _ hc q=>by
 let h1:(0:Int)<j:=hc;exact mod_int' `a (by rw[Int.fmod_eq_emod_of_nonneg i `a];exact q)
theorem L4:fm X (VE .Pow) (rI K6 λi j=>.int (i ^ j.toNat)):=zw λ_ _ _ _ _ _ _ hc q=>pow_int_small hc.1 hc.2.1 hc.2.2 q
theorem unI {f:Value->Sem Value}{g:Int->Int}(rule:∀(i:Int)(t:Tok)(s:Va)(Q:`s)(E:`s),Q (.int (g i) s.toks) {s with toks:=s.toks+1}->wpAny `f X.A (f (.int i t)) Q E s):
 MG X f (rU λi=>.int (g i)):=by
 intro XR s σ H x v Q I rx h;let⟨i,rfl,q⟩:=h;let⟨t,rfl⟩:=rx;exact rule i t s _ _ ⟨.int (g i),H,I.tok _,⟨_,rfl⟩,q⟩
theorem Kt:MG X (unaryOp .USub) (rU λi=>.int (-i)):=unI λ_ _ _ _ _ q=>neg_int q
end
noncomputable def KH:V->V->Bool
 | .X4,.X4=>true | .X4,.int _=>true | .int _,.X4=>true | .X4,.bl _=>true | .bl _,.X4=>true | .X4,.str _=>true | .str _,.X4=>true
 | .int _,.int _=>true | .bl _,.bl _=>true | .str _,.str _=>true | .ZJ _,.ZJ _=>true
 | .int _,.str _=>true | .str _,.int _=>true | .bl _,.str _=>true | .str _,.bl _=>true
 | _,_=>false
def rEq:R2:=λx y H Q=>KH x y=true/\Q (.bl (decide (x=y))) H
def rNe:R2:=λx y H Q=>KH x y=true/\Q (.bl (!decide (x=y))) H
theorem pB {i j:Int}:decide (V.int i=V.int j)=(i==j):=by
 rw[RK];simp
theorem yo {i j:Bool}:decide (V.bl i=V.bl j)=(i==j):=by
 rw[RK];simp
theorem nA {i j:Str}:decide (V.str i=V.str j)=(i==j):=by
 rw[RK];simp
theorem yR {i j:Array UInt8}:decide (V.ZJ i=V.ZJ j)=(i.toList==j.toList):=by
 rw[RK];cases i
 cases j
 simp
variable {Zv:CmpOp}{r':R2}{us:RC}
section
variable {a b:Expr}{tb tc:TE}
variable {op:CmpOp}
theorem bU {Q:VK}{k k':Bool}(I:`j)(q:Q (.bl k) H)(e:k=k'):EP X XR σ Q (.bool k') s:=by
 subst e;exact⟨.bl k,H,I,rfl,q⟩
theorem GB:fm X (Vk .Eq) rEq:=by
 intro XR s σ H x y v u Q I rx ry h;let⟨hs,q⟩:=h;cases x with
 | X4=>
   cases rx
   cases y with
   | X4=>cases ry;exact PySem.EqNone.eq_none_none `aN
   | bl j=>cases ry;exact PySem.EqNone.eq_none_bool `aN
   | int j=>let⟨t',rfl⟩:=ry;exact PySem.EqNone.eq_none_int `aN
   | str j=>let⟨t',rfl⟩:=ry;exact PySem.EqNone.eq_none_str `aN
   | _=>exact XE (show false=true from hs) RH
 | bl i=>
   cases rx
   cases y with
   | X4=>cases ry;exact PySem.EqNone.eq_bool_none `aN
   | bl j=>cases ry;exact eq_bool (bU I q yo)
   | str j=>let⟨t',rfl⟩:=ry;exact PySem.EqMixed.eq_bool_str `aN
   | _=>exact XE (show false=true from hs) RH
 | int i=>
   let⟨t,rfl⟩:=rx;cases y with
   | X4=>cases ry;exact PySem.EqNone.eq_int_none `aN
   | int j=>let⟨t',rfl⟩:=ry;exact eq_int (bU I q pB)
   | str j=>let⟨t',rfl⟩:=ry;exact PySem.EqMixed.eq_int_str `aN
   | _=>exact XE (show false=true from hs) RH
 | str i=>
   let⟨t,rfl⟩:=rx;cases y with
   | X4=>cases ry;exact PySem.EqNone.eq_str_none `aN
   | bl j=>cases ry;exact PySem.EqMixed.eq_str_bool `aN
   | int j=>let⟨t',rfl⟩:=ry;exact PySem.EqMixed.eq_str_int `aN
   | str j=>let⟨t',rfl⟩:=ry;exact eq_str (bU I q nA)
   | _=>exact XE (show false=true from hs) RH
 | ZJ i=>
   let⟨t,rfl⟩:=rx;cases y with
   | ZJ j=>let⟨t',rfl⟩:=ry;exact PySem.W.eq_bytes (bU I q yR)
   | _=>exact XE (show false=true from hs) RH
 | _=>cases y<;>exact XE (show false=true from hs) RH
theorem AU:fm X (Vk .NotEq) rNe:=by
 intro XR s σ H x y v u Q I rx ry h;let⟨hs,q⟩:=h;cases x with
 | X4=>
   cases rx
   cases y with
   | X4=>cases ry;exact PySem.EqNone.ne_none_none `aN
   | bl j=>cases ry;exact PySem.EqNone.ne_none_bool `aN
   | int j=>let⟨t',rfl⟩:=ry;exact PySem.EqNone.ne_none_int `aN
   | str j=>let⟨t',rfl⟩:=ry;exact PySem.EqNone.ne_none_str `aN
   | _=>exact XE (show false=true from hs) RH
 | bl i=>
   cases rx
   cases y with
   | X4=>cases ry;exact PySem.EqNone.ne_bool_none `aN
   | bl j=>cases ry;exact ne_bool (bU I q (congrArg not yo))
   | str j=>let⟨t',rfl⟩:=ry;exact PySem.EqMixed.ne_bool_str `aN
   | _=>exact XE (show false=true from hs) RH
 | int i=>
   let⟨t,rfl⟩:=rx;cases y with
   | X4=>cases ry;exact PySem.EqNone.ne_int_none `aN
   | int j=>let⟨t',rfl⟩:=ry;exact ne_int (bU I q (congrArg not pB))
   | str j=>let⟨t',rfl⟩:=ry;exact PySem.EqMixed.ne_int_str `aN
   | _=>exact XE (show false=true from hs) RH
 | str i=>
   let⟨t,rfl⟩:=rx;cases y with
   | X4=>cases ry;exact PySem.EqNone.ne_str_none `aN
   | bl j=>cases ry;exact PySem.EqMixed.ne_str_bool `aN
   | int j=>let⟨t',rfl⟩:=ry;exact PySem.EqMixed.ne_str_int `aN
   | str j=>let⟨t',rfl⟩:=ry;exact ne_str (bU I q (congrArg not nA))
   | _=>exact XE (show false=true from hs) RH
 | ZJ i=>
   let⟨t,rfl⟩:=rx;cases y with
   | ZJ j=>let⟨t',rfl⟩:=ry;exact PySem.W.ne_bytes (bU I q (congrArg not yR))
   | _=>exact XE (show false=true from hs) RH
 | _=>cases y<;>exact XE (show false=true from hs) RH
theorem OF:fm X (Vk .Lt) (uL λi j=>.bl (decide (i<j))):=Bh λ_ _ _ _ _ _ _ q=>lt_int q
theorem N8:fm X (Vk .LtE) (uL λi j=>.bl (decide (i<=j))):=Bh λ_ _ _ _ _ _ _ q=>le_int q
theorem Nf:fm X (Vk .Gt) (uL λi j=>.bl (decide (j<i))):=Bh λ_ _ _ _ _ _ _ q=>gt_int q
theorem MN:fm X (Vk .GtE) (uL λi j=>.bl (decide (j<=i))):=Bh λ_ _ _ _ _ _ _ q=>ge_int q
theorem sT (b:Expr)(h:op≠ .In:=by decide)(h2:op≠ .NotIn:=by decide):Vx op b=false:=by
 let e1:(op==CmpOp.In)=false:=by cases op<;>first | rfl | exact XE rfl h
 let e2:(op==CmpOp.NotIn)=false:=by cases op<;>first | rfl | exact XE rfl h2
 cases b<;>simp[Vx,e1,e2]
theorem Jz (ho:fm X (Vk op) r)(ha:PE X a ta)(hb:PE X b tb)(hm:Vx op b=false):PE X (.Compare a [op] [b] pos) (G7 r ta tb):=by
 intro XR s σ H Q I h;exact wpAny_Compare1 (ES ha hb I h λv u s2 x y H2 I2 rx ry q=>ho XR s2 σ H2 x y v u Q I2 rx ry q) hm
def Gr (t:TE):TT:=λσ H Q=>t σ H λx H'=>∃k,x= .bl k/\Q k H'
theorem Io (ho:fm X (Vk op) r)(ha:PE X a ta)(hb:PE X b tb)(hm:Vx op b=false):PT X (.Compare a [op] [b] pos) (Gr (G7 r ta tb)):=by
 intro XR s σ H Q I h;refine wpAny_isTrue_Compare1 (a8 `aL λv s1 ⟨x,H1,I1,r1,q1⟩=>a8 (hb XR s1 σ H1 _ I1 q1) λu s2 ⟨y,H2,I2,r2,q2⟩=>
  a8 (ho XR s2 σ H2 x y v u _ I2 r1 r2 q2) λc s3 ⟨z,H3,I3,r3,k,e,q3⟩=>?_) hm
 subst e;cases r3
 exact Vj ⟨H3,I3,q3⟩
noncomputable def CO (r r':R2)(ta tb tc:TE):TE:=λσ H Q=>ta σ H λx H1=>tb σ H1 λy H2=>r x y H2 λz H3=>∃k,z= .bl k/\
 (if k=true then tc σ H3 λw' H4=>r' y w' H4 Q else Q (.bl false) H3)
theorem Eh (ho:fm X (Vk op) r)(Ze:fm X (Vk Zv) r')(ha:PE X a ta)(hb:PE X b tb)(hc:PE X c tc)(hm:lastMarks [op,Zv] [b,c]=false:=by with_unfolding_all rfl):PE X (.Compare a [op,Zv] [b,c] pos) (CO r r' ta tb tc):=by
 intro XR s σ H Q I h;refine Compare_chain (a8 `aL λv s1 ⟨x,H1,I1,r1,q1⟩=>chain_link (a8 (hb XR s1 σ H1 _ I1 q1) λu s2 ⟨y,H2,I2,r2,q2⟩=>
  a8 (ho XR s2 σ H2 x y v u _ I2 r1 r2 q2) λd s3 ⟨z,H3,I3,r3,k,e,q3⟩=>?_)) hm
 subst e;cases r3
 refine Vj ?_;cases k with
 | false=>exact ite_ff ⟨.bl false,H3,I3,rfl,q3⟩
 | true=>exact ite_tt (chain_last (a8 (hc XR s3 σ H3 _ I3 q3) λw' s4 ⟨z',H4,I4,r4,q4⟩=>Ze XR s4 σ H4 y z' u w' Q I4 r2 r4 q4))
theorem Ec (ho:fm X (Vk op) r)(Ze:fm X (Vk Zv) r')(ha:PE X a ta)(hb:PE X b tb)(hc:PE X c tc)(hm:lastMarks [op,Zv] [b,c]=false:=by with_unfolding_all rfl):PT X (.Compare a [op,Zv] [b,c] pos) (Gr (CO r r' ta tb tc)):=by
 intro XR s σ H Q I h;refine isTrue_chain (a8 `aL λv s1 ⟨x,H1,I1,r1,q1⟩=>test_link (a8 (hb XR s1 σ H1 _ I1 q1) λu s2 ⟨y,H2,I2,r2,q2⟩=>
  a8 (ho XR s2 σ H2 x y v u _ I2 r1 r2 q2) λd s3 ⟨z,H3,I3,r3,k,e,q3⟩=>?_)) hm
 subst e;cases r3
 refine Vj ?_;cases k with
 | false=>
   let⟨k',e',q'⟩:=q3;cases e'
   exact ite_ff ⟨H3,I3,q'⟩
 | true=>
   refine ite_tt (test_last (a8 (hc XR s3 σ H3 _ I3 q3) λw' s4 ⟨z',H4,I4,r4,q4⟩=>a8 (Ze XR s4 σ H4 y z' u w' _ I4 r2 r4 q4) λd' s5 ⟨z2,H5,I5,r5,k2,e2,q5⟩=>?_));subst e2;cases r5
   exact Vj ⟨H5,I5,q5⟩
noncomputable def Kc (K:Xh)(x:V)(H:Hp)(k:Bool):Prop:=
 match x with
 | .X4=>k=false
 | .bl b=>k=b
 | .int i=>k=(i != 0)
 | .str y=>y.length<=U9/\k=((y.length:Int) != 0)
 | .ZJ y=>y.size<=U9/\k=((y.size:Int) != 0)
 | .ref p=>(∃xs,bw K H p xs/\k= !xs.isEmpty)∨(∃xs,dY K H p xs/\k= !xs.isEmpty)∨∃kvs,H p∣.dK kvs/\k= !kvs.isEmpty
 | _=>False
theorem Bp {κ:Type}{kvs:List (κ×V)}{vs:List (κ×Value)}(r:KV kvs vs):(!vs.isEmpty)= !kvs.isEmpty:=by
 cases r<;>rfl
theorem tM {XT:RC}(r:Vals xs XT):(!XT.toArray.isEmpty)= !xs.isEmpty:=by
 cases r<;>simp
theorem lN:(U9:Nat)<2 ^ 63:=by rw[V0];decide
theorem Ln:Q3 X (λx H Q=>∃k,Kc X.K x H k/\Q k H):=by
 intro XR s σ H x v Q I rx h;let⟨k,e,q⟩:=h;let hl:=lN;let hs:U9=16777216:=V0;cases x with
 | X4=>
   cases rx
   let e':k=false:=e;subst e';exact truthy_none ⟨H,I,q⟩
 | bl b=>
   cases rx
   let e':k=b:=e;subst e';exact Vj ⟨H,I,q⟩
 | int i=>
   let⟨t,rfl⟩:=rx;let e':k=(i != 0):=e;subst e';exact PySem.P.truthy_int ⟨H,I,q⟩
 | str y=>
   let⟨t,rfl⟩:=rx;obtain⟨hy,e'⟩:y.length<=U9/\k=((y.length:Int) != 0):=e;subst e';exact PySem.P.truthy_str `a ⟨H,I.tok _,q⟩
 | ZJ y=>
   let⟨t,rfl⟩:=rx;obtain⟨hy,e'⟩:y.size<=U9/\k=((y.size:Int) != 0):=e;subst e';exact PySem.W.truthy_bytes `a ⟨H,I.tok _,q⟩
 | ref p=>
   cases rx
   let e':(∃xs,bw X.K H p xs/\k= !xs.isEmpty)∨(∃xs,dY X.K H p xs/\k= !xs.isEmpty)∨∃kvs,H p∣.dK kvs/\k= !kvs.isEmpty:=e;obtain⟨xs,hx,e'⟩ | ⟨xs,hx,e'⟩ | ⟨kvs,hx,e'⟩:=e'
   ·subst e';let⟨XT,r,pl,hz⟩:=I.list hx;let hlen:=r.length;exact wpAny_truthy_list pl.isList (by simp only[Ss];cbv) ⟨H,I.tok _,by rw[tM r];exact q⟩
   ·subst e';let⟨XT,r,pl,hz⟩:=I.tuple hx;let hlen:=r.length;exact truthy_tuple pl (by simp only[Ss];cbv) ⟨H,I.tok _,by rw[tM r];exact q⟩
   ·subst e';obtain⟨hz,hS,vs,r,m⟩:kvs.length<=U9/\(p==Vr)=false/\∃vs,KV kvs vs/\s.heap.DictOf (cE X.prog X.w) p vs:=I.XX p _ hx;let hlen:kvs.length=vs.length:=Paired.length r;exact wpAny_truthy_dict hS m `a ⟨H,I.tok _,by rw[Bp r];exact q⟩
 | _=>exact(show False from e).elim
theorem yt (ha:PE X a ta)(he:∀whole,VL a X.env whole=(do let v ← whole;VR a.pos;Vu [v] (truthy v))):
 PT X a (λσ H Q=>ta σ H λx H'=>∃k,Kc X.K x H' k/\Q k H'):=by
 intro XR s σ H Q I h;exact isTrue_plain (a8 `aL λv s1 ⟨x,H1,I1,r1,q1⟩=>Ln XR s1 σ H1 x v Q I1 r1 q1) (he _)
theorem A5:fm X (VE .Add) (λx y H Q=>∃i j,x= .str i/\y= .str j/\i.length+j.length<=U9/\Q (.str (i++j)) H):=by
 intro XR s σ H x y v u Q I rx ry h;let⟨i,j,rfl,rfl,hz,q⟩:=h;let⟨t,rfl⟩:=rx;let⟨t',rfl⟩:=ry;exact add_str (λt' tk=>⟨.str (i++j),H,I.tok _,⟨_,rfl⟩,q⟩) hz
theorem vals1 {x:V}(r:Vals [x] us):∃u,us=[u]/\RelV x u:=by
 cases r with
 | cons r1 r2=>cases r2;exact⟨_,rfl,r1⟩
theorem vals2 {x y:V}(r:Vals [x,y] us):∃u w',us=[u,w']/\RelV x u/\RelV y w':=by
 cases r with
 | cons r1 r2=>
   cases r2 with
   | cons r3 r4=>cases r4;exact⟨_,_,rfl,r1,r3⟩
theorem Dm (hc:X.calm=true):fO X (.builtin "max") (λxs H Q=>∃i j,xs=[.int i,.int j]/\Q (.int (if j>i then j else i)) H):=by
 intro XR s σ H xs us Q I r h;let⟨i,j,rfl,q⟩:=h;let⟨u,w',rfl,⟨t,rfl⟩,⟨t',rfl⟩⟩:=vals2 r;refine max_two_ints (I.ok.hd hc) λh' tk k=>⟨_,H,I.kept k,?_,q⟩;by_cases hj:j>i
 ·rw[XG hj,XG hj];exact⟨_,rfl⟩
 ·rw[XF hj,XF hj];exact⟨_,rfl⟩
theorem D4 (hc:X.calm=true):fO X (.builtin "min") (λxs H Q=>∃i j,xs=[.int i,.int j]/\Q (.int (if j<i then j else i)) H):=by
 intro XR s σ H xs us Q I r h;let⟨i,j,rfl,q⟩:=h;let⟨u,w',rfl,⟨t,rfl⟩,⟨t',rfl⟩⟩:=vals2 r;refine min_two_ints (I.ok.hd hc) λh' tk k=>⟨_,H,I.kept k,?_,q⟩;by_cases hj:j<i
 ·rw[XG hj,XG hj];exact⟨_,rfl⟩
 ·rw[XF hj,XF hj];exact⟨_,rfl⟩
theorem BY:fO X (.type "int") (λxs H Q=>(∃i,xs=[.int i]/\Q (.int i) H)∨∃k,xs=[.bl k]/\Q (.int (if k then 1 else 0)) H):=by
 intro XR s σ H xs us Q I r h;obtain⟨i,rfl,q⟩ | ⟨k,rfl,q⟩:=h
 ·let⟨u,rfl,t,rfl⟩:=vals1 r;exact call_int_int ⟨.int i,H,I,⟨_,rfl⟩,q⟩
 ·let⟨u,rfl,r1⟩:=vals1 r;cases r1
  exact call_int_bool ⟨.int (if k then 1 else 0),H,I.tok _,⟨_,rfl⟩,q⟩
end
structure uw (h:Heap)(x dx C:Addr)(mA:Rt):Prop where
 obj:h.get? x∣Xq C dx
 ns:h.Ns1 dx mA
 ne:dx≠x
variable {dx:Addr}{mA:Rt}
theorem B6 (n:h.Ns1 dx mA):∃od,h.get? dx∣od/\∀name,XA name od∣mA name:=by
 let⟨o,es,ep,ho,hd,hk,_,hm⟩:=n;refine⟨o,ho,λname=>?_⟩;let e:=hm name;unfold nsFind findBy at e;rw[← Array.find?_toList] at e;unfold XA;rw[hd];dsimp only;split
 ·rename_i y q;rw[q] at e;exact congrArg some e
 ·rename_i q;rw[q] at e;let a:es.toList.any (·.refKey)=false:=by
   rw[List.any_eq_false];intro y hy;let⟨z,t,Zk⟩:=hk y (Array.mem_toList_iff.mp hy);simp[DictEntry.refKey,Zk]
  let a':¬es.toList.any (·.refKey)=true:=by rw[a];exact RH
  rw[XF a'];exact congrArg some e
variable {C:Addr}
theorem uw.look {x:Addr}(I:uw h x dx C mA):∃od,PySem.W.InstAt h x (Xq C dx) C (some od)/\∀name,XA name od∣mA name:=
 let ⟨od,ho,hl⟩:=B6 I.ns
 ⟨od,⟨I.obj,rfl,rfl,ho⟩,hl⟩
variable {prog:Ve}{name:Str}{kw:List (Str×Value)}
section
variable {x f:Addr}{v:`aK}
theorem get_map {expr:Bool}(X:K.In s.heap)(I:uw s.heap x dx C mA)(hg:Xu K C name=true)(hh:Xt K C=true)(ha:Xk K (.ref C) name∣none)(hv:mA name∣v)(hv':PySem.W.handedIn v=true)(h:Q v {s with toks:=s.toks+1}):
 wpAny `t A (getAttr (.ref x) name expr) Q E s:=by
 let⟨od,J,hl⟩:=I.look;exact PySem.W.get_value X J (PySem.W.plainGet_of hg).1 (PySem.W.findObj_own hh ha rfl (by rw[hl,hv])) hv' h
theorem Ip {ns:Rx}{Q:Unit->Va->Prop}(X:K.In s.heap)(I:uw s.heap x dx C mA)(hs:Xk K (.ref C) "__setattr__"∣(some (.builtin "object.__setattr__")))(hp:Xv K C=true)(ht:Xy K C name∣none)(hh:Xt K C=true)(hw:Wq mA ns)(hsz:ns.length<=U9)(h:∀h',uw h' x dx C (λy=>if y=name then some v else mA y)->WW dx s.heap h'->Q () {s with heap:=h',toks:=s.toks+2}):
 wpAny `t A (setAttr (.ref x) name v) Q E s:=by
 let⟨od,J,hl⟩:=I.look;refine PySem.W.set_plain X J hs (PySem.W.osa_open (s:={s with toks:=s.toks+1}) (r:=none) X J hp ht λb=>?_);let⟨cd,hc,hd'⟩:=PySem.W.any_some hh;let hx:s.heap.get? x∣⟨.ref C,some dx,.plain, #[]⟩:=I.obj;refine Vb (Vd (Vb (Vb (wpAny_loadPart hx (Vb (PySem.W.Looks.here (s:={s with toks:=s.toks+1}) (PySem.W.looks_clsIn X hc) ?_))))));rw[hd'];refine Vd (a:=some dx) (Vb (Vd (Vb ?_)));refine wpAny_nsSet1 (s:={s with toks:=s.toks+1}) I.ns λh' hn2 Ys=>?_;let⟨oD,esD,epD,hoD,hdD,hcD⟩:=hn2.count (Wq.cons name v hw);refine Vb (wpAny_lookBehind hoD (by rw[hdD];exact pastItsLine_dict (Ux hcD (by rw[Si];cbv))) ?_);exact Vd (h _ ⟨(Ys.2 _ (UT I.ne)).trans I.obj,hn2,I.ne⟩ Ys)
theorem Fw {R:Result->Va->Prop}{vs:RC}(X:K.In s.heap)(hm:Xw K C=true)(hi:Xk K (.ref C) "__init__"∣(some (.ref f)))(hf:PySem.W.typeIn K (.ref f)∣(.type "function"))(h:VZ `t (A.under (.builtin "type.__call__" ⟨.ref C::vs,kw⟩)) (.call (.ref f) ⟨.ref (⇑s+1)::vs,kw⟩) (PySem.W.InitBack (⇑s+1) R)
  {s with heap:=(s.heap.push Xp).push (Xq C ⇑s)}):
 VZ `t A (.call (.ref C) ⟨vs,kw⟩) R s:=by
 let⟨hh,g,d,t,os⟩:=s;exact PySem.W.make_core (PySem.W.makes_of X hm) (PySem.W.looks_findIn X hi) (λself=>PySem.W.bind_fn X self hf) `aT h
end
noncomputable def gE (f:Str)(v:V):List (Str×V)->List (Str×V)
 | []=>[(f,v)]
 | (g,x)::r=>if g=f then(g,v)::r else(g,x)::gE f v r
theorem qz (f g:Str)(v:V):∀fs:List (Str×V),(gE f v fs).lookup g=if g=f then some v else fs.lookup g
 | []=>by
   show Tp g [(f,v)]=_;by_cases h:g=f
   ·let hb:(g==f)=true:=beq_iff_eq.mpr h;simp only[Tp,hb,XG h]
   ·let hb:(g==f)=false:=beq_eq_false_iff_ne.mpr h;simp only[Tp,hb,XF h]
 | (k,x)::r=>by
   let ih:=qz f g v r;rw[show gE f v ((k,x)::r)=(if k=f then(k,v)::r else(k,x)::gE f v r) from rfl];by_cases hk:k=f
   ·rw[XG hk];by_cases h:g=k
    ·let hb:(g==k)=true:=beq_iff_eq.mpr h;simp only[Tp,hb,XG (h.trans hk)]
    ·let hb:(g==k)=false:=beq_eq_false_iff_ne.mpr h;simp only[Tp,hb,XF (λe:g=f=>h (e.trans hk.symm))]
   ·rw[XF hk];by_cases h:g=k
    ·let hb:(g==k)=true:=beq_iff_eq.mpr h;simp only[Tp,hb,XF (λe:g=f=>hk (h.symm.trans e))]
    ·let hb:(g==k)=false:=beq_eq_false_iff_ne.mpr h;simp only[Tp,hb];exact ih
theorem px (f:Str)(v:V):∀fs:List (Str×V),f∈(gE f v fs).map (·.1)/\∀g,g∈fs.map (·.1)->g∈(gE f v fs).map (·.1)
 | []=>⟨by simp[gE],λg h=>by simp at h⟩
 | (k,x)::r=>by
   let⟨i1,i2⟩:=px f v r;rw[show gE f v ((k,x)::r)=(if k=f then(k,v)::r else(k,x)::gE f v r) from rfl];by_cases hk:k=f
   ·rw[XG hk];subst hk;exact⟨`d,λg h=>by simpa using h⟩
   ·rw[XF hk];refine⟨?_,λg h=>?_⟩
    ·rw[SK];exact Sb _ i1
    ·rw[SK] at h ⊢;obtain e | e:=Sj.mp h
     ·exact Sj.mpr (.inl e)
     ·exact Sb _ (i2 g e)
theorem qu (f:Str)(v:V):∀fs:List (Str×V),(gE f v fs).length<=fs.length+1
 | []=>by simp[gE]
 | (k,x)::r=>by
   let ih:=qu f v r;rw[show gE f v ((k,x)::r)=(if k=f then(k,v)::r else(k,x)::gE f v r) from rfl];by_cases hk:k=f
   ·rw[XG hk,Si,Si];cbv
   ·rw[XF hk,Si,Si];cbv
theorem jH.some_of {o:Ry}(r:jH (some v) o):∃u,o∣u/\RelV v u:=by
 cases o with
 | none=>exact(show False from r).elim
 | some u=>exact⟨u,rfl,r⟩
theorem D7 (r:RelV v u):PySem.W.handedIn u=true:=by
 cases v with
 | X4=>cases (show u=Xb from r);rfl
 | bl b=>cases (show u=Xe b from r);rfl
 | int i=>let⟨t,e⟩:=(show∃t,u=Xc i t from r);cases e;rfl
 | str x=>let⟨t,e⟩:=(show∃t,u=Xd x t from r);cases e;rfl
 | ZJ b=>let⟨t,e⟩:=(show∃t,u=Value.bytes b t from r);cases e;rfl
 | flt b=>let⟨t,e⟩:=(show∃t,u=Xf b t from r);cases e;rfl
 | ref a=>cases (show u=Xa a from r);rfl
 | ty n=>cases (show u=Xg n from r);rfl
section
variable {fs fs':List (Str×V)}
theorem t7 (XX:fo P w H h)(e:H a∣.ins C dx fs):∃mA,uw h a dx C mA/\(∀f,jH (fs.lookup f) (mA f))/\Wq mA (fs.map (·.1))/\fs.length<=1000/\H dx∣.own a:=by
 let⟨d,z,ne,ob,mA,n,r,q⟩:=(show da P w H h a (.ins C dx fs) from XX a _ e);exact⟨mA,⟨ob,n,ne⟩,r,q,z,d⟩
end
structure mT (K:Xh)(C:Addr):Prop where
 pg:Xu K C Str.empty=true
 hd:Xt K C=true
 po:Xv K C=true
 sa:Xk K (.ref C) "__setattr__"∣(some (.builtin "object.__setattr__"))
theorem mT.get (c:mT K C)(f:Str):Xu K C f=true:=c.pg
def lA (K:Xh)(C:Addr)(f:Str):Prop:=Xk K (.ref C) f∣none
variable {f:Str}
theorem lA.Na (n:lA K C f):Xy K C f∣none:=by
 unfold Xy;rw[show Xk K (.ref C) f∣none from n];rfl
section
variable {fs:List (Str×V)}
theorem Ax {b:Bool}(I:`j)(e:H a∣.ins C dx fs)(c:mT X.K C)(n:lA X.K C f)(l:fs.lookup f∣v)(h:∀u s',Inv X XR σ H s'->RelV v u->Q u s'):wpAny `f A (getAttr (.ref a) f b) Q E s:=by
 let⟨mA,O,r,_,_,_⟩:=t7 I.XX e;let⟨u,hu,ru⟩:=jH.some_of (v:=v) (o:=mA f) (by rw[← l];exact r f);exact get_map I.gu O (c.get f) c.hd n hu (D7 ru) (h u _ (I.tok _) ru)
theorem A3 {y:V}{Q:Unit->Va->Prop}(I:`j)(e:H a∣.ins C dx fs)(c:mT X.K C)(n:lA X.K C f)(hl:fs.length<1000)(ry:RelV y u)(h:∀s',Inv X XR σ (upd H a (.ins C dx (gE f y fs))) s'->Q () s'):wpAny `f A (setAttr (.ref a) f u) Q E s:=by
 let⟨mA,O,r,wi,_,ho⟩:=t7 I.XX e;let hz:(fs.map (·.1)).length<=U9:=by rw[R9,V0];cbv
 refine Ip I.gu O c.sa c.po n.Na c.hd wi hz λh' O' sb=>h _ ?_;let hd:∃o,h'.get? dx∣o:=let ⟨o,_,_,e',_⟩:=O'.ns;⟨o,e'⟩;refine I.write (x:=a) (e:=dx) (by rw[e];exact XD) (.inr ho) (λb q hb z=>(sb.2 b hb).trans z) hd ?_;refine⟨by rw[aF O.ne];exact ho,?_,O.ne,O'.obj,_,O'.ns,λg=>?_,λg hg=>?_⟩
 ·have:=qu f y fs;cbv
 ·show jH ((gE f y fs).lookup g) (if g=f then some u else mA g);rw[qz];by_cases q:g=f
  ·rw[XG q,XG q];exact ry
  ·rw[XF q,XF q];exact r g
 ·by_cases q:g=f
  ·rw[q];exact(px f y fs).1
  ·refine(px f y fs).2 g (wi g λz=>hg ?_);show(if g=f then some u else mA g)=none;rw[XF q];exact z
theorem Inv.made (I:`j):Inv X XR σ (upd (upd H ⇑s (.own (⇑s+1))) (⇑s+1) (.ins C ⇑s []))
 {s with heap:=(s.heap.push Xp).push (Xq C ⇑s)}:=by
 let e1:(s.heap.push Xp).get? ⇑s∣Xp:=WU s.heap rfl;let e2:((s.heap.push Xp).push (Xq C ⇑s)).get? (⇑s+1)∣Xq C ⇑s:=by
  have:=WU (s.heap.push Xp) (o:=Xq C ⇑s) rfl;rwa [WV] at this
 let e3:(s.heap.push Xp).Ns ⇑s (λ_=>none):=⟨Xp, #[],_,e1,rfl,(λe he=>XE he `d),λ_=>rfl⟩;let I1:=I.laid (a:=⇑s) (o:=.own (⇑s+1)) (h':=s.heap.push Xp) (t':=s.toks) (λb u q=>WR _ q) (Uw _) ⟨_,e1⟩;refine I1.laid (a:=⇑s+1) (o:=.ins C ⇑s []) (t':=s.toks) (λb u q=>WR _ q) (US (WV _ _)) ?_;let ne:⇑s≠⇑s+1:=UB (UG _);refine⟨by rw[aF ne,aD],Uy _,ne,e2,λ_=>none,(Heap.Ns1.of_empty e3).at λo q=>WR _ q,λ_=>XD,λy hy=>XE rfl hy⟩
theorem Je {env:Env}(hb:Wn e f env (eval e env)=eval e env)(h:wpAny `t A (eval e env) (λo s₁=>wpAny `t A (getAttr o f true) Q E s₁) E s):wpAny `t A (eval (.Attribute e f pos) env) Q E s:=
 Attribute_any_ h (by rw[arm_eval_Attribute,hb])
end
def QW (K:Xh)(ta:TE)(f:Str):TE:=λσ H Q=>ta σ H λx H1=>∃a C dx fs v,x= .ref a/\H1 a∣.ins C dx fs/\mT K C/\lA K C f/\fs.lookup f∣v/\Q v H1
def Ra (K:Xh)(ta tv:TE)(f:Str):TS:=λD σ H=>tv σ H λy H1=>ta σ H1 λx H2=>∃a C dx fs,x= .ref a/\H2 a∣.ins C dx fs/\mT K C/\lA K C f/\fs.length<1000/\
 D.nx σ (upd H2 a (.ins C dx (gE f y fs)))
section
variable {o value:Expr}{tpos:Pos}{tv:TE}
theorem vY (he:PE X e ta)(hb:fh X e f):PE X (.Attribute e f pos) (QW X.K ta f):=by
 intro XR s σ H Q I h;refine Je hb (a8 (he XR s σ H _ I h) λu s1 ⟨x,H1,I1,rx,a,C,dx,fs,v,ex,ea,c,n,l,q⟩=>?_);subst ex;obtain rfl:u=Xa a:=rx;exact Ax I1 ea c n l λu' s2 I2 ru=>⟨v,H1,I2,ru,q⟩
theorem LR (ha:PE X o ta)(hv:PE X value tv)(hs:Vh value (some (.Attribute o f pos')) pos.line X.env=pure false):PS X (.Assign [.Attribute o f pos'] value pos) (Ra X.K ta tv f):=by
 intro XR s σ H D I h;refine plainObj_wpAny_Assign_Attribute (a8 (hv XR s σ H _ I h) λu s1 ⟨y,H1,I1,ry,q⟩=>a8 (ha XR s1 σ H1 _ I1 q) λov s2 ⟨x,H2,I2,rx,a,C,dx,fs,ex,ea,c,n,l,q2⟩=>?_) hs;subst ex;obtain rfl:ov=Xa a:=rx;exact A3 I2 ea c n l ry λs3 I3=>⟨σ,_,I3,q2⟩
end
section
variable {c:`aK}{b:Bool}
inductive f7 (K:Xh) (H:Hp):V->Value->Prop where
 | X4:f7 K H .X4 (.type "NoneType")
 | bl (x:Bool):f7 K H (.bl x) (.type "bool")
 | int (i:Int):f7 K H (.int i) (.type "int")
 | str (x:Str):f7 K H (.str x) (.type "str")
 | flt (x:UInt64):f7 K H (.flt x) (.type "float")
 | lst {a:Addr} {xs:`P} (e:H a∣.lst xs):f7 K H (.ref a) (.type "list")
 | YI {a:Addr} {o:Obj} {xs:`P} (e:H a∣(.YI o (.lst xs))):f7 K H (.ref a) (.type "list")
 | tup {a:Addr} {xs:`P} (e:H a∣.tup xs):f7 K H (.ref a) (.type "tuple")
 | dK {a:Addr} {kvs:List (Key×V)} (e:H a∣.dK kvs):f7 K H (.ref a) (.type "dict")
 | dT {a:Addr} {kvs:List (List Key×V)} (e:H a∣.dT kvs):f7 K H (.ref a) (.type "dict")
 | ins {a C dx:Addr} {fs:List (Str×V)} (e:H a∣.ins C dx fs) (cl:mT K C) (ha:Xk K (.ref C) "__class__"∣(some (.builtin "object.__class__")))
  (hn:PySem.W.specialIn K (.builtin "object.__class__") "__get__"∣(some (.builtin "getset_descriptor.__get__"))) (htk:PySem.W.takesIn K (.builtin "object.__class__")∣true)
  (hm:PySem.W.mroIn K C (.type "object")∣true):f7 K H (.ref a) (.ref C)
theorem CY {x:V}{t:`aK}(I:`j)(rx:RelV x u)(ty:f7 X.K H x t)(e:XB X.K t c∣b)(h:∀tk,Q (.bool b) {s with toks:=tk}):
 wpAny `f A (call (.builtin "isinstance") [u,c]) Q E s:=by
 cases ty with
 | X4=>cases (show u=Xb from rx);exact Xo PySem.W.kitx_none I.gu XD e (λz=>nomatch z) h
 | bl y=>cases (show u=Xe y from rx);exact Xo PySem.W.kitx_bool I.gu XD e (λz=>nomatch z) h
 | int i=>let⟨t,q⟩:=(show∃t,u=Xc i t from rx);cases q;exact Xo PySem.W.kitx_int I.gu XD e (λz=>nomatch z) h
 | str y=>let⟨t,q⟩:=(show∃t,u=Xd y t from rx);cases q;exact Xo PySem.W.kitx_str I.gu XD e (λz=>nomatch z) h
 | flt y=>let⟨t,q⟩:=(show∃t,u=Xf y t from rx);cases q;exact Xo PySem.W.kitx_float I.gu XD e (λz=>nomatch z) h
 | @lst a xs ea=>
   cases (show u=Xa a from rx)
   let⟨_,_,n,_,h1⟩:=(show da X.prog X.w H s.heap a (.lst xs) from I.XX a _ ea);exact Xo PySem.W.kitx_list I.gu ⟨_,h1,rfl⟩ e (λz=>nomatch z) h
 | @YI a ob xs ea=>
   cases (show u=Xa a from rx)
   let⟨_,_,_,n,_,h1⟩:=(show da X.prog X.w H s.heap a (.YI ob (.lst xs)) from I.XX a _ ea);exact Xo PySem.W.kitx_list I.gu ⟨_,h1,rfl⟩ e (λz=>nomatch z) h
 | @tup a xs ea=>
   cases (show u=Xa a from rx)
   let⟨_,_,_,p⟩:=(show da X.prog X.w H s.heap a (.tup xs) from I.XX a _ ea);let⟨o,h1,h2,_⟩:=p;exact Xo PySem.W.kitx_tuple I.gu ⟨o,h1,h2⟩ e (λz=>nomatch z) h
 | @dK a kvs ea=>
   cases (show u=Xa a from rx)
   let⟨_,_,vs,_,p⟩:=(show da X.prog X.w H s.heap a (.dK kvs) from I.XX a _ ea);let⟨o,es,ep,h1,h2,_⟩:=p;exact Xo PySem.W.kitx_dict I.gu ⟨o,h1,h2.1⟩ e (λz=>nomatch z) h
 | @dT a kvs ea=>
   cases (show u=Xa a from rx)
   let⟨_,_,xs,_,o,es,ep,h1,h2,_⟩:=(show da X.prog X.w H s.heap a (.dT kvs) from I.XX a _ ea);exact Xo PySem.W.kitx_dict I.gu ⟨o,h1,h2.1⟩ e (λz=>nomatch z) h
 | @ins a C dx fs ea cl ha hn htk hm=>
   cases (show u=Xa a from rx)
   let⟨mA,O,_⟩:=t7 I.XX ea;let⟨od,J,_⟩:=O.look;exact Xo (PySem.W.kitx_own (cl.get _) cl.hd ha hn htk hm) I.gu J e (λz=>nomatch z) h
end
structure bG (k:Nat)(A:Vg):Prop where
 hd:A.handled=none
 dp:A.depth+3*k+5<recursionLimit
 un:A.units+16*k+200<cLine
theorem bG.mono {j k:Nat}(r:bG k A)(h:j<=k):bG j A:=⟨r.hd,by have:=r.dp;cbv,by have:=r.un;cbv⟩
theorem bG.deeper {k:Nat}(r:bG (k+1) A)(env:Env):bG k (A.deeper env):=
 ⟨r.hd,by have:=r.dp;show A.depth+1+3*k+5<_;cbv,by have:=r.un;show A.units+3+16*k+200<_;cbv⟩
theorem AD :(A.under (.builtin "type.__call__" ⟨.ref C::us,kw⟩)).depth=A.depth+1:=by
 first | rfl | simp[Vg.under,Code.weight,Code.isCreation,Code.isGuard,Code.isCaller,Code.frames,WE,guardIds]
theorem AX :(A.under (.builtin "type.__call__" ⟨.ref C::us,kw⟩)).units=A.units+1:=by
 first | rfl | simp[Vg.under,Code.cUnits,Code.frames,WE]
theorem bG.make {k:Nat}(r:bG (k+1) A)(C:Addr)(us:RC)(kw:List (Str×Value)):bG k `aV:=
 ⟨r.hd,by have:=r.dp;rw[AD];cbv,by have:=r.un;rw[AX];cbv⟩
theorem bG.depth {k:Nat}(r:bG k A):A.depth<recursionLimit:=by have:=r.dp;cbv
theorem bG.units {k:Nat}(r:bG k A):A.units+64<cLine:=by have:=r.un;cbv
def Ro:TA:=λ_ H Q=>Q [] H
def OG (ta:TE)(tr:TA):TA:=λσ H Q=>ta σ H λx H1=>tr σ H1 λxs H2=>Q (x::xs) H2
variable {t:TA}
theorem br:PA X [] Ro:=λ_ _ _ _ H Q I h=>Calls.spliced_nil ⟨[],H,I,.nil,h⟩
theorem aI (ha:PE X e te)(hr:PA X es t)(hs:dq X e es:=by rfl):PA X (e::es) (OG te t):=by
 intro pos XR s σ H Q I h;rw[hs];show wpAny _ _ (spliced ((false,eval e X.env)::V1 pos (Vf es X.env))) _ _ s;refine WC (a8 `aL λu s1 ⟨x,H1,I1,r1,q1⟩=>?_);exact a8 (hr pos XR s1 σ H1 _ I1 q1) λus s2 ⟨xs,H2,I2,r2,q2⟩=>⟨x::xs,H2,I2,.cons r1 r2,q2⟩
def QX (t:TA):TE:=λσ H Q=>t σ H λxs H1=>xs.length<=U9/\∀p,H1 p=none->Q (.ref p) (upd H1 p (.tup xs))
def QI (t:TA):TE:=λσ H Q=>t σ H λxs H1=>xs.length<=U9/\∀p,H1 p=none->Q (.ref p) (upd H1 p (.lst xs))
theorem sr {x1}(h:PA X es t):PE X (.Tuple es x1 pos) (QX t):=by
 intro XR s σ H Q I hq;refine wpAny_Tuple_spliced (a8 (h pos XR s σ H _ I hq) λus s1 ⟨xs,H1,I1,r,z,q⟩=>⟨by rw[← r.length];exact z,?_⟩);let hf:H1 ⇑s1=none:=I1.XX.fresh (Uw _);refine⟨.ref ⇑s1,upd H1 ⇑s1 (.tup xs),I1.laid (t':=s1.toks) (λb u e=>WR _ e) (Uw _) ?_,rfl,q _ hf⟩;exact⟨z,us,r,⟨_,WU _ rfl,rfl,_,rfl⟩⟩
theorem sE (h:PA X es t):PE X (.List es pos) (QI t):=by
 intro XR s σ H Q I hq;refine wpAny_List_spliced (a8 (h pos XR s σ H _ I hq) λus s1 ⟨xs,H1,I1,r,z,q⟩=>⟨by rw[← r.length];exact z,?_⟩);let hf:H1 ⇑s1=none:=I1.XX.fresh (Uw _);refine⟨.ref ⇑s1,upd H1 ⇑s1 (.lst xs),I1.laid (t':=s1.toks) (λb u e=>WR _ e) (Uw _) ?_,rfl,q _ hf⟩;exact⟨z,us,0,r,WU _ rfl⟩
abbrev Sp:=List V->Hp->VK->XK->Prop
abbrev om:=List Env->Hp->Va->XK->Value->Va->Prop
structure rK (P:Ve)(w:World)(K:Xh)(mg:Rt)(base:Heap)(A:Vg)(outer:List Env)(s:Va)(H:Hp):Prop where
 frames:A.frames∣outer
 mod:Mod K mg base
 bs:∀b o,base.get? b∣o->s.heap.get? b∣o/\H b=none
 bsz:base.objs.size<=⇑s
 YR:s.heap.FunFrames base outer
 frf:∀b∈nD outer,H b=none
 XX:fo P w H s.heap
 bare:U6 s.gens
def CE (outer:List Env)(P:Ve)(w:World)(H:Hp)(s:Va)(Q:VK)(u:`aK)(s':Va):Prop:=
 ∃v H',s'.os=s.os/\U6 s'.gens/\Un (nD outer) [] H H' s.heap s'.heap/\fo P w H' s'.heap/\RelV v u/\Q v H'
noncomputable def CR (CX:om)(outer:List Env)(P:Ve)(w:World)(H:Hp)(s:Va)(Q:VK)(E:XK)(r:Result)(s':Va):Prop:=
 match r with
 | .ok (.ret u)=>CE outer P w H s Q u s'
 | .ok _=>False
 | .error e=>CX outer H s E e s'
structure eZ (P:Ve)(w:World)(K:Xh)(mg:Rt)(base:Heap)(CX:om)(k:Nat)(f:Addr)(fd:Vi)(ps:Rx)(sp:Sp):Prop where
 len:∀vs H Q E,sp vs H Q E->vs.length=ps.length
 run:∀(A:Vg)(outer:List Env)(s:Va)(H:Hp)(args:Args)(us:RC)(vs:`P)(Q:VK)(E:XK),bG k A->rK P w K mg base A outer s H->Wg s fd args (ps.zip us)->Vals vs us->sp vs H Q E->
  VZ (model P w) A (.call (.ref f) args) (CR CX outer P w H s Q E) s
theorem eZ.mono {P:Ve}{w:World}{K:Xh}{mg:Rt}{base:Heap}{CX:om}{j k:Nat}{f:Addr}{fd:Vi}{ps:Rx}{sp:Sp}(F:eZ P w K mg base CX j f fd ps sp)(h:j<=k):
 eZ P w K mg base CX k f fd ps sp:=⟨F.len,λA outer s H args us vs Q E hr=>F.run A outer s H args us vs Q E (hr.mono h)⟩
variable {mg:Rt}{base:Heap}{outer:List Env}
theorem rK.make (e:rK P w K mg base A outer s H)(C:Addr)(us:RC)(kw:List (Str×Value)):
 rK P w K mg base `aV outer s H:=⟨by first | exact e.frames | (simpa[Vg.under,Code.envs,WE,pushEnvs] using e.frames),e.mod,e.bs,e.bsz,e.YR,e.frf,e.XX,e.bare⟩
theorem Inv.Ks (I:`j):rK X.prog X.w X.K X.mg X.base X.A X.stack s H:=
 ⟨I.ok.frames,I.ok.mod,I.bs,Ux I.ok.bsz I.sz,I.stack,I.yT,I.XX,I.bare⟩
theorem Inv.after {Q:VK}(I:`j)(h:CE X.stack X.prog X.w H s Q u s'):EP X XR σ Q u s':=by
 let⟨v,H',os,bare,un,XX,r,q⟩:=h;let⟨hh,g,d,t,os'⟩:=s';obtain rfl:os'=s.os:=os;exact⟨v,H',I.call (h':=hh) (g':=g) (d':=d) (t':=t) (ch:=[]) un XX bare (λb z=>XE z `d),r,q⟩
def NH (sp:Sp)(ZC:`P)(E:XK)(t:TA):TE:=λσ H Q=>t σ H λvs H1=>sp (vs++ZC) H1 Q E
def Nx (C:Addr)(sp:Sp)(ZC:`P)(E:XK)(t:TA):TE:=λσ H Q=>t σ H λvs H1=>∀x dx,H1 x=none->H1 dx=none->dx≠x->
 sp (.ref x::(vs++ZC)) (upd (upd H1 dx (.own x)) x (.ins C dx [])) (λv H2=>v= .X4/\Q (.ref x) H2) E
def Binds (K:Xh)(fd:Vi)(ps:Rx)(ds:RC):Prop:=
 ∀(s:Va)(us:RC),K.In s.heap->(us++ds).length=ps.length->Wg s fd ⟨us,[]⟩ (ps.zip (us++ds))
variable {fd:Vi}{ps:Rx}
theorem Binds.all (h:∀us:RC,us.length=ps.length->bindArgs fd ⟨us,[]⟩=pure (ps.zip us)):Binds K fd ps []:=λs us _ hl=>by
 rw[Sw] at hl ⊢;exact .of_eq (h us hl)
def Passes (CX:om)(X:Cx)(E:XK):Prop:=∀(XR:Ru)(σ:St)(H:Hp)(s:Va)(e:`aK)(s':Va),Inv X XR σ H s->CX X.stack H s E e s'->X.xe e s'
variable {CX:om}{sp:Sp}{vs:`P}
section
variable {k:Nat}{f:Addr}{ZC:`P}{ds:RC}{E:XK}{m:Str}{p apos:Pos}{o:Expr}
theorem Mh {Q:VK}(F:eZ X.prog X.w X.K X.mg X.base CX k f fd ps sp)(hr:bG k X.A)(hb:Binds X.K fd ps ds)(hd:Vals ZC ds)(hx:Passes CX X E)(I:`j)(r:Vals vs us)(h:sp (vs++ZC) H Q E):wpAny `f X.A (call (.ref f) us) (EP X XR σ Q) X.xe s:=by
 let r2:Vals (vs++ZC) (us++ds):=r.append hd;let hl:(us++ds).length=ps.length:=by rw[← r2.length];exact F.len _ _ _ _ h
 refine wpAny_call (V8 (F.run X.A X.stack s H ⟨us,[]⟩ (us++ds) (vs++ZC) Q E hr I.Ks (hb s us I.gu hl) r2 h) λr s' hq=>?_);cases r with
 | error e=>exact hx XR σ H s e s' I hq
 | ok fl=>
   cases fl with
   | ret u=>exact I.after hq
   | next=>exact RQ hq
   | brk=>exact RQ hq
   | cont=>exact RQ hq
theorem iZ (F:eZ X.prog X.w X.K X.mg X.base CX k f fd ps sp)(hr:bG k X.A)(hg:Gl X x)(hm:X.mg x∣.ref f)(hk:Xm X.K (.ref f)=true)(hb:Binds X.K fd ps ds)(hd:Vals ZC ds)(hx:Passes CX X E)(ha:PA X (e::es) t)(Yo:YJ x:=by decide)(he:dq X e es:=by rfl)(Yb:fc X pos es:=by rfl):
 PE X (.Call `aq (e::es) [] pos) (NH sp ZC E t):=by
 intro XR s σ H Q I h;refine VM (uE I hg hm ?_ Yo);refine PySem.W.callWith_K (h₀:=X.base) I.ok.mod.kin hk (a8 (ha pos XR s σ H _ I h) λus s1 ⟨vs,H1,I1,r,q⟩=>⟨I1.gu,?_⟩) he Yb;exact Mh F hr hb hd hx I1 r q
structure Mk (K:Xh)(C f:Addr):Prop where
 makes:Xw K C=true
 init:Xk K (.ref C) "__init__"∣(some (.ref f))
 fn:XC K (.ref f)=true
 kp:Xm K (.ref C)=true
theorem FK {Q:VK}(M:Mk X.K C f)(F:eZ X.prog X.w X.K X.mg X.base CX k f fd ps sp)(hr:bG (k+1) X.A)(hb:Binds X.K fd ps ds)(hd:Vals ZC ds)(hx:Passes CX X E)(I:`j)(r:Vals vs us)(h:∀x dx,H x=none->H dx=none->dx≠x->sp (.ref x::(vs++ZC)) (upd (upd H dx (.own x)) x (.ins C dx [])) (λv H2=>v= .X4/\Q (.ref x) H2) E):
 wpAny `f X.A (call (.ref C) us) (EP X XR σ Q) X.xe s:=by
 let hq:=h (⇑s+1) ⇑s (I.XX.fresh (UH _)) (I.XX.fresh (Uw _)) (UB (UG _));let I2:=Inv.made (C:=C) I;let r2:Vals (V.ref (⇑s+1)::(vs++ZC)) (Xa (⇑s+1)::(us++ds)):=.cons rfl (r.append hd);let hl:(Xa (⇑s+1)::us++ds).length=ps.length:=by
  let e:=r2.length;rw[F.len _ _ _ _ hq] at e;exact e.symm
 refine wpAny_call (Fw (f:=f) I.gu M.makes M.init (beq_iff_eq.mp M.fn) (V8 (F.run _ X.stack _ _ ⟨Xa (⇑s+1)::us,[]⟩ (Xa (⇑s+1)::(us++ds)) _ _ E (hr.make C us [])
  (I2.Ks.make C us []) (hb _ (Xa (⇑s+1)::us) I2.gu hl) r2 hq) λr s' YY=>?_))
 cases r with
 | error e=>exact hx XR σ _ _ e s' I2 YY
 | ok fl=>
   cases fl with
   | ret u=>
     let⟨v,H',I3,rv,ev,q3⟩:=I2.after YY;subst ev;exact⟨rv,⟨V.ref (⇑s+1),H',I3,rfl,q3⟩⟩
   | next=>exact RQ YY
   | brk=>exact RQ YY
   | cont=>exact RQ YY
theorem HP (M:Mk X.K C f)(F:eZ X.prog X.w X.K X.mg X.base CX k f fd ps sp)(hr:bG (k+1) X.A)(hg:Gl X x)(hm:X.mg x∣.ref C)(hb:Binds X.K fd ps ds)(hd:Vals ZC ds)(hx:Passes CX X E)(ha:PA X (e::es) t)(Yo:YJ x:=by decide)(he:dq X e es:=by rfl)(Yb:fc X pos es:=by rfl):
 PE X (.Call `aq (e::es) [] pos) (Nx C sp ZC E t):=by
 intro XR s σ H Q I h;refine VM (uE I hg hm ?_ Yo);refine PySem.W.callWith_K (h₀:=X.base) I.ok.mod.kin M.kp (a8 (ha pos XR s σ H _ I h) λus s1 ⟨vs,H1,I1,r,q⟩=>⟨I1.gu,?_⟩) he Yb;exact FK M F hr hb hd hx I1 r q
end
section
variable {k:Nat}{f:Addr}{ks:Rx}{E:XK}{m:Str}{p apos kpos:Pos}{o:Expr}{kws:List V5}{tk:TA}{nm:Option Str}
variable {g:RC->RC->RC}{gV:List V->List V->List V}
end
structure bF (N P:Rx)(sc:Scope):Prop where
 kind:sc.kind= .function
 co:sc.isCoroutine=false
 gen:sc.isGenerator=false
 nd:N.Nodup
 pre:N.take P.length=P
 par:∀x∈P,sc.names.lookup x∣.local∨sc.names.lookup x∣.cell
 nofree:∀y∈sc.names,y.2≠ .free
variable {sc:Scope}
theorem Y6{P:Rx}(a:sc.kind=.function:=by rfl)(b:sc.isCoroutine=false:=by rfl)(c:sc.isGenerator=false:=by rfl)(d:N.Nodup:=by decide +kernel)(e:N.take P.length=P:=by rfl)(f:∀x∈P,sc.names.lookup x∣.local∨sc.names.lookup x∣.cell:=by decide +kernel)(g:∀y∈sc.names,y.2≠.free:=by decide +kernel):bF N P sc:=⟨a,b,c,d,e,f,g⟩
theorem uV {kindOf:Str->Option VH}{x:Str}:∀{binds:List (Str×Value)}{m:Rt},(∀v,(x,v)∉binds)->bindL kindOf binds m x=m x
 | [],_,_=>rfl
 | (n,v)::r,m,h=>by
   unfold bindL;rw[uV λw hw=>h w (Sb _ hw)];split
   ·have:x≠n:=by rintro rfl;exact h v Se
    simp[this]
   ·rfl
theorem vc {kindOf:Str->Option VH}{x:Str}:∀{binds:List (Str×Value)}{m:Rt},(∀v,(x,v)∉binds)->bindC kindOf binds m x=m x
 | [],_,_=>rfl
 | (n,v)::r,m,h=>by
   unfold bindC;rw[vc λw hw=>h w (Sb _ hw)];split
   ·rfl
   ·have:x≠n:=by rintro rfl;exact h v Se
    simp[this]
theorem uM {kindOf:Str->Option VH}{x:Str}{v:`aK}:∀{P:Rx}{vs:RC}{i:Nat}{m:Rt},P.Nodup->P[i]?∣x->vs[i]?∣v->kindOf x∣.local->
 bindL kindOf (P.zip vs) m x∣v
 | [],_,_,_,_,h,_,_=>by simp at h
 | _::_,[],_,_,_,_,h,_=>by simp at h
 | p::P,w::vs,0,m,nd,h1,h2,hk=>by
   simp at h1 h2;subst h1;subst h2;show bindL kindOf ((p,w)::P.zip vs) m p=_;unfold bindL;rw[uV λv hv=>(Sz.mp nd).1 (T5 hv).1,XG hk];simp
 | p::P,w::vs,i+1,m,nd,h1,h2,hk=>by
   show bindL kindOf ((p,w)::P.zip vs) m x=_;unfold bindL;exact uM (i:=i) (Sz.mp nd).2 (~~~h1) (~~~h2) hk
theorem uR {kindOf:Str->Option VH}{x:Str}{v:`aK}:∀{P:Rx}{vs:RC}{i:Nat}{m:Rt},P.Nodup->P[i]?∣x->vs[i]?∣v->kindOf x≠some .local->
 bindC kindOf (P.zip vs) m x∣v
 | [],_,_,_,_,h,_,_=>by simp at h
 | _::_,[],_,_,_,_,h,_=>by simp at h
 | p::P,w::vs,0,m,nd,h1,h2,hk=>by
   simp at h1 h2;subst h1;subst h2;show bindC kindOf ((p,w)::P.zip vs) m p=_;unfold bindC;rw[vc λv hv=>(Sz.mp nd).1 (T5 hv).1,XF hk];simp
 | p::P,w::vs,i+1,m,nd,h1,h2,hk=>by
   show bindC kindOf ((p,w)::P.zip vs) m x=_;unfold bindC;exact uR (i:=i) (Sz.mp nd).2 (~~~h1) (~~~h2) hk
noncomputable def start (N:Rx)(vs:`P):St:=vs.map some++S7 (N.length-vs.length) none
def eU (CX:om)(P:Ve)(w:World)(K:Xh)(mg:Rt)(base:Heap)(N:Rx)(qual:Str)(scope:Scope)(f:Addr)(cd:`aK)(A:Vg)(outer:List Env)(s:Va)(H:Hp)(E:XK):Cx where
 prog:=P
 w:=w
 K:=K
 mg:=mg
 base:=base
 A:=A.deeper (U4 qual scope ⇑s f cd)
 N:=N
 s₀:=s
 H₀:=H
 env:=U4 qual scope ⇑s f cd
 outer:=outer
 stack:=U4 qual scope ⇑s f cd::outer
 ex:=[]
 calm:=true
 fn:=λ_=>true
 pn:=[]
 xe:=λe s'=>wpAny (model P w) (A.deeper (U4 qual scope ⇑s f cd)) (leaving (U4 qual scope ⇑s f cd) e) (λ_ s''=>CX outer H s E e s'') (λe' s''=>CX outer H s E e' s'') s'
theorem bt (h:sc.names.lookup x∣.cell):∃c,(cellsFrom n sc.names []).lookup x∣c:=by
 let q:=PySem.W.cellsFrom_some sc.names n [] (.inl h);exact Option.isSome_iff_exists.mp q
variable {qual:Str}{scope:Scope}
theorem Dh {f:Addr}{cd:`aK}{s1:Va}{E:XK}(S:bF N ps scope)(hd:A.handled=none)(e0:rK P w K mg base A outer s H)(hl:vs.length=ps.length)(r:Vals vs us)(x:InCallC s ⇑s (bindL (U4 qual scope ⇑s f cd).kindOf (ps.zip us) λ_=>none) (cellsFrom (⇑s+1) scope.names []) (bindC (U4 qual scope ⇑s f cd).kindOf (ps.zip us) λ_=>none) s1):
 Inv (eU CX P w K mg base N qual scope f cd A outer s H E) [] (start N vs) H s1:=by
 let Yb:ps.length<=N.length:=by have:=congrArg List.length S.pre;rw[Sx] at this;cbv
 let⟨h1,tk,rfl,hk⟩:=x.done;let noA:∀b:Addr,b∉(eU CX P w K mg base N qual scope f cd A outer s H E).ex:=λb z=>XE (show b∈([]:Rz) from z) `d;refine⟨⟨e0.mod,S.kind,rfl,rfl,Uw _,λy z c h1 h2=>?_,λy hy=>?_,λy c _ h=>?_,λ_=>hd,Vg.frames_deeper e0.frames,.inr ⟨rfl,rfl⟩,λb z=>XE z (noA b),e0.bs,e0.bsz,λb _ _=>noA b,λb z=>XE z (noA b),e0.YR,e0.frf⟩,
  rfl,e0.bare,Un.kept hk,⟨_,x.toInCall.ns,λi y v h1 h2 h3=>?_⟩,λy c h=>⟨_,x.cell y c h⟩,e0.XX.fresh (Uw _),λy c h=>?_,λp hp=>XE (show p∈([]:Ru) from hp) `d,e0.XX.kept hk,?_⟩
 ·exact name_of_addr x.apart (Vl h1) (Vl h2)
 ·let hy:scope.names.lookup y∣.cell∨scope.names.lookup y∣.free:=hy;obtain hy | hy:=hy
  ·exact bt hy
  ·exact XE rfl (S.nofree _ (Vl hy))
 ·exact UR (x.above y c (Vl h))
 ·let hi:i<vs.length:=by
   unfold start at h2;by_cases hi:i<vs.length
   ·exact hi
   ·rw[SG (~~~hi)] at h2;rw[Tx] at h2;split at h2<;>cases h2
  let ha:vs[i]?∣v:=by
   unfold start at h2;rw[SD (~~~hi),Sf] at h2;cases e:vs[i]? with
   | none=>rw[e] at h2;cases h2
   | some a=>rw[e] at h2;cases h2;rfl
  let⟨u,hu,rv⟩:=r.get ha;let hp:ps[i]?∣y:=by
   rw[← S.pre,List.getElem?_take_of_lt `a];exact h1
  let ndP:ps.Nodup:=by rw[← S.pre];exact S.nd.sublist (List.take_sublist _ _)
  refine⟨u,rv,?_⟩;obtain k | k:=S.par y (Sg hp)
  ·exact .inl ⟨k,uM ndP hp hu k⟩
  ·let⟨c,e⟩:=bt (n:=⇑s+1) k;refine .inr ⟨.inl k,c,e,?_⟩;let q:=x.cell y c e;rw[uR ndP hp hu (by show scope.names.lookup y≠_;rw[k];decide)] at q;exact q
 ·exact e0.XX.fresh (UR (x.above y c (Vl h)))
 ·unfold start;show _=N.length;rw[Sd,R9,Tn];cbv
theorem NR {k:Nat}{f:Addr}{params:Arguments}{dV kV doc pm XU ct oc:`aK}{an od:Option Addr}{Zu:Array Ry}(lk:K.lookup f∣⟨oc,od,.func (Xn name qual params body scope dV kV doc pm an XU ct),Zu⟩)(ZN:Xr K XU qual=true)(S:bF N ps scope)(len:∀vs H Q E,sp vs H Q E->vs.length=ps.length)(Yd:∀(A:Vg)(outer:List Env)(s:Va)(H:Hp)(vs:`P)(Q:VK)(E:XK),bG k (A.deeper (U4 qual scope ⇑s f XU))->sp vs H Q E->
  ∃t,lJ (eU CX P w K mg base N qual scope f XU A outer s H E) body t/\t {nx:=λ_ H'=>Q .X4 H',rt:=Q} (start N vs) H):
 eZ P w K mg base CX (k+1) f (Xn name qual params body scope dV kV doc pm an XU ct) ps sp:=by
 refine⟨len,λA outer s H args us vs Q E hr e0 hb r ZL=>?_⟩;let hl:=len _ _ _ _ ZL;let KX:K.In s.heap:=e0.mod.kin.keeps λb o e=>(e0.bs b o e).1;let lim:s.heap.NoLimit:=e0.mod.nolimit.keeps λb o e=>(e0.bs b o e).1;let hkind:∀y∈ps.zip us,scope.names.lookup y.1∣.local∨(scope.names.lookup y.1∣.cell/\((cellsFrom (⇑s+1) scope.names []).lookup y.1).isSome=true):=λ⟨n,v⟩ hy=>by
  obtain q | q:=S.par n (T5 hy).1
  ·exact .inl q
  ·exact .inr ⟨q,PySem.W.cellsFrom_some _ _ _ (.inl q)⟩
 refine codeAny_call_function hr.depth (KX _ _ lk) rfl S.co S.gen rfl (PySem.W.codeRec_of KX ZN) (hb _ _ _ _ ?_);refine wpAny_newFunctionEnv_cells S.kind hkind λenv he s1 x=>?_;subst he;refine⟨lim.keeps x.toInCall.keep,codeAny_func ?_⟩;let⟨t,ht,hq⟩:=Yd A outer s H vs Q E (hr.deeper _) ZL;let I:Inv (eU CX P w K mg base N qual scope f XU A outer s H E) [] (start N vs) H s1:=Dh S hr.hd e0 hl r x;refine Vo (ht [] s1 (start N vs) H _ I hq) (λfl s' hs=>?_) λe s' hs=>hs;let fin:∀{σ':St}{H':Hp}{v:V}{u:`aK},Inv (eU CX P w K mg base N qual scope f XU A outer s H E) [] σ' H' s'->RelV v u->Q v H'->CE outer P w H s Q u s':=
  λ{σ' H' v u} J rv q=>⟨v,H',J.os,J.bare,J.base,J.XX,rv,q⟩
 cases fl with
 | ret u=>
   let⟨v,σ',H',J,rv,q⟩:=hs;exact fin J rv q
 | next=>
   let⟨σ',H',J,q⟩:=hs;exact fin (v:=V.X4) (u:=Xb) J rfl q
 | brk=>
   let⟨_,_,_,q⟩:=hs;exact RQ q
 | cont=>
   let⟨_,_,_,q⟩:=hs;exact RQ q
section
variable {p:Pos}{id T:String}{r:List V->Hp->VK->Prop}
def Pj (r:List V->Hp->VK->Prop)(t:TA):TE:=λσ H Q=>t σ H λvs H1=>r vs H1 Q
theorem eO (hc:fO X (.builtin id) r)(hg:Gl X x)(hm:X.mg x=none)(hv:VA x∣.builtin id)(ha:PA X (e::es) t)(hn:x≠"__name__":=by decide)(Yo:YJ x:=by decide)(he:dq X e es:=by rfl)(Yb:fc X pos es:=by rfl):PE X (.Call `aq (e::es) [] pos) (Pj r t):=by
 intro XR s σ H Q I h;refine VM (ji I hg hm hv ?_ hn Yo);exact PyProof.Rows.callWith_builtin1 (a8 (ha pos XR s σ H _ I h) λus s1 ⟨vs,H1,I1,r1,q1⟩=>hc XR s1 σ H1 vs us Q I1 r1 q1) he Yb
theorem iT (hc:fO X (.type T) r)(hg:Gl X x)(hm:X.mg x=none)(hv:VA x∣.type T)(ha:PA X (e::es) t)(hn:x≠"__name__":=by decide)(Yo:YJ x:=by decide)(he:dq X e es:=by rfl)(Yb:fc X pos es:=by rfl):PE X (.Call `aq (e::es) [] pos) (Pj r t):=by
 intro XR s σ H Q I h;refine VM (ji I hg hm hv ?_ hn Yo);exact U1 (a8 (ha pos XR s σ H _ I h) λus s1 ⟨vs,H1,I1,r1,q1⟩=>hc XR s1 σ H1 vs us Q I1 r1 q1) he Yb
end
end L2
namespace HT
open PySem PyProof.Rows
section
open PySem.SeqAt
open PySem.AutoSeq1 (wpAny_loadPart')
open PySem.MeetsSeq PySem.MeetsSeq2 PySem.MeetsSeq3
end
variable {sl:Addr}
section
variable {prog:Ve}{w:World}{A:Vg}{E:`s}{s:Va}
noncomputable def X7 (n d:Nat):Option Int->Nat
 | none=>d
 | some v=>if v<0 then(v+(n:Int)).toNat else min v.toNat n
theorem L5 (n d:Nat)(hd:d<=n)(o:Option Int):X7 n d o<=n:=by
 cases o with
 | none=>exact hd
 | some v=>
   show(if v<0 then(v+(n:Int)).toNat else min v.toNat n)<=n;by_cases hv:v<0
   ·rw[XG hv];cbv
   ·rw[XF hv];exact UO _ _
theorem Am (v:Int)(n d:Nat):(if v<0 then max (v+(n:Int)) 0 else min v (n:Int))=((X7 n d (some v):Nat):Int):=by
 show(if v<0 then max (v+(n:Int)) 0 else min v (n:Int))=(((if v<0 then(v+(n:Int)).toNat else min v.toNat n):Nat):Int);by_cases hv:v<0
 ·simp only[XG hv];cbv
 ·simp only[XF hv];cbv
theorem AE (lo hi:Option Int)(n:Nat):Wv lo hi 1 (n:Int)=(((X7 n 0 lo:Nat):Int),((X7 n n hi:Nat):Int)):=by
 let h1:¬((1:Int)<0):=`a
 unfold Wv;simp only[h1,if_false];refine UZ ?_ ?_
 ·cases lo with
  | none=>rfl
  | some v=>exact Am v n 0
 ·cases hi with
  | none=>rfl
  | some v=>exact Am v n n
theorem AS (i j:Nat):Wu (i:Int) (j:Int) 1=j-i:=by
 unfold Wu;let h1:(1:Int)>0:=`a
 simp only[h1,if_true,Int.ediv_one];split<;>cbv
theorem r6 {v:`aK}{o:Option Int}{Q:Option Int->Va->Prop}(p:VU v o)(h:Q o s):wpAny `t A (Builtin.Slice.slicePartIndex v) Q E s:=by
 cases p with
 | none=>exact slicePart_none h
 | int i t=>exact slicePart_int h
theorem lB {vl vu:`aK}{lo hi:Option Int}{n:Nat}{Q:Int×Int×Nat->Va->Prop}(hs:s.heap.IsSliceOf sl vl vu .none)(pl:VU vl lo)(pu:VU vu hi)(h:Q (((X7 n 0 lo:Nat):Int),1,X7 n n hi-X7 n 0 lo) s):wpAny `t A (Builtin.Slice.sliceApplied (.ref sl) (pure (n:Int))) Q E s:=by
 let⟨os,hos,hcs,hds⟩:=id hs;unfold Builtin.Slice.sliceApplied Builtin.Slice.sliceFields;refine Vb (Vb (Vn hos hds (x:=vl) rfl (Vb (Vn hos hds (x:=vu) rfl (Vb (Vn hos hds (x:=.none) rfl (Vd ?_)))))));refine Vb (slicePart_none ?_);show wpAny _ _ (if((1:Int)==0)=true then _ else _) _ _ s;rw[XF `c];refine Vb (r6 pl (Vb (r6 pu (Vb (Vd ?_)))));show wpAny _ _ (match Wv lo hi 1 (n:Int) with | (lo,hi)=>pure (lo,(1:Int),Wu lo hi 1)) _ _ s;rw[AE lo hi n];show wpAny _ _ (pure (((X7 n 0 lo:Nat):Int),(1:Int),Wu ((X7 n 0 lo:Nat):Int) ((X7 n n hi:Nat):Int) 1)) _ _ s;rw[AS];exact Vd h
theorem F4 (xs:Array Value)(i k:Nat):((Sm k).filterMap λ(m:Nat)=>xs[((i:Int)+(m:Int)*1).toNat]?).toArray=((xs.toList.drop i).take k).toArray:=by
 let e:(λ(m:Nat)=>xs[((i:Int)+(m:Int)*1).toNat]?)=λm=>xs[i+m]?:=by
  funext m;have:((i:Int)+(m:Int)*1).toNat=i+m:=`a
  rw[this]
 rw[e];have:=pick_run xs i k;rw[List.filterMap_map] at this;let e2:((λx=>xs[x]?) ∘ λx=>i+x)=λm=>xs[i+m]?:=rfl;rw[e2] at this;rw[this]
theorem qg {t:Addr}{items:Array Value}{vl vu:`aK}{lo hi:Option Int}{Q:`s}(ht:IsTup s.heap t items)(hs:s.heap.IsSliceOf sl vl vu .none)(pl:VU vl lo)(pu:VU vu hi)(hw:¬(X7 items.size 0 lo=0/\X7 items.size items.size hi=items.size))(h:Q (.ref ⇑s) {s with heap:=s.heap.push {cls:=.type "tuple",data:=.seq ((items.toList.drop (X7 items.size 0 lo)).take `aD).toArray}})(hsz:items.size<=U9):wpAny `t A (VO (.ref t) (.ref sl)) Q E s:=by
 let ZH:sizeOk (.seq ((items.toList.drop (X7 items.size 0 lo)).take `aD).toArray):=by
  show((items.toList.drop (X7 items.size 0 lo)).take `aD).toArray.size<=U9;rw[Ss,Sx,TJ,RG];cbv
 let hj:X7 items.size items.size hi<=items.size:=L5 _ _ (Uw _) hi;let⟨os,hos,hcs,hds⟩:=id hs;let hTs:s.TypeIs (.ref sl) "slice":=⟨os,hos,hcs⟩;unfold VO
 try with_reducible refine Vq ?_
 first | refine Vb (Vd ?_) | skip
 refine Vb (wpAny_sequenceKey ht.typeIs `c ?_);refine Vb (Vs (name:=W8 "__getitem__") ht.typeIs U2
  (VF U2 ht.typeIs entry_tuple_getitem ?_ (args_tuple_getitem _ _)))
 show wpAny _ _ (Builtin.Tuple.tupleItemsOf (.ref t) >>=_) _ _ s;refine Vb (tupleItemsOf_ ht ?_);refine Vb (wpAny_typeOf hTs ?_);rw[XG `c];refine Vb (lB hs pl pu ?_);let Z3:¬(`Q=true):=by
  intro q;rw[RJ,RJ] at q;let q1:((X7 items.size 0 lo:Nat):Int)=0:=eq_of_beq q.1.1;let q2:X7 items.size items.size hi-X7 items.size 0 lo=items.size:=eq_of_beq q.2;exact hw ⟨`a,`a⟩
 show wpAny _ _ (if(((X7 items.size 0 lo:Nat):Int)==0&&(1:Int)==1&&`aD==items.size)=true then _ else _) _ _ s;rw[XF Z3,F4]
 first
  | exact Vb (m:=Wz _) (Vv (Vd ⟨_,rfl,Vd h⟩) ZH)
  | exact Vb (m:=Wz _) (Vv (Vb (Vd (Vd ⟨_,rfl,Vd h⟩))) ZH)
  | exact Vb (Vb (m:=Wz _) (Vv (Vd (Vd ⟨_,rfl,Vd h⟩)) ZH))
  | exact Vb (Vb (m:=Wz _) (Vv (Vd ⟨_,rfl,Vd h⟩) ZH))
end
end HT
namespace L2
open PySem PySem.Spec PyProof.Rows
abbrev TO:=St->Hp->(Option Int->Hp->Prop)->Prop
def PO (X:Cx)(e:Option Expr)(t:TO):Prop:=
 ∀(XR:Ru)(s:Va)(σ:St)(H:Hp)(Q:Option Int->Hp->Prop),Inv X XR σ H s->t σ H Q->
  wpAny `f X.A (evalPart e X.env) (λu s'=>∃o H',Inv X XR σ H' s'/\VU u o/\Q o H') X.xe s
def HL:TO:=λ_ H Q=>Q none H
def OD (t:TE):TO:=λσ H Q=>t σ H λx H1=>∃i,x= .int i/\Q (some i) H1
variable {X:Cx}{e:Expr}{pos:Pos}
section
variable {te:TE}{lo hi:Option Expr}{tl th:TO}{p2:Pos}
theorem za:PO X none HL:=by
 intro XR s σ H Q I h;rw[evalPart_none];exact Vd ⟨none,H,I,.none,h⟩
theorem y9 (h:PE X e te):PO X (some e) (OD te):=by
 intro XR s σ H Q I hw;rw[evalPart_some];refine a8 (h XR s σ H _ I hw) λu s1 ⟨x,H1,I1,r1,q1⟩=>?_;let⟨i,rfl,q⟩:=q1;let⟨t,rfl⟩:=r1;exact⟨some i,H1,I1,.int i t,q⟩
def B3 (X:Cx)(r:V->Option Int->Option Int->Hp->VK->Prop):Prop:=
 ∀(XR:Ru)(s:Va)(σ:St)(H:Hp)(x:V)(v vl vu:`aK)(lo hi:Option Int)(sl:Addr)(Q:VK),Inv X XR σ H s->RelV x v->s.heap.IsSliceOf sl vl vu .none->VU vl lo->VU vu hi->r x lo hi H Q->
  ∃T id,typeLookup (.type T) "__getitem__"=pure (some (.builtin id))/\s.TypeIs v T/\wpAny `f X.A (VO v (.ref sl)) (EP X XR σ Q) X.xe s
def tSl (r:V->Option Int->Option Int->Hp->VK->Prop)(te:TE)(tl th:TO):TE:=λσ H Q=>te σ H λx H1=>tl σ H1 λl H2=>th σ H2 λu H3=>r x l u H3 Q
theorem lI {r:V->Option Int->Option Int->Hp->VK->Prop}(hr:B3 X r)(he:PE X e te)(hl:PO X lo tl)(hu:PO X hi th):PE X (.Subscript e (.Slice lo hi none p2) pos) (tSl r te tl th):=by
 intro XR s σ H Q I h;refine Subscript_ (a8 (he XR s σ H _ I h) λv s1 ⟨x,H1,I1,r1,q1⟩=>?_);refine wpAny_Slice (a8 (hl XR s1 σ H1 _ I1 q1) λvl s2 ⟨l,H2,I2,pl,q2⟩=>a8 (hu XR s2 σ H2 _ I2 q2) λvu s3 ⟨u,H3,I3,pu,q3⟩=>?_);rw[evalPart_none];refine Vd ?_;let I4:Inv X XR σ H3 {s3 with heap:=s3.heap.push {cls:=.type "slice",data:=.fields #[vl,vu,.none]}}:=I3.kept (t':=s3.toks) λb ob q=>WR _ q;let⟨T,id,hT,ht,hg⟩:=hr XR {s3 with heap:=s3.heap.push {cls:=.type "slice",data:=.fields #[vl,vu,.none]}} σ H3 x v vl vu l u ⇑s3 Q I4 r1 (Heap.IsSliceOf.new ..) pl pu q3;show wpAny `f X.A (U8 e (.Slice lo hi none p2) v (.ref ⇑s3)) (EP X XR σ Q) X.xe {s3 with heap:=s3.heap.push {cls:=.type "slice",data:=.fields #[vl,vu,.none]}};exact tail_any (ops:=[.ref ⇑s3,v]) ht hT hg (by with_unfolding_all rfl)
def mz (xs:`P)(lo hi:Option Int):List V:=(xs.drop (HT.X7 xs.length 0 lo)).take (HT.X7 xs.length xs.length hi-HT.X7 xs.length 0 lo)
theorem qv (xs:`P)(lo hi:Option Int):(mz xs lo hi).length<=xs.length:=by
 unfold mz;rw[Sx,TJ];cbv
def Rg (K:Xh):V->Option Int->Option Int->Hp->VK->Prop:=λx lo hi H Q=>∃a xs,x= .ref a/\dY K H a xs/\
 ¬(HT.X7 xs.length 0 lo=0/\HT.X7 xs.length xs.length hi=xs.length)/\∀p,H p=none->Q (.ref p) (upd H p (.tup (mz xs lo hi)))
theorem BV:B3 X (Rg X.K):=by
 intro XR s σ H x v vl vu lo hi sl Q I rx hs pl pu h;let⟨a,xs,rfl,hx,hw,q⟩:=h;cases rx
 let⟨XT,r,ht,hz⟩:=I.tuple hx;let hlen:XT.toArray.size=xs.length:=by rw[Ss];exact r.length.symm
 refine⟨"tuple",_,U2.lookup,ht.typeIs,?_⟩;refine HT.qg ht hs pl pu (by rw[hlen];exact hw) ?_ (by rw[hlen];exact hz);rw[hlen];refine⟨.ref ⇑s,_,I.laid (t':=s.toks) (o:=.tup (mz xs lo hi)) (λb ob q=>WR _ q) (Uw _) ?_,rfl,q _ (I.XX.fresh (Uw _))⟩;exact⟨Ux (qv xs lo hi) hz,_,(r.drop (HT.X7 xs.length 0 lo)).take (HT.X7 xs.length xs.length hi-HT.X7 xs.length 0 lo),IsTup.new _ _⟩
end
variable {α:Type}{n:Nat}{i:Int}{j:Nat}{xs:`u}
noncomputable def fL (n:Nat)(i:Int):Option Nat:=if 0<=i then(if i<n then some i.toNat else none) else if -(n:Int)<=i then some (i+n).toNat else none
def bX (xs:`u)(i:Int):Option α:=(fL xs.length i).bind λj=>xs[j]?
theorem uD (h:fL n i∣j):seqIndex? i n∣j/\j<n/\ -(n:Int)<=i/\i<n:=by
 unfold fL at h;by_cases h0:0<=i
 ·rw[XG h0] at h;by_cases h1:i<n
  ·rw[XG h1] at h;let e:i.toNat=j:=Option.some.inj h;exact⟨by rw[seqIndex_of h0 h1,e],`a,`a,h1⟩
  ·rw[XF h1] at h;cases h
 ·rw[XF h0] at h;by_cases h1: -(n:Int)<=i
  ·rw[XG h1] at h;let e:(i+n).toNat=j:=Option.some.inj h;exact⟨by rw[seqIndex_neg `a h1,e],`a,h1,`a⟩
  ·rw[XF h1] at h;cases h
theorem tQ {v:α}(h:bX xs i∣v):∃j,seqIndex? i xs.length∣j/\xs[j]?∣v/\j<xs.length/\ -(xs.length:Int)<=i/\i<xs.length:=by
 unfold bX at h;cases e:fL xs.length i with
 | none=>rw[e] at h;cases h
 | some j=>
   rw[e] at h;let⟨h1,h2,h3,h4⟩:=uD e;exact⟨j,h1,h,h2,h3,h4⟩
theorem Jm {v:α}(h:xs[j]?∣v):bX xs (j:Int)∣v:=by
 let hj:j<xs.length:=(R6.mp h).1;let e:fL xs.length (j:Int)∣j:=by
  unfold fL;rw[XG `a,XG `a];simp
 unfold bX;rw[e];exact h
def dP (b:Expr):Prop:=∀o i,Wd b false o i=operate [o,i] (VO o i)
def GV (X:Cx)(r:R2):Prop:=
 ∀(value slice:Expr)(XR:Ru)(s:Va)(σ:St)(H:Hp)(x y:V)(v u:`aK)(Q:VK),Inv X XR σ H s->RelV x v->RelV y u->r x y H Q->
  Wd slice false v u=operate [v,u] (VO v u)->wpAny `f X.A (U8 value slice v u) (EP X XR σ Q) X.xe s
def z7 (X:Cx)(id:String)(r:V->List V->Hp->VK->Prop):Prop:=
 ∀(XR:Ru)(s:Va)(σ:St)(H:Hp)(x:V)(xs:`P)(v:`aK)(us:RC)(Q:VK),Inv X XR σ H s->RelV x v->Vals xs us->r x xs H Q->
  wpAny `f X.A (call (.builtin id) (v::us)) (EP X XR σ Q) X.xe s
variable {XR:Ru}{σ:St}{H:Hp}{s:Va}{XT:RC}{A:Vg}{y x:V}{u:`aK}{T:String}{v:`aK}
section
variable {a b:Expr}{ta tb:TE}
theorem iy {r:R2}(hr:GV X r)(ha:PE X a ta)(hb:PE X b tb)(hs:dP b):PE X (.Subscript a b pos) (G7 r ta tb):=by
 intro XR s σ H Q I h;exact Subscript_ (ES ha hb I h λv u s2 x y H2 I2 rx ry q=>hr a b XR s2 σ H2 x y v u Q I2 rx ry q (hs _ _))
def Rp (K:Xh):R2:=λx y H Q=>∃p xs i v,x= .ref p/\y= .int i/\bw K H p xs/\bX xs i∣v/\Q v H
def QF (K:Xh):R2:=λx y H Q=>∃p xs i v,x= .ref p/\y= .int i/\dY K H p xs/\bX xs i∣v/\Q v H
def Q8:R2:=λx y H Q=>∃z i c,x= .str z/\y= .int i/\z.length<=U9/\bX z.cps.toList i∣c/\Q (.str ⟨#[c]⟩) H
theorem gT:GV X (Rp X.K):=by
 intro value slice XR s σ H x y v u Q I rx ry h hs;let⟨p,xs,i,z,rfl,rfl,hq,he,q⟩:=h;cases rx
 let⟨t,rfl⟩:=ry;let⟨XT,r,pl,hz⟩:=I.list hq;let⟨j,h1,h2,h3,h4,h5⟩:=tQ he;let⟨w,ew,rw'⟩:=r.get h2;let hl:=r.length;let hn:=lN;let fin:EP X XR σ Q w s:=⟨z,H,I,rw',q⟩;by_cases h0:0<=i
 ·let hj:i.toNat=j:=by
   rw[seqIndex_of h0 h5] at h1;exact Option.some.inj h1
  exact item_listR pl.isList h0 `a (by rw[hj];simpa using ew) fin hs
 ·let hj:(i+(XT.toArray.size:Int)).toNat=j:=by
   rw[seqIndex_neg `a h4] at h1;rw[Ss,← hl];exact Option.some.inj h1
  exact subscriptTail_builtinR (x:=w) pl.isList.typeIs slot_list_getitem.lookup
   (wpAny_getItem_list_neg (Q:=λr s'=>r=w/\EP X XR σ Q r s') pl.isList `a (by rw[Ss]<;>cbv) `a (by rw[hj];simpa using ew) ⟨rfl,fin⟩) hs
theorem D9:GV X (QF X.K):=by
 intro value slice XR s σ H x y v u Q I rx ry h hs;let⟨p,xs,i,z,rfl,rfl,hq,he,q⟩:=h;cases rx
 let⟨t,rfl⟩:=ry;let⟨XT,r,pl,hz⟩:=I.tuple hq;let⟨j,h1,h2,h3,h4,h5⟩:=tQ he;let⟨w,ew,rw'⟩:=r.get h2;let hl:=r.length;let hn:=lN;let fin:EP X XR σ Q w s:=⟨z,H,I,rw',q⟩;exact subscriptTail_builtinR (x:=w) pl.typeIs slot_tuple_getitem.lookup
  (getItem_tuple (j:=j) (Q:=λr s'=>r=w/\EP X XR σ Q r s') pl `a `a (by rw[Ss,← hl];exact h1) (~~~ew) ⟨rfl,fin⟩) hs
theorem Mz:GV X Q8:=by
 intro value slice XR s σ H x y v u Q I rx ry h hs;let⟨z,i,c,rfl,rfl,hz,he,q⟩:=h;let⟨t,rfl⟩:=rx;let⟨t',rfl⟩:=ry;let⟨j,h1,h2,h3,h4,h5⟩:=tQ he;let hl:z.cps.toList.length=z.length:=by simp[Str.length]
 rw[hl] at h1 h4 h5;let hn:=lN;exact tail_any (VW s z t) slot_str_getitem.lookup (getItem_str (c:=c) (by
  let e1:decide (i < -(2 ^ 63:Int))=false:=XM `a;let e2:decide (i≥2 ^ 63)=false:=XM `a;rw[e1,e2,Bool.or_false]) (by rw[h1];simpa using h2) ⟨.str ⟨#[c]⟩,H,I.tok _,⟨_,rfl⟩,q⟩) hs
theorem Bq (XT:RC)(n j:Nat)(u:`aK):W3 (·.setIfInBounds j u) {cls:=.type "list",data:=.seq XT.toArray n}={cls:=.type "list",data:=.seq (XT.set j u).toArray n}:=by
 simp[W3]
theorem Inv.lst {XR:Ru}{σ:St}{H:Hp}{s:Va}{p:Addr}{xs:`P}(I:`j)(h:H p∣.lst xs):
 ∃(XT:RC)(n:Nat),Vals xs XT/\s.heap.get? p=some {cls:=.type "list",data:=.seq XT.toArray n}/\xs.length<=U9:=by
 let⟨z,XT,n,r,e⟩:=I.XX p _ h;exact⟨XT,n,r,e,z⟩
theorem Inv.Ms {p:Addr}{xs ys:`P}{its':RC}{n':Nat}{f:Obj->Obj}(I:`j)(h:H p∣.lst xs)(ho:s.heap.get? p=some {cls:=.type "list",data:=.seq XT.toArray n})(hf:f {cls:=.type "list",data:=.seq XT.toArray n}={cls:=.type "list",data:=.seq its'.toArray n'})(r:Vals ys its')(hz:ys.length<=U9)(t:Nat):
 Inv X XR σ (upd H p (.lst ys)) {s with heap:=s.heap.update p f,toks:=t}:=by
 let e:(s.heap.update p f).get? p=some {cls:=.type "list",data:=.seq its'.toArray n'}:=by
  rw[WX f ho (by rw[hf]<;>rfl),hf]
 refine I.write (x:=p) (e:=p) (by rw[h];trivial) `aT (λb u hb q=>(Heap.get?_update_other _ _ (UT hb)).trans q) ⟨_,e⟩ ?_;exact⟨hz,its',n',r,e⟩
def Oi:V->V->V->Hp->(Hp->Prop)->Prop:=λo i v H Q=>∃p xs k j,o= .ref p/\i= .int k/\H p∣.lst xs/\fL xs.length k∣j/\Q (upd H p (.lst (xs.set j v)))
theorem set_list:JO X Oi:=by
 intro XR s σ H o i v ov iv u Q I ro ri rv h;let⟨p,xs,k,j,rfl,rfl,hp,hj,q⟩:=h;cases ro
 let⟨t,rfl⟩:=ri;let⟨XT,n,r,ho,hz⟩:=I.lst hp;let⟨h1,h2,h3,h4⟩:=uD hj;let hl:=r.length;let hn:=lN;let I':Inv X XR σ (upd H p (.lst (xs.set j v))) {s with heap:=s.heap.update p (W3 (·.setIfInBounds j u))}:=
  I.Ms hp ho (Bq XT n j u) (r.set rv j) (by rw[SR];exact hz) s.toks
 by_cases h0:0<=k
 ·let hk:k.toNat=j:=by
   rw[seqIndex_of h0 h4] at h1;exact Option.some.inj h1
  exact PySem.W.ki_setAt ho h0 `a (by rw[Ss,← hl];exact h4) (by rw[hk];exact⟨_,I',q⟩)
 ·let hk:(k+(XT.toArray.size:Int)).toNat=j:=by
   rw[seqIndex_neg `a h3] at h1;rw[Ss,← hl];exact Option.some.inj h1
  exact PySem.W.ki_setBack ho `a (by rw[Ss,← hl];exact h3) `a (by rw[hk];exact⟨_,I',q⟩)
theorem yf (lo hi:Option Int)(n:Nat):(VJ lo hi none n).1=((HT.X7 n 0 lo:Nat):Int)/\(VJ lo hi none n).2.1=((HT.X7 n n hi:Nat):Int)/\(VJ lo hi none n).2.2=1:=by
 refine⟨?_,?_,rfl⟩
 ·cases lo with
  | none=>simp[VJ,HT.X7]
  | some i=>
    simp only[VJ,HT.X7,Option.getD_none,show(1:Int)>0 by decide,if_true];by_cases h:i<0
    ·simp only[h,if_true]<;>cbv
    ·simp only[h,if_false]<;>cbv
 ·cases hi with
  | none=>simp[VJ,HT.X7]
  | some i=>
    simp only[VJ,HT.X7,Option.getD_none,show(1:Int)>0 by decide,if_true];by_cases h:i<0
    ·simp only[h,if_true]<;>cbv
    ·simp only[h,if_false]<;>cbv
theorem vh (XT:RC)(lo hi:Option Int):slicePick XT.toArray lo hi none=((XT.drop (HT.X7 XT.length 0 lo)).take (HT.X7 XT.length XT.length hi-HT.X7 XT.length 0 lo)).toArray:=by
 let⟨h1,h2,h3⟩:=yf lo hi XT.toArray.size;unfold slicePick;rw[h1,h2,h3];simp only[sliceRange_one,pick_run,Ss]<;>rfl
def Rc (K:Xh):V->Option Int->Option Int->Hp->VK->Prop:=λx lo hi H Q=>∃a xs,x= .ref a/\bw K H a xs/\∀p,H p=none->Q (.ref p) (upd H p (.lst (mz xs lo hi)))
theorem Jv:B3 X (Rc X.K):=by
 intro XR s σ H x v vl vu lo hi sl Q I rx hs pl pu h;let⟨a,xs,rfl,hx,q⟩:=h;cases rx
 let⟨XT,r,ht,hz⟩:=I.list hx;let hlen:=r.length;refine⟨"list",_,slot_list_getitem.lookup,ht.isList.typeIs,?_⟩;refine wpAny_getItem_list_slice ht.isList hs pl pu .none `d ?_ (by rw[Ss]<;>cbv)
 rw[vh,← hlen];refine⟨.ref ⇑s,_,I.laid (t':=s.toks) (o:=.lst (mz xs lo hi)) (λb ob q=>WR _ q) (Uw _) ?_,rfl,q _ (I.XX.fresh (Uw _))⟩;exact⟨Ux (qv xs lo hi) hz,_,0,(r.drop (HT.X7 xs.length 0 lo)).take (HT.X7 xs.length xs.length hi-HT.X7 xs.length 0 lo),WU _ rfl⟩
noncomputable def kF:V->Bool
 | .X4=>true
 | .bl _=>true
 | .int _=>true
 | .str _=>true
 | _=>false
noncomputable def sv:V->V->Bool
 | .X4,.X4=>true
 | .bl a,.bl b=>a==b
 | .bl a,.int b=>(if a then 1 else 0)==b
 | .int a,.bl b=>a==(if b then 1 else 0)
 | .int a,.int b=>a==b
 | .str a,.str b=>a==b
 | _,_=>false
theorem Lp (ry:RelV y u)(rx:RelV x v)(fy:kF y=true)(fx:kF x=true):W6 A s u v (sv y x):=by
 cases y with
 | X4=>
   cases ry
   cases x with
   | X4=>cases rx;exact W6.same _
   | bl b=>cases rx;exact W6.none_bool b
   | int b=>let⟨t,rfl⟩:=rx;exact W6.none_int b t
   | str b=>let⟨t,rfl⟩:=rx;exact W6.none_str b t
   | _=>exact XE (show false=true from fx) RH
 | bl a=>
   cases ry
   cases x with
   | X4=>cases rx;exact W6.bool_none a
   | bl b=>cases rx;exact W6.bool_bool a b
   | int b=>let⟨t,rfl⟩:=rx;exact W6.bool_int a b t
   | str b=>let⟨t,rfl⟩:=rx;exact W6.bool_str a b t
   | _=>exact XE (show false=true from fx) RH
 | int a=>
   let⟨t',rfl⟩:=ry;cases x with
   | X4=>cases rx;exact W6.int_none a t'
   | bl b=>cases rx;exact W6.int_bool a t' b
   | int b=>let⟨t,rfl⟩:=rx;exact W6.int_int a t' b t
   | str b=>let⟨t,rfl⟩:=rx;exact W6.int_str a t' b t
   | _=>exact XE (show false=true from fx) RH
 | str a=>
   let⟨t',rfl⟩:=ry;cases x with
   | X4=>cases rx;exact W6.str_none a t'
   | bl b=>cases rx;exact W6.str_bool a t' b
   | int b=>let⟨t,rfl⟩:=rx;exact W6.str_int a t' b t
   | str b=>let⟨t,rfl⟩:=rx;exact W6.str_str a t' b t
   | _=>exact XE (show false=true from fx) RH
 | _=>exact XE (show false=true from fy) RH
noncomputable def lG (x:V)(u:`aK):Bool:=match u with
 | .none=>sv .X4 x
 | .bool b=>sv (.bl b) x
 | .int i _=>sv (.int i) x
 | .str z _=>sv (.str z) x
 | _=>false
theorem Dn (r:RelV y u)(f:kF y=true):lG x u=sv y x:=by
 cases y with
 | X4=>cases r;rfl
 | bl b=>cases r;rfl
 | int i=>let⟨t,rfl⟩:=r;rfl
 | str z=>let⟨t,rfl⟩:=r;rfl
 | _=>exact XE (show false=true from f) RH
theorem nj {x:V}:∀{xs:`P}{us:RC},Vals xs us->xs.all kF=true->us.any (lG x)=xs.any λy=>sv y x
 | _,_,.nil,_=>rfl
 | y::xs,u::us,.cons r t,f=>by
   rw[all_cons,RJ] at f;rw[Uj,Uj,Dn r f.1,nj t f.2]
theorem kT {A:Vg}{s:Va}{x:V}{v:`aK}(rx:RelV x v)(fx:kF x=true):∀{xs:`P}{us:RC},Vals xs us->xs.all kF=true->∀u∈us,W6 A s u v (lG x u)
 | _,_,.nil,_=>λu hu=>by cases hu
 | y::xs,u::us,.cons r t,f=>λu' hu=>by
   rw[all_cons,RJ] at f;obtain rfl | hu:=Sj.mp hu
   ·rw[Dn r f.1];exact Lp r rx f.1 fx
   ·exact kT rx fx t f.2 u' hu
def Gp (x:V)(xs:`P):Bool:=xs.any λy=>sv y x
noncomputable def Qd (K:Xh)(neg:Bool):R2:=λx y H Q=>∃p xs,y= .ref p/\(bw K H p xs∨dY K H p xs)/\kF x=true/\xs.all kF=true/\Q (.bl (if neg then !Gp x xs else Gp x xs)) H
theorem uQ:fm X (Vk .In) (Qd X.K false):=by
 intro XR s σ H x y v u Q I rx ry h;let⟨p,xs,rfl,hq,fx,fs,q⟩:=h;cases ry
 obtain hq | hq:=hq
 ·let⟨XT,r,pl,hz⟩:=I.list hq;refine SeqAt.in_listAt (lG x) pl.isList (λw hw=>kT rx fx r fs w (~~~hw)) ⟨.bl _,H,I,rfl,?_⟩;rw[show XT.toArray.any (lG x)=XT.any (lG x) by simp,nj r fs];exact q
 ·let⟨XT,r,pl,hz⟩:=I.tuple hq;refine SeqAt.in_tupleAt (lG x) pl (λw hw=>kT rx fx r fs w (~~~hw)) ⟨.bl _,H,I,rfl,?_⟩;rw[show XT.toArray.any (lG x)=XT.any (lG x) by simp,nj r fs];exact q
theorem xn:fm X (Vk .NotIn) (Qd X.K true):=by
 intro XR s σ H x y v u Q I rx ry h;let⟨p,xs,rfl,hq,fx,fs,q⟩:=h;cases ry
 obtain hq | hq:=hq
 ·let⟨XT,r,pl,hz⟩:=I.list hq;refine SeqAt.notIn_listAt (lG x) pl.isList (λw hw=>kT rx fx r fs w (~~~hw)) ⟨.bl _,H,I,rfl,?_⟩;rw[show XT.toArray.any (lG x)=XT.any (lG x) by simp,nj r fs];exact q
 ·let⟨XT,r,pl,hz⟩:=I.tuple hq;refine SeqAt.notIn_tupleAt (lG x) pl (λw hw=>kT rx fx r fs w (~~~hw)) ⟨.bl _,H,I,rfl,?_⟩;rw[show XT.toArray.any (lG x)=XT.any (lG x) by simp,nj r fs];exact q
theorem gM:fO X (.builtin "len") (λxs H Q=>∃p ys,xs=[.ref p]/\(bw X.K H p ys∨dY X.K H p ys)/\Q (.int ys.length) H):=by
 intro XR s σ H xs us Q I r h;let⟨p,ys,rfl,hq,q⟩:=h;let⟨u,rfl,rx⟩:=vals1 r;cases rx
 let hn:=lN;obtain hq | hq:=hq
 ·let⟨XT,r',pl,hz⟩:=I.list hq;let hlen:=r'.length;exact Calls.call_len_list pl.isList (by simp only[Ss]<;>cbv) ⟨.int ys.length,H,I.tok _,⟨s.toks+1,by rw[Ss,hlen]⟩,q⟩
 ·let⟨XT,r',pl,hz⟩:=I.tuple hq;let hlen:=r'.length;exact len_tuple pl (by simp only[Ss]<;>cbv) ⟨.int ys.length,H,I.tok _,⟨s.toks+1,by rw[Ss,hlen]⟩,q⟩
theorem xY:fO X (.builtin "len") (λxs H Q=>∃z,xs=[.str z]/\z.length<=U9/\Q (.int z.length) H):=by
 intro XR s σ H xs us Q I r h;let⟨z,rfl,hz,q⟩:=h;let⟨u,rfl,t,rfl⟩:=vals1 r;let hn:=lN;exact len_str `a ⟨.int z.length,H,I.tok _,⟨_,rfl⟩,q⟩
theorem wB:fO X (.type "list") (λxs H Q=>∃p ys,xs=[.ref p]/\(bw X.K H p ys∨dY X.K H p ys)/\∀l,H l=none->Q (.ref l) (upd H l (.lst ys))):=by
 intro XR s σ H xs us Q I r h;let⟨p,ys,rfl,hq,q⟩:=h;let⟨u,rfl,rx⟩:=vals1 r;cases rx
 let fin:∀(XT:RC),Vals ys XT->ys.length<=U9->∀(h':Heap)(c':Nat),(∀b o',s.heap.get? b∣o'->h'.get? b∣o')->
  h'.get? ⇑s=some {cls:=.type "list",dict:=none,data:=.seq XT.toArray c',slots:= #[]}->EP X XR σ Q (.ref ⇑s) {s with heap:=h'}:=λXT r' hz h' c' kp e=>
  ⟨.ref ⇑s,_,I.laid (t':=s.toks) kp (Uw _) (show da X.prog X.w _ h' _ (.lst ys) from⟨hz,XT,c',r',e⟩),rfl,q _ (I.XX.fresh (Uw _))⟩
 obtain hq | hq:=hq
 ·let⟨XT,r',pl,hz⟩:=I.list hq;let hlen:=r'.length;let⟨o,ho,hc,n,hd⟩:=pl.isList;exact call_list_seq p `aT ho hc hd (λh' c' kp e=>fin XT r' hz h' c' kp e) (by simp only[Ss]<;>cbv)
 ·let⟨XT,r',pl,hz⟩:=I.tuple hq;let hlen:=r'.length;let⟨o,ho,hc,n,hd⟩:=pl;exact call_list_seq p (.inr rfl) ho hc hd (λh' c' kp e=>fin XT r' hz h' c' kp e) (by simp only[Ss]<;>cbv)
noncomputable def JJ (K:Xh)(T:String)(x:V)(H:Hp):Prop:=match x with
 | .str _=>T="str"
 | .int _=>T="int"
 | .ref p=>(T="list"/\∃xs,bw K H p xs)∨(T="tuple"/\∃o,K.lookup p∣o/\o.cls= .type "tuple"/\o.dict=none)∨
  (T="dict"/\((∃kvs,H p∣.dK kvs)∨∃kvs,H p∣.dT kvs))∨(T="set"/\∃S n,H p∣.set S n)
 | _=>False
theorem C9 (I:`j)(r:RelV x v)(ty:JJ X.K T x H):
 s.TypeIs v T/\∀a,v= .ref a->∃ob,s.heap.get? a∣ob/\ob.dict=none:=by
 cases x with
 | str z=>
   let⟨t,rfl⟩:=r;cases (show T="str" from ty)
   exact⟨VW s z t,λ_ e=>nomatch e⟩
 | int i=>
   let⟨t,rfl⟩:=r;cases (show T="int" from ty)
   exact⟨typeIs_int s i t,λ_ e=>nomatch e⟩
 | ref p=>
   cases r
   obtain⟨rfl,xs,hq⟩ | ⟨rfl,o,hk,hc,hd⟩ | ⟨rfl,hk⟩ | ⟨rfl,S,n,hk⟩:=ty
   ·let⟨XT,_,pl,_⟩:=I.list hq;refine⟨pl.isList.typeIs,λa e=>?_⟩;cases e
    let⟨o,n,e,c,hd,_⟩:=pl;exact⟨o,e,hd⟩
   ·refine⟨⟨o,I.gu p o hk,hc⟩,λa e=>?_⟩;cases e
    exact⟨o,I.gu _ o hk,hd⟩
   ·let z:∃o,s.heap.get? p∣o/\o.ExactDict:=by
     obtain⟨kvs,hk⟩ | ⟨kvs,hk⟩:=hk
     ·let⟨_,_,_,_,o,_,_,e,ex,_⟩:=I.XX p _ hk;exact⟨o,e,ex⟩
     ·let⟨_,_,_,_,o,_,_,e,ex,_⟩:=I.XX p _ hk;exact⟨o,e,ex⟩
    let⟨o,e,ex⟩:=z;refine⟨⟨o,e,ex.1⟩,λa e2=>?_⟩;cases e2
    exact⟨o,e,ex.2.1⟩
   ·let⟨o,_,_,_,e,ex,_⟩:=I.XX p _ hk;refine⟨⟨o,e,ex.1⟩,λa e2=>?_⟩;cases e2
    exact⟨o,e,ex.2.1⟩
 | _=>exact RQ ty
def Rh (K:Xh)(T:String)(r:V->List V->Hp->VK->Prop)(to:TE):TE:=λσ H Q=>to σ H λx H1=>JJ K T x H1/\r x [] H1 Q
def tBM (K:Xh)(T:String)(r:V->List V->Hp->VK->Prop)(to:TE)(t:TA):TE:=λσ H Q=>to σ H λx H1=>JJ K T x H1/\t σ H1 λxs H2=>r x xs H2 Q
variable {o:Expr}{es:RE}{to:TE}{t:TA}{name:Str}{apos YK:Pos}{id:String}{r:V->List V->Hp->VK->Prop}
theorem BH (pa:PlainAttrs T)(slot:Slot T name id)(hty:typeOf (.builtin id)=pure (.type "method_descriptor"))(hm:z7 X id r)(ho:PE X o to)(X0:fh X o name:=by rfl)(XZ:(apos.endLine==YK.line)=true:=by rfl):PE X (.Call (.Attribute o name apos) [] [] YK) (Rh X.K T r to):=by
 intro XR s σ H Q I h;refine wpAny_Call_method0_late X0 XZ (a8 (ho XR s σ H _ I h) λv s1 ⟨x,H1,I1,r1,ty,q1⟩=>?_);let⟨h1,h2⟩:=C9 I1 r1 ty;exact⟨T,id,pa,slot,hty,h1,h2,WA rfl (PySem.evalArgs_none (hm XR s1 σ H1 x [] v [] Q I1 r1 .nil q1))⟩
theorem gR (pa:PlainAttrs T)(slot:Slot T name id)(hty:typeOf (.builtin id)=pure (.type "method_descriptor"))(hm:z7 X id r)(ho:PE X o to)(ha:PA X (e::es) t)(X0:fh X o name:=by rfl)(Yf:l7 X YK (e::es):=by rfl)(XZ:(apos.endLine==YK.line)=true:=by rfl)(hs:dq X e es:=by rfl)(hplain:fc X YK es:=by rfl):
 PE X (.Call (.Attribute o name apos) (e::es) [] YK) (tBM X.K T r to t):=by
 intro XR s σ H Q I h;refine wpAny_Call_method_late X0 Yf XZ rfl (a8 (ho XR s σ H _ I h) λv s1 ⟨x,H1,I1,r1,ty,q1⟩=>?_);let⟨h1,h2⟩:=C9 I1 r1 ty;refine⟨T,id,pa,slot,hty,h1,h2,?_⟩;let hA:=ha YK XR s1 σ H1 _ I1 q1;rw[hs] at hA ⊢;refine WA (by show(false ||(V1 YK (Vf es X.env)).any (·.1))=false;rw[hplain]<;>rfl) (Calls.evalArgs_plain ?_)
 exact a8 hA λus s2 ⟨vs,H2,I2,r2,q2⟩=>hm XR s2 σ H2 x vs v us Q I2 r1 r2 q2
end
def G9 (X:Cx)(id:String)(r:V->List V->Hp->VK->Prop):Prop:=
 ∀(XR:Ru)(s:Va)(σ:St)(H:Hp)(x:V)(xs:`P)(v:`aK)(us:RC)(Q:VK),Inv X XR σ H s->RelV x v->Vals xs us->r x xs H Q->
  wpAny `f X.A (call (.builtin id) (v::us)) (EP X XR σ Q) X.xe s
theorem Vals.one:∀{x:V}{us:RC},Vals [x] us->∃u,us=[u]/\RelV x u
 | _,_,.cons r .nil=>⟨_,rfl,r⟩
theorem Vals.zero:∀{us:RC},Vals [] us->us=[]
 | _,.nil=>rfl
theorem Vals.dropLast {xs:`P}{us:RC}(h:Vals xs us):Vals xs.dropLast us.dropLast:=by
 induction h with
 | nil=>exact .nil
 | cons r t ih=>
   cases t with
   | nil=>exact .nil
   | cons q t'=>exact .cons r ih
theorem Be (l:`u):l.eraseIdx (l.length-1)=l.dropLast:=by
 induction l with
 | nil=>rfl
 | cons a r ih=>
   cases r with
   | nil=>rfl
   | cons b r=>
     let e:(a::b::r).length-1=((b::r).length-1)+1:=by
      let h1:(a::b::r).length=r.length+2:=rfl;let h2:(b::r).length=r.length+1:=rfl;cbv
     rw[e,List.eraseIdx_cons_succ,ih]
     all_goals rfl
variable {t':Nat}
section
variable {l b:Addr}{xs ys zs:`P}
theorem Inv.Bt {its':RC}{f:Array Value->Array Value}(I:`j)(hH:H l∣.lst xs)(e:s.heap.get? l=some {cls:=.type "list",data:=.seq XT.toArray n})(hf:f XT.toArray=its'.toArray)(hv:Vals ys its')(hz:ys.length<=U9):
 Inv X XR σ (upd H l (.lst ys)) {s with heap:=s.heap.update l (W3 f),toks:=t'}:=by
 let q:=PySem.IsL.update e f;rw[hf] at q;refine I.write (x:=l) (e:=l) (by rw[hH];exact trivial) `aT (λb' u hb hu=>(Heap.get?_update_other s.heap (W3 f) (UT hb)).trans hu) ⟨_,q⟩ ?_;exact⟨hz,its',_,hv,q⟩
theorem Inv.Q9 (I:`j)(hv:Vals ys XT)(hz:ys.length<=U9):
 Inv X XR σ (upd H ⇑s (.lst ys)) {s with heap:=s.heap.push {cls:=.type "list",data:=.seq XT.toArray},toks:=t'}:=
 I.laid (λ_ _ q=>WR _ q) (Uw _) ⟨hz,XT,0,hv,WU _ rfl⟩
theorem Inv.fresh (I:`j):H ⇑s=none:=I.XX.fresh (Uw _)
theorem Inv.nS (I:`j)(hH:H l∣.lst xs):xs.length<=U9/\∃(XT:RC)(n:Nat),Vals xs XT/\xs.length=XT.length/\s.heap.get? l=some {cls:=.type "list",data:=.seq XT.toArray n}:=by
 let⟨z,XT,n,r,e⟩:=I.XX l _ hH;exact⟨z,XT,n,r,r.length,e⟩
theorem FG (h:n<=U9):Ws n=false:=by
 unfold Ws;exact XM `a
end
def Ju:V->List V->Hp->VK->Prop:=λx vs H Q=>∃l xs y,x= .ref l/\vs=[y]/\H l∣.lst xs/\xs.length<U9/\Q .X4 (upd H l (.lst (xs++[y])))
theorem gL:G9 X "list.append" Ju:=by
 intro XR s σ H x vs v us Q I rx rv h;let⟨l,xs,y,rfl,rfl,hH,hz,q⟩:=h;cases rx
 let⟨u,rfl,ru⟩:=rv.one;let⟨z,XT,n,r,hl,e⟩:=I.nS hH;refine VI F.slot_list_append ⟨_,e,rfl⟩ F.entry_list_append (F.args_list_append_2 _ _) (PySem.list_append l XT.toArray n u (by rw[Ss];cbv)) ⟨e,?_⟩;refine⟨.X4,_,I.Bt (its':=XT++[u]) hH e `d (r.append (.cons ru .nil)) ?_,rfl,q⟩;rw[Sd,SN];cbv
def IE:V->List V->Hp->VK->Prop:=λx vs H Q=>∃l b xs zs,x= .ref l/\vs=[.ref b]/\H l∣.lst xs/\H b∣.lst zs/\xs.length+zs.length<=U9/\Q .X4 (upd H l (.lst (xs++zs)))
theorem BL:G9 X "list.extend" IE:=by
 intro XR s σ H x vs v us Q I rx rv h;let⟨l,b,xs,zs,rfl,rfl,hH,hB,hz,q⟩:=h;cases rx
 let⟨u,rfl,ru⟩:=rv.one;cases ru
 let⟨z,XT,n,r,hl,e⟩:=I.nS hH;let⟨z2,Zw,n2,r2,hl2,e2⟩:=I.nS hB;let hsz:XT.toArray.size+Zw.toArray.size<=U9:=by rw[Ss,Ss];cbv
 let hlong:¬(!XT.toArray.isEmpty&&Ws (XT.toArray.size+Zw.toArray.size))=true:=by
  rw[FG hsz,Bool.and_false];exact RH
 refine VI F.slot_list_extend ⟨_,e,rfl⟩ F.entry_list_extend (F.args_list_extend_2 _ _)
  (AutoSeq1.list_extend_list_list_0 l XT.toArray n b Zw.toArray n2 hlong (by rw[Ss];cbv) `a) ⟨e,e2,?_⟩
 refine⟨.X4,_,I.Bt (its':=XT++Zw) hH e `d (r.append r2) ?_,rfl,q⟩;rw[Sd];cbv
def QE:V->List V->Hp->VK->Prop:=λx vs H Q=>∃l xs y,x= .ref l/\vs=[]/\H l∣.lst xs/\xs[xs.length-1]?∣y/\Q y (upd H l (.lst xs.dropLast))
theorem C5:G9 X "list.pop" QE:=by
 intro XR s σ H x vs v us Q I rx rv h;let⟨l,xs,y,rfl,rfl,hH,hy,q⟩:=h;cases rx
 let hus:=rv.zero;subst hus;let⟨z,XT,n,r,hl,e⟩:=I.nS hH;let⟨u,hu,ru⟩:=r.get hy;let hy':XT.toArray[XT.toArray.size-1]?∣u:=by
  show XT.toArray[XT.length-1]?∣u;rw[← Array.getElem?_toList,← hl];exact hu
 refine VI F.slot_list_pop ⟨_,e,rfl⟩ F.entry_list_pop (F.args_list_pop_1 _) (MeetsSeq.list_pop_last l XT.toArray n u hy' (by rw[Ss];cbv)) ⟨e,?_⟩;refine⟨y,_,I.Bt (its':=XT.dropLast) hH e ?_ r.dropLast ?_,ru,q⟩
 ·show XT.toArray.eraseIdxIfInBounds (XT.toArray.size-1)=XT.dropLast.toArray;rw[Ss,List.eraseIdxIfInBounds_toArray,Be]
 ·rw[TQ];cbv
def Q6:R2:=λx y H Q=>∃l b xs zs,x= .ref l/\y= .ref b/\H l∣.lst xs/\H b∣.lst zs/\xs.length+zs.length<=U9/\∀p,H p=none->Q (.ref p) (upd H p (.lst (xs++zs)))
theorem MI:fm X (VE .Add) Q6:=by
 intro XR s σ H x y v u Q I rx ry h;let⟨l,b,xs,zs,rfl,rfl,hH,hB,hz,q⟩:=h;cases rx
 cases ry
 let⟨z,XT,n,r,hl,e⟩:=I.nS hH;let⟨z2,Zw,n2,r2,hl2,e2⟩:=I.nS hB;refine PySem.P.add_list e e2 ?_ (by rw[Ss,Ss];cbv);let ea:XT.toArray++Zw.toArray=(XT++Zw).toArray:=`d
 rw[ea];exact⟨.ref _,_,I.Q9 (t':=s.toks) (r.append r2) (by rw[Sd];cbv),rfl,q _ I.fresh⟩
variable {prog:Ve}{w:World}{E:`s}
variable {o:Option V}
section
variable {κ:Type} [DecidableEq κ]
variable {kvs:List (κ×V)}{vs:List (κ×Value)}
noncomputable def dw (kvs:List (κ×V))(k:κ):Option V:=(kvs.find? λkv=>decide (kv.1=k)).map (·.2)
noncomputable def putK (kvs:List (κ×V))(k:κ)(v:V):List (κ×V):=
 if(kvs.any λkv=>decide (kv.1=k))=true then kvs.map (λkv=>if kv.1=k then(kv.1,v) else kv) else kvs++[(k,v)]
theorem ee {p:κ×V}{r:List (κ×V)}{k:κ}(e:p.1=k):dw (p::r) k∣p.2:=by simp[dw,Tz,e]
theorem dN {p:κ×V}{r:List (κ×V)}{k:κ}(e:¬p.1=k):dw (p::r) k=dw r k:=by simp[dw,Tz,e]
theorem iI (k:κ):∀kvs:List (κ×V),(kvs.any λkv=>decide (kv.1=k))=(dw kvs k).isSome
 | []=>rfl
 | p::r=>by
   rw[Uj];by_cases e:p.1=k
   ·simp only[ee e,XJ e,Bool.true_or,Option.isSome_some]
   ·rw[dN e,XM e,Bool.false_or];exact iI k r
theorem yc (k j:κ)(y:V):∀kvs:List (κ×V),dw (kvs.map λkv=>if kv.1=k then(kv.1,y) else kv) j=(dw kvs j).map λx=>if j=k then y else x
 | []=>rfl
 | p::r=>by
   let ih:=yc k j y r;rw[SK];by_cases h:p.1=k
   ·rw[XG h];by_cases e:p.1=j
    ·rw[ee (p:=(p.1,y)) e,ee e,UX,XG (e.symm.trans h)]
    ·rw[dN (p:=(p.1,y)) e,dN e,ih]
   ·rw[XF h];by_cases e:p.1=j
    ·rw[ee (p:=p) e,ee e,UX,XF (λz=>h (e.trans z))]
    ·rw[dN (p:=p) e,dN e,ih]
theorem u6 (k j:κ)(y:V):∀kvs:List (κ×V),dw kvs k=none->dw (kvs++[(k,y)]) j=if j=k then some y else dw kvs j
 | [],_=>by
   by_cases e:k=j
   ·rw[XG e.symm];exact ee (p:=(k,y)) e
   ·rw[XF (λz=>e z.symm)];exact dN (p:=(k,y)) e
 | p::r,hn=>by
   rw[Tq];let hk:¬p.1=k:=λz=>by rw[ee z] at hn;cases hn
   rw[dN hk] at hn;let ih:=u6 k j y r hn;by_cases e:p.1=j
   ·rw[ee e,ee e,XF (λz=>hk (e.trans z))]
   ·rw[dN e,dN e,ih]
theorem F7 (kvs:List (κ×V))(k j:κ)(y:V):dw (putK kvs k y) j=if j=k then some y else dw kvs j:=by
 unfold putK;by_cases a:(kvs.any λkv=>decide (kv.1=k))=true
 ·rw[XG a,yc];rw[iI] at a;by_cases e:j=k
  ·let⟨x,hx⟩:=Option.isSome_iff_exists.mp a;rw[XG e,e,hx,UX,XG rfl]
  ·rw[XF e];cases dw kvs j with
   | none=>rfl
   | some x=>rw[UX,XF e]
 ·rw[XF a];refine u6 k j y kvs ?_;rw[iI] at a;cases q:dw kvs k with
  | none=>rfl
  | some x=>rw[q] at a;exact(a rfl).elim
theorem my (kvs:List (κ×V))(k:κ)(v:V):(putK kvs k v).length<=kvs.length+1:=by
 unfold putK;split
 ·rw[R9];cbv
 ·rw[Sd,Si,SH];cbv
theorem qD {k:κ}(v:V)(h:dw kvs k=none):putK kvs k v=kvs++[(k,v)]:=by
 unfold putK;rw[iI,h];exact XF `c
theorem jH.jY {u:Ry}(r:jH o u):o.isSome=u.isSome:=by
 cases o with
 | none=>cases u with
   | none=>rfl
   | some _=>exact(show False from r).elim
 | some _=>cases u with
   | none=>exact(show False from r).elim
   | some _=>rfl
theorem KV.val (r:KV kvs vs)(k:κ):jH (dw kvs k) (Vw vs k):=by
 unfold KV at r
 induction r with
 | nil=>exact XD
 | @cons p q ps qs h t ih=>
   let⟨h1,h2⟩:=h;by_cases e:p.1=k
   ·let e':q.1=k:=h1.symm.trans e;let b:Vw (q::qs) k∣q.2:=by simp[Vw,Tz,e']
    rw[ee e,b];exact h2
   ·let e':¬q.1=k:=λz=>e (h1.trans z);let b:Vw (q::qs) k=Vw qs k:=by simp[Vw,Tz,e']
    rw[dN e,b];exact ih
theorem KV.any (r:KV kvs vs)(k:κ):(kvs.any λkv=>decide (kv.1=k))=vs.any λkv=>decide (kv.1=k):=by
 unfold KV at r
 induction r with
 | nil=>rfl
 | cons h t ih=>rw[Uj,Uj,ih,h.1]
theorem KV.ZU (r:KV kvs vs)(k:κ)(ry:RelV y u):
 KV (kvs.map λkv=>if kv.1=k then(kv.1,y) else kv) (vs.map λkv=>if kv.1=k then(kv.1,u) else kv):=by
 unfold KV at r ⊢
 induction r with
 | nil=>exact .nil
 | @cons p q ps qs h t ih=>
   rw[SK,SK];refine .cons ?_ ih;let⟨h1,h2⟩:=h;by_cases e:p.1=k
   ·rw[XG e,XG (h1.symm.trans e)];exact⟨h1,ry⟩
   ·rw[XF e,XF (λz=>e (h1.trans z))];exact⟨h1,h2⟩
theorem KV.put (r:KV kvs vs)(k:κ)(ry:RelV y u):KV (putK kvs k y) (Wh vs k u):=by
 unfold putK Wh;rw[r.any k];by_cases e:(vs.any λkv=>decide (kv.1=k))=true
 ·rw[XG e,XG e];exact r.ZU k ry
 ·rw[XF e,XF e];exact Paired.snoc r ⟨rfl,ry⟩
theorem KV.length (r:KV kvs vs):kvs.length=vs.length:=Paired.length r
end
variable {P:Ve}{H':Hp}
section
variable {kvs:List (List Key×V)}{xs:List (List Key×Addr×Value)}
theorem kC {k:Key}(r:RelV (kV k) u):(cE P w).is k u=true:=by
 cases k with
 | inl i=>let⟨t,e⟩:=(show∃t,u=Xc i t from r);subst e;exact yJ P w i t
 | inr x=>let⟨t,e⟩:=(show∃t,u=Xd x t from r);subst e;exact eC P w x t
theorem uN {P:Ve}{w:World}:∀{ks:List Key}{us:RC},Vals (ks.map kV) us->ItemsAre (cE P w) ks us
 | [],_,r=>by rw[T4] at r;cases r;exact .nil
 | k::ks,_,r=>by
   rw[SK] at r;cases r with
   | cons h t=>exact .cons (kC h) (uN t)
abbrev KT (H:Hp):List (List Key×V)->List (List Key×Addr×Value)->Prop:=Paired λp q=>p.1=q.1/\H q.2.1∣(.tup (p.1.map kV))/\RelV p.2 q.2.2
theorem KT.val (r:KT H kvs xs)(k:List Key):jH (dw kvs k) ((atKey xs k).map (·.2)):=by
 induction r with
 | nil=>exact XD
 | @cons p q ps qs h t ih=>
   let⟨h1,_,h2⟩:=h;by_cases e:p.1=k
   ·let e':q.1=k:=h1.symm.trans e;let b:atKey (q::qs) k∣q.2:=by simp[atKey,Tz,e']
    rw[ee e,b];exact h2
   ·let e':¬q.1=k:=λz=>e (h1.trans z);let b:atKey (q::qs) k=atKey qs k:=by simp[atKey,Tz,e']
    rw[dN e,b];exact ih
theorem KT.ZU (r:KT H kvs xs)(k:List Key)(ry:RelV y u):
 KT H (kvs.map λkv=>if kv.1=k then(kv.1,y) else kv) (xs.map (putAt k u)):=by
 induction r with
 | nil=>exact .nil
 | @cons p q ps qs h t ih=>
   rw[SK,SK];refine .cons ?_ ih;let⟨h1,h2,h3⟩:=h;unfold putAt;by_cases e:p.1=k
   ·rw[XG e,XG (h1.symm.trans e)];exact⟨h1,h2,ry⟩
   ·rw[XF e,XF (λz=>e (h1.trans z))];exact⟨h1,h2,h3⟩
theorem KT.put (r:KT H kvs xs)(k:List Key){b:Addr}(hb:H b∣(.tup (k.map kV)))(ry:RelV y u):
 KT H (putK kvs k y) (storedH xs k b u):=by
 let e:(kvs.any λkv=>decide (kv.1=k))=(atKey xs k).isSome:=by
  rw[iI,(r.val k).jY,UY]
 unfold putK storedH;rw[e];by_cases q:(atKey xs k).isSome=true
 ·rw[XG q,XG q];exact r.ZU k ry
 ·rw[XF q,XF q];exact Paired.snoc r ⟨rfl,hb,ry⟩
theorem KT.keeps (r:KT H kvs xs)(ht:∀b ys,H b∣.tup ys->H' b∣.tup ys):KT H' kvs xs:=
 Paired.Ff r λ_ _ z=>⟨z.1,ht _ _ z.2.1,z.2.2⟩
end
variable {kvs:List (Key×V)}{a:Addr}
section
variable {h:Heap}
theorem Hg {u:HO}(ok:fo P w H h)(e:Rd H a u):da P w H h a u:=e.ok ok
theorem pM (ok:fo P w H h)(e:Rd H a (.dK kvs)):kvs.length<=U9/\(a==Vr)=false/\∃vs,KV kvs vs/\h.DictOf (cE P w) a vs:=
 show da P w H h a (.dK kvs) from Hg ok e
theorem AO (ok:fo P w H h)(e:H a∣.dK kvs):kvs.length<=U9/\(a==Vr)=false/\∃vs,KV kvs vs/\h.DictOf (cE P w) a vs:=pM ok (.inl e)
theorem oH {ks:List Key}(ok:fo P w H h)(e:H a∣(.tup (ks.map kV))):(V9 (cE P w)).is h ks a:=by
 let⟨_,XT,r,o,h1,h2,n,h3⟩:=(show da P w H h a (.tup (ks.map kV)) from ok a _ e);exact⟨o,XT.toArray,n,h1,h2,h3,by simpa using uN r⟩
theorem rR {kvs:List (List Key×V)}(ok:fo P w H h)(e:Rd H a (.dT kvs)):kvs.length<=U9/\(a==Vr)=false/\
 ∃xs,KT H kvs xs/\h.DictOfH (V9 (cE P w)) a xs:=by
 let⟨z,y,xs,r,o,es,ep,h1,h2,h3,h4,h5⟩:=(show da P w H h a (.dT kvs) from Hg ok e);refine⟨z,y,xs,r,o,es,ep,h1,h2,h3,h4,λx hx=>?_,h5⟩;let all:∀{l:List (List Key×V)}{m:List (List Key×Addr×Value)},KT H l m->∀x∈m,(V9 (cE P w)).is h x.1 x.2.1:=by
  intro l m q
  induction q with
  | nil=>intro x hx;exact nomatch hx
  | @cons p q ps qs hq t ih=>
    intro x hx;obtain e | hx:=Sj.mp hx
    ·subst e;exact oH ok (by rw[← hq.1];exact hq.2.1)
    ·exact ih x hx
 exact all r x hx
theorem NI {kvs:List (List Key×V)}(ok:fo P w H h)(e:H a∣.dT kvs):kvs.length<=U9/\(a==Vr)=false/\
 ∃xs,KT H kvs xs/\h.DictOfH (V9 (cE P w)) a xs:=rR ok (.inl e)
end
noncomputable def iE (H:Hp)(a:Addr)(y:V)(r:Option V):Prop:=
 (∃kvs k,Rd H a (.dK kvs)/\y=kV k/\r=dw kvs k)∨∃kvs k b,Rd H a (.dT kvs)/\y= .ref b/\H b∣(.tup (k.map kV))/\r=dw kvs k
noncomputable def qF (H:Hp)(a:Addr)(y v:V)(H':Hp):Prop:=
 (∃kvs k,H a∣.dK kvs/\y=kV k/\kvs.length<U9/\H'=upd H a (.dK (putK kvs k v)))∨
 ∃kvs k b,H a∣.dT kvs/\y= .ref b/\H b∣(.tup (k.map kV))/\kvs.length<U9/\H'=upd H a (.dT (putK kvs k v))
theorem iE.k {H:Hp}{a:Addr}{kvs:List (Key×V)}{k:Key}(e:H a∣.dK kvs):iE H a (kV k) (dw kvs k):=.inl ⟨kvs,k,.inl e,rfl,rfl⟩
theorem qF.k {H:Hp}{a:Addr}{kvs:List (Key×V)}{k:Key}{v:V}(e:H a∣.dK kvs)(hl:kvs.length<U9):qF H a (kV k) v (upd H a (.dK (putK kvs k v))):=.inl ⟨kvs,k,e,rfl,hl,rfl⟩
variable {Q:`s}{h':Heap}
section
variable {v:V}{r:`aK}
theorem Inv.big (I:`j):Vr<⇑s:=by
 let h:Vc<⇑s:=(I.mod.glob.keeps I.bk).lt;exact Nat.lt_trans `c h
theorem Cz (hu:A.units+1<cLine)(I:`j)(g:iE H a y (some v))(ry:RelV y u)(h:∀w' s',Inv X XR σ H s'->RelV v w'->Q w' s'):
 wpAny `f A (VO (.ref a) u) Q E s:=by
 obtain⟨kvs,k,e,ey,l⟩ | ⟨kvs,k,b,e,ey,eb,l⟩:=g
 ·subst ey;let⟨z,hd,vs,rel,dd⟩:=pM I.XX e;let⟨w',hw,rw'⟩:=jH.some_of (v:=v) (o:=Vw vs k) (by rw[l];exact rel.val k);exact wpAny_getItem_of (kC ry) dd.mapOf hw (h w' _ (I.tok _) rw')
 ·subst ey;cases (show u=Xa b from ry)
  let⟨z,hd,xs,rel,dd⟩:=rR I.XX e;let⟨w',hw,rw'⟩:=jH.some_of (v:=v) (o:=(atKey xs k).map (·.2)) (by rw[l];exact rel.val k);let⟨p,hp,hp2⟩:=UU.mp hw;refine wpAny_getItem_heap (VN hu) (oH I.XX eb) dd hp ?_;rw[hp2];exact h w' _ (I.tok _) rw'
theorem QY (hu:A.units+1<cLine)(I:`j)(g:iE H a y o)(ry:RelV y u)(h:∀s',Inv X XR σ H s'->Q (.bool o.isSome) s'):
 wpAny `f A (Vk .In u (.ref a)) Q E s:=by
 obtain⟨kvs,k,e,ey,l⟩ | ⟨kvs,k,b,e,ey,eb,l⟩:=g
 ·subst ey;let⟨z,hd,vs,rel,dd⟩:=pM I.XX e;refine wpAny_in_of (kC ry) hd dd.mapOf ?_;rw[← (rel.val k).jY,← l];exact h _ (I.tok _)
 ·subst ey;cases (show u=Xa b from ry)
  let⟨z,hd,xs,rel,dd⟩:=rR I.XX e;refine wpAny_in_heap (VN hu) (oH I.XX eb) hd dd ?_;let q:=(rel.val k).jY;rw[UY] at q;rw[← q,← l];exact h _ (I.tok _)
theorem Jk (hu:A.units+1<cLine)(I:`j)(g:iE H a y o)(ry:RelV y u)(h:∀s',Inv X XR σ H s'->Q (.bool (!o.isSome)) s'):
 wpAny `f A (Vk .NotIn u (.ref a)) Q E s:=by
 obtain⟨kvs,k,e,ey,l⟩ | ⟨kvs,k,b,e,ey,eb,l⟩:=g
 ·subst ey;let⟨z,hd,vs,rel,dd⟩:=pM I.XX e;refine wpAny_notIn_of (kC ry) hd dd.mapOf ?_;rw[← (rel.val k).jY,← l];exact h _ (I.tok _)
 ·subst ey;cases (show u=Xa b from ry)
  let⟨z,hd,xs,rel,dd⟩:=rR I.XX e;refine wpAny_notIn_heap (VN hu) (oH I.XX eb) hd dd ?_;let q:=(rel.val k).jY;rw[UY] at q;rw[← q,← l];exact h _ (I.tok _)
theorem pV {ob:HO}(I:`j)(mu:Cm (H a))(hs:WW a s.heap h')(he:∃q,h'.get? a∣q)(new:da X.prog X.w (upd H a ob) h' a ob):
 Inv X XR σ (upd H a ob) {s with heap:=h',toks:=t'}:=
 I.write (x:=a) (e:=a) mu `aT (λb q hb z=>(hs.2 b hb).trans z) he new
theorem yb {vs:List (Key×Value)}(z:kvs.length<=U9)(hd:(a==Vr)=false)(rel:KV kvs vs)(dd:h'.DictOf (cE P w) a vs):
 da P w H' h' a (.dK kvs):=⟨z,hd,vs,rel,dd⟩
theorem B7 {Q:Unit->Va->Prop}(hu:A.units+1<cLine)(I:`j)(g:qF H a y v H')(ry:RelV y u)(rv:RelV v r)(h:∀s',Inv X XR σ H' s'->Q () s'):
 wpAny `f A (We (.ref a) u r) Q E s:=by
 obtain⟨kvs,k,e,ey,l,eH⟩ | ⟨kvs,k,b,e,ey,eb,l,eH⟩:=g
 ·subst ey eH;let⟨z,hd,vs,rel,dd⟩:=AO I.XX e;let hz:vs.length<=U9:=by rw[← rel.length];exact z
  let hl:(putK kvs k v).length<=U9:=by have:=my kvs k v;cbv
  refine wpAny_setItem_pairs (hsz:=hz) (kC ry) dd λh' dd' hs=>h _ ?_;let he:∃q,h'.get? a∣q:=let ⟨q,_,_,hq,_⟩:=dd';⟨q,hq⟩;exact pV I (by rw[e];exact XD) hs he (yb hl hd (rel.put k rv) dd')
 ·subst ey eH;cases (show u=Xa b from ry)
  let⟨z,hd,xs,rel,dd⟩:=NI I.XX e;let hz:xs.length<=U9:=by rw[← Paired.length rel];exact z
  let hl:(putK kvs k v).length<=U9:=by have:=my kvs k v;cbv
  refine wpAny_setItem_heap (hsz:=hz) (VN hu) (oH I.XX eb) dd λh' dd' hs=>h _ ?_;let⟨q,es,ep,hq,h2,h3,h4,_,h5⟩:=dd';refine pV I (by rw[e];exact XD) hs ⟨q,hq⟩ ⟨hl,hd,_,(rel.put k eb rv).keeps λc ys ec=>?_,q,es,ep,hq,h2,h3,h4,h5⟩;rw[aF (OQ ec e (λz=>nomatch z))];exact ec
end
section
variable {k:Key}
theorem M1 (I:`j)(e:Rd H a (.dK kvs))(h:∀t s',Inv X XR σ H s'->Q (.int kvs.length t) s'):wpAny `f A (call (.builtin "len") [.ref a]) Q E s:=by
 let⟨z,hd,vs,rel,dd⟩:=pM I.XX e;refine call_len_dict hd dd (by rw[← rel.length];rw[V0] at z;cbv) ?_;rw[← rel.length];exact h _ _ (I.tok _)
end
def EI (i:Expr):Prop:=∀ov iv,Wd i false ov iv=operate [ov,iv] (VO ov iv)
theorem Hv {env:Env}{value slice:Expr}{id:String}(hl:typeLookup (.type T) "__getitem__"=pure (some (.builtin id)))(hs:EI slice)(h:wpAny `t A (eval value env) (λo s₁=>wpAny `t A (eval slice env) (λi s₂=>s₂.TypeIs o T/\wpAny `t A (VO o i) Q E s₂) E s₁) E s):
 wpAny `t A (eval (.Subscript value slice pos) env) Q E s:=by
 refine Subscript_ (Vo h (λo s₁ h₁=>Vo h₁ (λi s₂ h₂=>?_) λ_ _ x=>x) λ_ _ x=>x);let⟨hT,h₂⟩:=h₂;unfold U8;refine Vb ?_;rw[getitemInPython_of_ne hT.not_modules];refine Vb (wpAny_specialOf hT hl ?_);let fin:wpAny `t A (Wd slice false o i) (λr s₃=>wpAny `t A (letTemporaryGo value o r >>=λ_=>pure r) Q E s₃) E s₂:=by
  rw[hs o i];exact wpAny_operating (Vo h₂ (λr s₃ h₃=>Vb (wpAny_letTemporaryGo (Vd h₃))) λ_ _ x=>x)
 first
  | exact Vd (Vb fin)
  | exact Vb (Vd (Vb fin))
  | exact Vb fin
theorem yF (I:`j)(g:iE H a y o):s.TypeIs (.ref a) "dict":=by
 obtain⟨kvs,k,e,_,_⟩ | ⟨kvs,k,b,e,_,_,_⟩:=g
 ·let⟨_,_,vs,_,dd⟩:=pM I.XX e;exact dd.typeIs
 ·let⟨_,_,xs,_,dd⟩:=rR I.XX e;exact dd.typeIs
def Nu (td ty:TE):TE:=λσ H Q=>td σ H λx H1=>ty σ H1 λy H2=>∃a v,x= .ref a/\iE H2 a y (some v)/\Q v H2
def Q1 (ty td:TE):TE:=λσ H Q=>ty σ H λy H1=>td σ H1 λx H2=>∃a o,x= .ref a/\iE H2 a y o/\Q (.bl o.isSome) H2
def II (ty td:TE):TE:=λσ H Q=>ty σ H λy H1=>td σ H1 λx H2=>∃a o,x= .ref a/\iE H2 a y o/\Q (.bl (!o.isSome)) H2
def MY (td ty tv:TE):TS:=λD σ H=>tv σ H λv H1=>td σ H1 λx H2=>ty σ H2 λy H3=>∃a H4,x= .ref a/\qF H3 a y v H4/\D.nx σ H4
section
variable {o i value:Expr}{pos' tpos:Pos}{td ty tv:TE}
theorem Ih (hu:`be)(ho:PE X o td)(hi:PE X i ty)(hs:EI i):PE X (.Subscript o i pos) (Nu td ty):=by
 intro XR s σ H Q I h;refine Hv PySem.F.slot_dict_getitem.lookup hs (a8 (ho XR s σ H _ I h) λu s1 ⟨x,H1,I1,rx,q1⟩=>a8 (hi XR s1 σ H1 _ I1 q1) λiv s2 ⟨y,H2,I2,ry,a,v,ex,g,q2⟩=>?_);subst ex;obtain rfl:u=Xa a:=rx;exact⟨yF I2 g,Cz hu I2 g ry λw' s3 I3 rw'=>⟨v,H2,I3,rw',q2⟩⟩
theorem Mn (hu:`be)(hi:PE X i ty)(ho:PE X o td):PC X .In i o (Q1 ty td):=by
 intro XR s σ H Q I h;refine a8 (hi XR s σ H _ I h) λiv s1 ⟨y,H1,I1,ry,q1⟩=>a8 (ho XR s1 σ H1 _ I1 q1) λu s2 ⟨x,H2,I2,rx,a,ov,ex,g,q2⟩=>?_;subst ex;obtain rfl:u=Xa a:=rx;exact QY hu I2 g ry λs3 I3=>⟨.bl ov.isSome,H2,I3,rfl,q2⟩
theorem mh (hu:`be)(hi:PE X i ty)(ho:PE X o td):PC X .NotIn i o (II ty td):=by
 intro XR s σ H Q I h;refine a8 (hi XR s σ H _ I h) λiv s1 ⟨y,H1,I1,ry,q1⟩=>a8 (ho XR s1 σ H1 _ I1 q1) λu s2 ⟨x,H2,I2,rx,a,ov,ex,g,q2⟩=>?_;subst ex;obtain rfl:u=Xa a:=rx;exact Jk hu I2 g ry λs3 I3=>⟨.bl (!ov.isSome),H2,I3,rfl,q2⟩
theorem uB (hu:`be)(ho:PE X o td)(hi:PE X i ty)(hv:PE X value tv)(hs:Vh value (some (.Subscript o i pos')) pos.line X.env=pure false):
 PS X (.Assign [.Subscript o i pos'] value pos) (MY td ty tv):=by
 intro XR s σ H D I h;refine wpAny_Assign_Subscript (a8 (hv XR s σ H _ I h) λr s1 ⟨v,H1,I1,rv,q1⟩=>a8 (ho XR s1 σ H1 _ I1 q1) λu s2 ⟨x,H2,I2,rx,q2⟩=>a8 (hi XR s2 σ H2 _ I2 q2) λiv s3 ⟨y,H3,I3,ry,a,H4,ex,g,q3⟩=>?_) hs;subst ex;obtain rfl:u=Xa a:=rx;exact B7 hu I3 g ry rv λs4 I4=>⟨σ,H4,I4,q3⟩
end
theorem x6 (h:Heap)(hb:Vr<h.objs.size):da P w H (h.push {cls:=.type "dict",data:=.dict #[]}) h.objs.size (.dK []):=
 ⟨Uy _,beq_eq_false_iff_ne.mpr (UT (UB hb)),[],.nil,Heap.DictOf.new h⟩
def L9:TE:=λ_ H Q=>∀p,H p=none->Q (.ref p) (upd H p (.dK []))
theorem Fi:PE X (.Dict [] [] pos) L9:=λXR s σ H Q I h=>
 wpAny_Dict_empty ⟨.ref ⇑s,_,I.laid (a:=⇑s) (o:=.dK []) (t':=s.toks) (λ_ _ q=>WR _ q) (Uw _) (x6 s.heap I.big),rfl,h _ (I.XX.fresh (Uw _))⟩
variable {trs:List (TE×TE)}
noncomputable def yg:List (TE×TE)->St->Hp->(List (V×V)->Hp->Prop)->Prop
 | [],_,H,Q=>Q [] H
 | (tk,tv)::r,σ,H,Q=>tk σ H λx H1=>tv σ H1 λy H2=>yg r σ H2 λps H3=>Q ((x,y)::ps) H3
abbrev VV:List (V×V)->List (Value×Value)->Prop:=Paired λp q=>RelV p.1 q.1/\RelV p.2 q.2
def GD (X:Cx)(pos:Pos)(keys:List (Option Expr))(values:RE)(trs:List (TE×TE)):Prop:=
 ∀(XR:Ru)(s:Va)(σ:St)(H:Hp)(Q:List (V×V)->Hp->Prop),Inv X XR σ H s->yg trs σ H Q->
  wpAny `f X.A (evalPairs (pairTrees keys values X.env pos)) (λvs s'=>∃ps H',Inv X XR σ H' s'/\VV ps vs/\Q ps H') X.xe s
theorem Jt:GD X pos [] [] []:=λXR s σ H Q I h=>pairTrees_nil_walk ⟨[],H,I,.nil,h⟩
theorem vL {k v:Expr}{ks:List (Option Expr)}{vs:RE}{tk tv:TE}(hk:PE X k tk)(hv:PE X v tv)(hr:GD X pos ks vs trs):
 GD X pos (some k::ks) (v::vs) ((tk,tv)::trs):=λXR s σ H Q I h=>
 pairTrees_cons_walk (a8 (hk XR s σ H _ I h) λu s1 ⟨x,H1,I1,rx,q1⟩=>a8 (hv XR s1 σ H1 _ I1 q1) λw2 s2 ⟨y,H2,I2,ry,q2⟩=>
  a8 (hr XR s2 σ H2 _ I2 q2) λws s3 ⟨ps,H3,I3,rel,q3⟩=>⟨(x,y)::ps,H3,I3,.cons ⟨rx,ry⟩ rel,q3⟩)
noncomputable def nk (kvs more:List (Key×V)):List (Key×V):=more.foldl (λacc kv=>putK acc kv.1 kv.2) kvs
theorem KV.merge:∀{more:List (Key×V)}{rs:List (Key×Value)}{kvs:List (Key×V)}{vs:List (Key×Value)},KV more rs->KV kvs vs->KV (nk kvs more) (merged vs rs):=by
 intro more rs kvs vs r;unfold KV at r
 induction r generalizing kvs vs with
 | nil=>intro q;exact q
 | @cons p q ps qs h t ih=>
   intro r0;let e:KV (putK kvs p.1 p.2) (Wh vs q.1 q.2):=by
    have:=r0.put p.1 h.2;rw[← h.1];exact this
   exact ih e
theorem oh:∀(more kvs:List (Key×V)),(nk kvs more).length<=kvs.length+more.length
 | [],kvs=>by show kvs.length<=kvs.length+0;cbv
 | p::r,kvs=>by
   let h1:=oh r (putK kvs p.1 p.2);let h2:=my kvs p.1 p.2;show(nk (putK kvs p.1 p.2) r).length<=_;rw[Si];cbv
theorem sV {P:Ve}{w:World}:∀{kvs:List (Key×V)}{ws:List (Value×Value)},VV (kvs.map λkv=>(kV kv.1,kv.2)) ws->∃rs,Carries (cE P w) ws rs/\KV kvs rs
 | [],_,r=>by rw[T4] at r;cases r;exact⟨[],XD,.nil⟩
 | p::kvs,_,r=>by
   rw[SK] at r;cases r with
   | @cons a b as bs h t=>
     let⟨rs,c,q⟩:=sV (P:=P) (w:=w) t;let⟨b1,b2⟩:=b;exact⟨(p.1,b2)::rs,⟨kC h.1,rfl,c⟩,.cons ⟨rfl,h.2⟩ q⟩
noncomputable def ON (trs:List (TE×TE)):TE:=λσ H Q=>∀p,H p=none->yg trs σ (upd H p (.dK [])) λps H2=>H2 p∣(.dK [])/\∃kvs:List (Key×V),ps=kvs.map (λkv=>(kV kv.1,kv.2))/\kvs.length<=15/\Q (.ref p) (upd H2 p (.dK (nk [] kvs)))
theorem Jh {keys:List (Option Expr)}{values:RE}(h:GD X pos keys values trs)(Z5:keys.all (·.isSome)=true)(hl:keys.length=values.length)(h0:keys≠[])(h15:keys.length<=15):PE X (.Dict keys values pos) (ON trs):=by
 intro XR s σ H Q I q;let hn:=I.XX.fresh (Uw ⇑s);let I1:=I.laid (a:=⇑s) (o:=.dK []) (h':=s.heap.push {cls:=.type "dict",data:=.dict #[]}) (t':=s.toks) (λ_ _ q=>WR _ q) (Uw _) (x6 s.heap I.big);refine wpAny_Dict_walk (knd:=cE X.prog X.w) Z5 hl h0 h15 (a8 (h XR _ σ _ _ I1 (q _ hn)) λws s2 ⟨ps,H2,I2,rel,e,kvs,ep,lk,q2⟩=>?_);subst ep;let⟨rs,c,rk⟩:=sV (P:=X.prog) (w:=X.w) rel;let⟨z,hd,vs0,r0,dd⟩:=AO I2.XX e;cases r0
 refine⟨rs,c,dd,λh' dd' hs=>⟨.ref ⇑s,_,?_,rfl,q2⟩⟩;let hz:(nk [] kvs).length<=U9:=by
  let h1:=oh kvs [];rw[SH] at h1;rw[V0];cbv
 let he:∃q,h'.get? ⇑s∣q:=let ⟨q,_,_,hq,_⟩:=dd';⟨q,hq⟩;exact pV I2 (by rw[e];exact XD) hs he (yb hz hd (rk.merge .nil) dd')
structure M2 (X:Cx)(o:Expr)(m:Str)(apos:Pos)(e f:Expr)(YK:Pos):Prop where
 base:Wn o m X.env (eval o X.env)=eval o X.env
 few:((V1 YK (Vf [e,f] X.env)).all (λx=> !x.1)&&(backToKw YK (keywordEach [] X.env)).all (λx=>x.1.isSome)
  &&decide (([e,f]:RE).length+([]:List V5).length+(if([]:List V5).isEmpty then 0 else 1)<30))=true
 line:(apos.endLine==YK.line)=true
 trees:V1 YK (Vf [e,f] X.env)=[(false,eval e X.env),(false,eval f X.env)]
section
variable {d:V}{r:`aK}
end
section
variable {o f:Expr}{apos YK:Pos}{td ty tx:TE}
end
end L2
namespace Att
open PySem PySem.W PySem.Calls PyProof.Rows
variable {P:Params}{h:Heap}
theorem tG :∀(ns:Rv)(vs:RC),WellAll P h vs (ns.map WData.int)->IntsAre vs ns:=by
 intro ns
 induction ns with
 | nil=>
   intro vs w;rw[T4] at w;cases w
   exact .nil
 | cons n ns ih=>
   intro vs w;rw[SK] at w;cases w with
   | cons a b=>
     cases a
     exact .cons _ _ (ih _ b)
theorem Cf {l:OpenLaw}{n:Nat}(hn:l.most∣n){args:List WData}{vals:RC}(hpre:l.row.toRowW.claim.pre args=true)(hwl:WellAll P h vals args):
 ∃a vs ns,vals=[Xa a]/\args=[WData.list (ns.map WData.int)]/\h.get? a=some {cls:=.type "list",data:=.seq vs.toArray}/\IntsAre vs ns/\ns.length<=n:=by
 let hsh:WShape.hasAll [] args [.list .int]=true:=(pre_splitW hpre).1;let hc:l.pre.holds [] {args:=args}=true:=(pre_splitW hpre).2;let⟨d,r,rfl,h1,h2⟩:=hasAllW_cons hsh;obtain rfl:=hasAllW_nil h2;let⟨xs,rfl,h3⟩:=hasW_list h1;let⟨ns,rfl⟩:=items_int h3;let hlen:ns.length<=n:=by
  unfold OpenLaw.pre at hc;let h4:(WTm.not (.lt (.lit (.int (n:Int))) (.len (.arg 0)))).holds [] {args:=[.list (ns.map .int)]}=true:=by
   let h4:=(holds_andW hc).1;rw[hn] at h4;exact h4
  let h5:=condW_of h4 (w_not (w_lt w_lit (w_len_list (w_arg rfl))));rw[R9] at h5;refine Nat.le_of_not_lt λq=>?_;let q':(n:Int)<((ns.length:Nat):Int):=`a
  first
   | (rw[XJ q'] at h5;exact XE h5 `c)
   | (simp at h5;cbv)
 cases hwl with
 | cons w1 w2=>
   cases w2
   cases w1 with
   | list ho Z5=>exact⟨_,_,ns,rfl,rfl,ho,tG ns _ Z5,hlen⟩
theorem Cd (l:OpenLaw)(args:List WData):l.row.toRowW.claim.post args (.bool true) args=true:=
 postW_of (r:=l.row.toRowW) (X:=(true==true))
  (show WShape.has [] (.bool true) .bool=true by first | rfl | decide | simp[WShape.has,WShape.arms,WShape.armsAll])
  (show(WTm.eq .res (.lit (.bool true))).value [] {args:=args,res:=some (.bool true),after:=args}∣(.bool (true==true)) from w_eq_bool (w_res rfl) w_lit) rfl
section
variable {prog:Ve}{w:World}{A:Vg}{E:`s}{s:Va}{K:Frag}
end
end Att
namespace L2
open PySem PySem.Spec PyProof.Rows
theorem vd:∀{vs:RC}{ns:Rv},IntsAre vs ns->Vals (ns.map V.int) vs
 | _,_,.nil=>.nil
 | _,_,.cons n t h=>.cons ⟨t,rfl⟩ (vd h)
def Ek (H:Hp):Prop:=∀b,H b=none∨∃o xs,H b∣(.YI o (.lst xs))
variable {P:Ve}{w:World}{K:Xh}{mg:Rt}{fd:Vi}{sp:Sp}
theorem Ed {mb:Rt}{CX:om}{k:Nat}{fa a:Addr}{x:Str}{s₁:Va}{vs:RC}{ns:Rv}(KX:K.In s₁.heap)(hns:s₁.heap.Ns Vc mg)(hb:s₁.heap.Ns builtinsNs mb)(hbb:∀x:Str,x≠"__name__"->mb x=VA x)(hlim:s₁.heap.NoLimit)(hg:s₁.gens= #[])(ha:s₁.heap.get? a=some {cls:=.type "list",data:=.seq vs.toArray})(hi:IntsAre vs ns)(hl:ns.length<=U9)(hr:bG k V6)(F:∀base:Heap,K.In base->base.Ns Vc mg->eZ P w K mg base CX k fa fd [x] sp)(hbind:∀(s:Va)(u:`aK),Wg s fd ⟨[u],[]⟩ [(x,u)])(ZL:∀H:Hp,Ek H->bw K H a (ns.map V.int)->sp [.ref a] H (λv _=>v= .bl true) λ_ _ _=>False)(hCX:∀H e s',CX [] H s₁ (λ_ _ _=>False) e s'->False):
 VZ (model P w) V6 (.call (.ref fa) ⟨[.ref a],[]⟩) `aM s₁:=by
 let rv:=vd hi;let lenV:=hi.length
 let core:∀H:Hp,Ek H->bw K H a (ns.map V.int)->fo P w H s₁.heap->(∀b,H b≠none->b=a)->(H a≠none->K.lookup a=none)->
  VZ (model P w) V6 (.call (.ref fa) ⟨[.ref a],[]⟩) `aM s₁:=by
  intro H hO hS XX hA hK;let base_of:∀{b:Addr}{o:Obj},s₁.heap.get? b∣o->H b=none->(nQ s₁.heap H).get? b∣o:=λe n=>EM e n;let noA:∀{b:Addr}{o:Obj}{es:Array DictEntry}{ep:Nat},s₁.heap.get? b∣o->o.data= .dict es ep->H b=none:=λ{b o es ep} e d=>by
   cases q:H b with
   | none=>rfl
   | some u=>
     let e':b=a:=hA b (by rw[q];simp);subst e';rw[ha] at e;cases e
     let d':Data.seq vs.toArray _=Data.dict es ep:=d;cases d'
  let nsK:∀{b:Addr}{m:Rt},s₁.heap.Ns b m->(nQ s₁.heap H).Ns b m:=λ{b m} ⟨o,es,ep,e,d,r⟩=>⟨o,es,ep,base_of e (noA e d),d,r⟩;let hKb:K.In (nQ s₁.heap H):=λb o e=>base_of (KX b o e) (by
   cases q:H b with
   | none=>rfl
   | some u=>
     let e':b=a:=hA b (by rw[q];simp);subst e';rw[hK (by rw[q];simp)] at e;cases e)
  let hM:Mod K mg (nQ s₁.heap H):=⟨hKb,nsK hns,⟨mb,nsK hb,hbb⟩,let ⟨mc,h1,h2⟩:=hlim;⟨mc,nsK h1,h2⟩⟩;let e0:rK P w K mg (nQ s₁.heap H) V6 [] s₁ H:=⟨rfl,hM,λb o e=>Iw e,US (DE _ _),trivial,λb hb=>XE (show b∈([]:Rz) from hb) `d,XX,.of_eq hg⟩;refine V8 ((F _ hKb (nsK hns)).run V6 [] s₁ H ⟨[.ref a],[]⟩ [.ref a] [.ref a] _ _ hr e0 (hbind s₁ (.ref a)) (.cons rfl .nil) (ZL H hO hS)) λr s' h=>?_;cases r with
  | error e=>exact(hCX H e s' h).elim
  | ok fl=>
    cases fl with
    | next=>exact RQ h
    | brk=>exact RQ h
    | cont=>exact RQ h
    | ret u=>
      let⟨v,H',os,bare,un,hok',r',q⟩:=h;let q':v= .bl true:=q;subst q';obtain rfl:u=Xe true:=r';refine⟨rfl,OldK.of_keep λb o e=>?_,os,bare⟩;cases q:H b with
      | none=>exact un.keep b o e q (by intro z;exact XE (show b∈([]:Rz) from z) `d) `d
      | some u=>
        obtain z | ⟨ob,xs,z⟩:=hO b
        ·rw[q] at z;cases z
        ·let z2:=un.Y1 b ob _ z;let⟨e1,_⟩:=XX b _ z;let⟨e2,_⟩:=hok' b _ z2;rw[e] at e1;cases e1
         exact e2
 cases hk:K.lookup a with
 | some o=>
   let e:=KX a o hk;rw[ha] at e;cases e
   refine core (λ_=>none) (λ_=>.inl rfl) (.inr ⟨_,vs.toArray,_,hk,rfl,rfl,rfl,by rw[Ss,lenV];exact hl,by simpa using rv⟩) (λb u z=>by let z':(none:Option HO)∣u:=z;cases z') (λb z=>XE rfl z) λz=>XE rfl z
 | none=>
   refine core (λb=>if b=a then some (.YI {cls:=.type "list",data:=.seq vs.toArray} (.lst (ns.map V.int))) else none) (λb=>?_) (.inl (.inr ⟨{cls:=.type "list",data:=.seq vs.toArray},XG rfl⟩)) (λb u z=>?_) (λb z=>?_) λ_=>hk
   ·by_cases hb:b=a
    ·exact .inr ⟨_,_,XG hb⟩
    ·exact .inl (XF hb)
   ·by_cases hb:b=a
    ·let z':=(XG hb).symm.trans z;cases z'
     subst hb;exact⟨ha,by rw[R9];exact hl,vs,_,rv,ha⟩
    ·let z':=(XF hb).symm.trans z;cases z'
   ·by_cases hb:b=a
    ·exact hb
    ·exact XE (XF hb) z
abbrev qq {K:Xh}{h:Heap}(_:K.In h):Xh:=K
noncomputable def fA (s:Stmt):Arguments:=match s with
 | .FunctionDef _ a _ _ _ _ _ _ _ _=>a
 | _=>{posonlyargs:=[],args:=[],vararg:=none,kwonlyargs:=[],kw_defaults:=[],kwarg:=none,defaults:=[]}
noncomputable def bE (s:Stmt):List Stmt:=match s with
 | .FunctionDef _ _ b _ _ _ _ _ _ _=>b
 | _=>[]
noncomputable def ao (s:Stmt):Scope:=match s with
 | .FunctionDef _ _ _ _ _ _ sc _ _ _=>sc
 | _=>{kind:=.function,names:=[],isGenerator:=false,isCoroutine:=false}
abbrev eI:om:=λ_ _ _ _ _ _=>False
abbrev E0:XK:=λ_ _ _=>False
variable {X:Cx}
theorem kx :Passes eI X E0:=λ_ _ _ _ _ _ _ h=>h.elim
structure dO (K:Xh)(x qual:Str)(st:Stmt)(f:Addr)(fd:Vi):Prop where
 ex:∃(oc:`aK)(od:Option Addr)(kV doc pm:`aK)(an:Option Addr)(XU ct:`aK)(Zu:Array Ry),
  fd=Xn x qual (fA st) (bE st) (ao st) .none kV doc pm an XU ct/\K.lookup f∣⟨oc,od,.func fd,Zu⟩/\Xr K XU qual=true
 kp:Xm K (.ref f)=true
variable {ps:Rx}
section
variable {base:Heap}
variable {x qual:Str}{st:Stmt}{f:Addr}
theorem dO.ok {N:Rx}{k:Nat}(F:dO K x qual st f fd)(S:bF N ps (ao st))(len:∀vs H Q E,sp vs H Q E->vs.length=ps.length)(Yd:∀(XU:`aK)(A:Vg)(outer:List Env)(s:Va)(H:Hp)(vs:`P)(Q:VK)(E:XK),bG k `ar->sp vs H Q E->
  ∃t,lJ (eU eI P w K mg base N qual (ao st) f XU A outer s H E).gW (bE st) t/\t {nx:=λ_ H'=>Q .X4 H',rt:=Q} (start N vs) H):eZ P w K mg base eI (k+1) f fd ps sp:=by
 let⟨oc,od,kV,doc,pm,an,XU,ct,Zu,rfl,lk,ZN⟩:=F.ex;refine NR lk ZN S len λA outer s H vs Q E hr ZL=>?_;let⟨t,h,q⟩:=Yd XU A outer s H vs Q E hr ZL;exact⟨t,h.gW,q⟩
theorem dO.binds (F:dO K x qual st f fd)(h:∀(kV doc pm:`aK)(an:Option Addr)(XU ct:`aK)(us:RC),us.length=ps.length->bindArgs (Xn x qual (fA st) (bE st) (ao st) .none kV doc pm an XU ct) ⟨us,[]⟩=pure (ps.zip us)):Binds K fd ps []:=by
 let⟨oc,od,kV,doc,pm,an,XU,ct,Zu,rfl,lk,ZN⟩:=F.ex;exact .all (h kV doc pm an XU ct)
theorem kX {oc:`aK}{od an:Option Addr}{Zu:Array Ry}{kV doc pm XU ct:`aK}(l:K.lookup f∣⟨oc,od,.func (Xn x qual (fA st) (bE st) (ao st) .none kV doc pm an XU ct),Zu⟩)(c:Xr K XU qual=true)(k:Xm K (.ref f)=true):dO K x qual st f (Xn x qual (fA st) (bE st) (ao st) .none kV doc pm an XU ct):=⟨⟨oc,od,kV,doc,pm,an,XU,ct,Zu,rfl,l,c⟩,k⟩
end
variable {H H':Hp}
theorem ow {A B:Prop}(h:B):if false=true then A else B:=by
 rw[XF RH];exact h
theorem oC {A B:Prop}(h:A):if true=true then A else B:=by
 rw[XG rfl];exact h
def au (H H':Hp):Prop:=∀b o,H b∣o->H' b∣o
theorem au.refl (H:Hp):au H H:=λ_ _ h=>h
theorem au.trans {H1 H2:Hp}(a:au H H1)(b:au H1 H2):au H H2:=λc o h=>b c o (a c o h)
theorem au.free (e:au H H'){l:Addr}(h:H' l=Option.none):H l=Option.none:=by
 cases q:H l with
 | none=>rfl
 | some o=>
   rw[e l o q] at h;cases h
theorem au.seq {a:Addr}{xs:`P}(e:au H H')(h:bw K H a xs):bw K H' a xs:=by
 obtain (h | ⟨o,h⟩) | h:=h
 ·exact .inl (.inl (e _ _ h))
 ·exact .inl (.inr ⟨o,e _ _ h⟩)
 ·exact .inr h
theorem uX:fO X (.builtin "len") (λxs H Q=>∃a kvs,xs=[V.ref a]/\H a∣.dK kvs/\Q (.int kvs.length) H):=by
 intro XR s σ H xs us Q I r h;let⟨a,kvs,rfl,ha,q⟩:=h;let⟨u,rfl,ru⟩:=vals1 r;cases ru
 exact M1 I (.inl ha) λt s' I'=>⟨.int kvs.length,H,I',⟨t,rfl⟩,q⟩
section
variable {κ:Type} [DecidableEq κ]
theorem iW:∀{l:List κ}{k:κ},l.Nodup->¬k∈l->(l++[k]).Nodup
 | [],k,_,_=>`d
 | a::r,k,h,hk=>by
   let⟨h1,h2⟩:=Sz.mp h;show(a::(r++[k])).Nodup;refine Sz.mpr ⟨λm=>?_,iW h2 λm=>hk (Sj.mpr (Or.inr m))⟩;obtain q | q:=Sl.mp m
   ·exact h1 q
   ·exact hk (Sj.mpr (Or.inl (Sa.mp q).symm))
end
variable {XR:Ru}{σ:St}
section
variable {elt target iter:Expr}{ifs:RE}{scope:Scope}{pos:Pos}{s:Va}{fr:Rx}{ix:List Nat}{wi:TI}{g:TG}{tc:TT}{te:TE}
def bq (X:Cx)(scope:Scope)(cl:`aO)(C:Addr)(N':Rx)(s:Va)(H:Hp)(ex:Rz):Cx:=
 {X with N:=N',s₀:=s,H₀:=H,env:=compEnvC scope cl C X.env,outer:=X.stack,stack:=X.stack,ex:=ex,fn:=λ_=>false,pn:=[],xe:=λ_ _=>False}
noncomputable def PF (X:Cx)(ifs:RE)(t:TT):Prop:=
 ∀(XR:Ru)(s:Va)(σ:St)(H:Hp)(Q:Bool->Hp->Prop),Inv X XR σ H s->t σ H Q->
  wpAny `f X.A (forIn ifs true λc r=>if r=true then do let ok ← VL c X.env (eval c X.env);pure (RR ok) else pure (RR r)) (TP X XR σ Q) X.xe s
def QJ:TT:=λ_ H Q=>Q true H
theorem JF:PF X [] QJ:=by
 intro XR s σ H Q I h;exact Vd ⟨H,I,h⟩
theorem JP {c:Expr}{t:TT}(hc:PT X c t):PF X [c] t:=by
 intro XR s σ H Q I h;show wpAny _ _ (forIn [c] true λc r=>_) _ _ s;rw[Us];simp only[if_true,forIn_nil];refine Vb (Vb (Vo (hc XR s σ H Q I h) (λb s1 h1=>?_) λ_ _ e=>e));exact Vd (Vd h1)
theorem wD {prog:Ve}{A:Vg}{R:Result->Va->Prop}{it acc:`aK}{env:Env}(I:Nat->Va->Prop)(turn:∀n s,I n s->wpAny `t A (V7 it) (λr s₁=>match r with
  | none=>R (.ok .next) s₁
  | some v=>wpAny `t A (VT target it v) (λ_ s₁'=>wpAny `t A (VD target env v) (λ_ s₂=>
   wpAny `t A (forIn ifs true λc r=>if r=true then do let ok ← VL c env (eval c env);pure (RR ok) else pure (RR r)) (λok s₃=>
    if ok=true then wpAny `t A (eval elt env) (λx s₄=>
     wpAny `t A (call (.builtin "list.append") [acc,x]) (λ_ s₅=>∃m,m<n/\I m s₅) (λ_ _=>False) s₄) (λ_ _=>False) s₃
    else∃m,m<n/\I m s₃) (λ_ _=>False) s₂) (λ_ _=>False) s₁') (λ_ _=>False) s₁) (λ_ _=>False) s)(n:Nat)(h:I n s):
 VZ `t A (.compLoop `I 0 it acc env) R s:=by
 let no:∀{α:Type}{t:Sem α}{Q:α->Va->Prop}{E:`s}{s:Va},wpAny `t A t Q (λ_ _=>False) s->wpAny `t A t Q E s:=λh=>Vo h (λ_ _ q=>q) λ_ _ f=>f.elim;refine codeAny_loop rfl I (λn s hI=>?_) n h;show wpAny _ A ((compTurn `I 0 it acc env).onRaise (λx=>do noteFrame x env;theTreesLotGoes x)) _ _ s;refine wpAny_noted ?_;rw[compTurn_list];refine Vb (V2 (Vb (Vo (no (turn n s hI)) (λr s₁ h₁=>?_) λ_ _ h'=>h')));cases r with
 | none=>exact Vd h₁
 | some v=>
   refine Vb (Vo (no h₁) (λ_ s₁' h₁'=>?_) λ_ _ h'=>h');refine Vb (Vo (no h₁') (λ_ s₂ h₂=>Vb (Vo (no h₂) (λok s₃ h₃=>?_) λ_ _ h'=>h')) λ_ _ h'=>h');cases ok with
   | false=>exact Vd ⟨rfl,h₃⟩
   | true=>
     exact Vb (Vb (Vo (no h₃) (λx s₄ h₄=>Vb (Vo (no h₄) (λ_ s₅ h₅=>Vd (Vd ⟨rfl,h₅⟩)) λ_ _ h'=>h')) λ_ _ h'=>h'))
noncomputable def Bg (wi:TI)(g:TG)(tc:TT)(te:TE)(z:St->St):TE:=λσ H Q=>wi σ H λJ H1=>
 ∃W:Nat->Nat->List V->St->Hp->Prop,(∃m,W 0 m [] (z σ) H1)/\∀i m ys σ' H',W i m ys σ' H'->
  ys.length<=U9/\((J.stop i H'/\∀p,H' p=none->Q (.ref p) (upd H' p (.lst ys)))∨
  (J.go i H'/\∀x H2,J.yld i H' x H2->g x σ' H2 λσ2 H3=>tc σ2 H3 λb H4=>
    if b=true then te σ2 H4 λv H5=>∃m',m'<m/\W (i+1) m' (ys++[v]) σ2 H5 else∃m',m'<m/\W (i+1) m' ys σ2 H4))
structure fF (X:Cx)(scope:Scope)(cl:`aO)(own fr:Rx)(ix:List Nat):Prop where
 clos:closureFor scope X.env=pure cl
 cells:∀x c,cl.lookup x∣c->X.env.cells.lookup x∣c
 kind:scope.kind= .function
 ncell:∀y∈scope.names,y.2≠ .cell
 names:∀y∈scope.names,y.2= .local->scope.names.lookup y.1∣.local
 has:∀x,scope.names.lookup x∣.free->∃c,cl.lookup x∣c
 frees:∀x∈fr,scope.names.lookup x∣.free
 len:fr.length=ix.length
 at_:∀(k:Nat)(i:Nat)(x:Str),ix[k]?∣i->fr[k]?∣x->X.N[i]?∣x/\X.env.kindOf x∣.cell
theorem jC {env:Env}:∀{names:List (Str×VH)}{x:Str}{k:VH},
 (names.map λ(n,k)=>if(k==VH.free&&env.scope.kind== .function&&env.kindOf n==some .cell) then(n,VH.cell) else(n,k)).lookup x∣k->
 ∃k',names.lookup x∣k'/\(k=k'∨(k'= .free/\k= .cell))
 | [],_,_,h=>by simp at h
 | (n,k)::r,x,kk,h=>by
   let ih:=@jC env r x kk;replace h:Tp x ((if(k==VH.free&&env.scope.kind== .function&&env.kindOf n==some .cell)=true then(n,VH.cell) else(n,k))::_)∣kk:=h;by_cases hc:(k==VH.free&&env.scope.kind== .function&&env.kindOf n==some .cell)=true
   ·rw[XG hc] at h;cases hx:x==n with
    | true=>
      simp only[Tt,hx,Option.some.injEq] at h ⊢;let hk:k= .free:=by
       simp only[RJ] at hc;exact eq_of_beq hc.1.1
      exact⟨k,rfl,.inr ⟨hk,h.symm⟩⟩
    | false=>
      simp only[Tt,hx] at h ⊢;exact ih h
   ·rw[XF hc] at h;cases hx:x==n with
    | true=>
      simp only[Tt,hx,Option.some.injEq] at h ⊢;exact⟨k,rfl,.inl h.symm⟩
    | false=>
      simp only[Tt,hx] at h ⊢;exact ih h
theorem oy {env:Env}(hf:env.scope.kind= .function):∀{names:List (Str×VH)}{x:Str},names.lookup x∣.free->env.kindOf x∣.cell->
 (names.map λ(n,k)=>if(k==VH.free&&env.scope.kind== .function&&env.kindOf n==some .cell) then(n,VH.cell) else(n,k)).lookup x∣.cell
 | [],_,h,_=>by simp at h
 | (n,k)::r,x,h,hk=>by
   let ih:=@oy env hf r x;show Tp x ((if(k==VH.free&&env.scope.kind== .function&&env.kindOf n==some .cell)=true then(n,VH.cell) else(n,k))::_)=_;cases hx:x==n with
   | true=>
     simp only[Tt,hx,Option.some.injEq] at h;let e:x=n:=eq_of_beq hx;subst e;subst h;rw[XG (by rw[hf,hk];rfl)];simp[Tt]
   | false=>
     simp only[Tt,hx] at h;split
     ·simp only[Tt,hx];exact ih h hk
     ·simp only[Tt,hx];exact ih h hk
noncomputable def iz (own:Rx)(ix:List Nat)(σ:St):St:=S7 own.length none++ix.map λi=>(σ[i]?).join
structure Off (X:Cx)(XR:Ru)(H:Hp)(s:Va)(C:Addr):Prop where
 ns:∃m,s.heap.Ns C m
 free:H C=none
 ne:C≠X.env.locals
 young:X.s₀.heap.objs.size<=C
 cell:∀x c,X.env.cells.lookup x∣c->c≠C
 pin:∀p∈X.pn++XR,p.1≠C
theorem uO {cl:`aO}{own:Rx}{use:Option (Value->Sem Unit)}{Qf:`s}{Q:VK}(hc:X.calm=true)(S:fF X scope cl own fr ix)(hi:PI X target iter wi)(hb:∀(C:Addr)(s:Va)(H:Hp)(ex:Rz),PG `m target g/\PF `m ifs tc/\PE `m elt te)(hs:∀x,Vm iter X.env x=pure x)(I:`j)(h:Bg wi g tc te (iz own ix) σ H Q)(Zz:∀(D C:Addr)(H6:Hp)(s6:Va),Inv X XR σ H6 s6->Off X XR H6 s6 C->Q (.ref D) H6->compPost `f X.A X.xe use Qf (.ref D) C (.ok .next) s6):
 wpAny `f X.A (comprehension `I scope X.env (firstIterPos [⟨target,iter,ifs,0⟩] pos) (newList []) false (eval iter X.env) use) Qf X.xe s:=by
 refine wpAny_comprehension_free (use:=use) rfl hs S.clos S.kind S.names ?_;refine a8 (hi XR s σ H _ I h) λv s1 h1=>a8 h1 λitv s2 h2=>?_;let⟨it,fp,tn,J,H2,rfl,I2,T,st2,f2,W,⟨m0,w0⟩,turn⟩:=h2;refine Vv (wpAny_newFunctionEnv S.ncell (by intro y hy;simp at hy) (λh₁ hns₁ hsb₁=>?_) S.kind);dsimp only at hns₁ hsb₁ ⊢;generalize hH3:s2.heap.push {cls:=.type "list",dict:=none,data:=.seq ([]:RC).toArray}=h3 at hns₁ hsb₁ ⊢;let hC:h3.objs.size=⇑s2+1:=by rw[← hH3,WV]
 let to3:∀b o,s2.heap.get? b∣o->h3.get? b∣o:=λb o e=>by rw[← hH3];exact WR _ e
 let getD3:h3.get? ⇑s2=some {cls:=.type "list",data:=.seq ([]:RC).toArray}:=by rw[← hH3];exact WU _ rfl
 let to1:∀b o,h3.get? b∣o->h₁.get? b∣o:=λb o e=>hsb₁.extBut b o (UB (WT e)) (WR _ e);let frD:∀{b:Addr},b∈fp->b≠⇑s2:=λ{b} hb z=>by
  let⟨o,e,_⟩:=T.obj 0 _ st2 b hb;exact XE (WT e) (by rw[z];exact UC _)
 let frC:∀{b:Addr},b∈fp->b≠h3.objs.size:=λ{b} hb z=>by
  let⟨o,e,_⟩:=T.obj 0 _ st2 b hb;exact XE (WT e) (by rw[z,hC];exact UN.mpr (UH _))
 let HD2:H2 ⇑s2=none:=I2.XX.fresh (Uw _)
 let' X':Cx:=bq X scope cl h3.objs.size (own++fr) {s2 with heap:=h3} H2 (⇑s2::fp)
 let ok':X'.Ok:=by
  refine⟨I2.ok.mod,S.kind,I2.ok.glob,I2.ok.blt,Uw _,λx y c e1 e2=>I2.ok.inj x y c (S.cells x c e1) (S.cells y c e2),λx hx=>?_,λx c z=>?_,I2.ok.hd,I2.ok.frames,.inl rfl,λb hb=>?_,λb o e=>?_,?_,λb o e hb=>?_,λb hb z=>?_,?_,I2.yT⟩
  ·let key:scope.names.lookup x∣.free:=by
    let hx:(relabel scope X.env).names.lookup x∣.cell∨(relabel scope X.env).names.lookup x∣.free:=hx;obtain hx | hx:=hx
    ·let⟨k',e,z⟩:=jC hx;obtain z | z:=z
     ·subst z;exact XE rfl (S.ncell _ (Vl e))
     ·rw[e,z.1]
    ·let⟨k',e,z⟩:=jC hx;obtain z | z:=z
     ·subst z;exact e
     ·cases z.2
   exact S.has x key
  ·cases z
  ·obtain rfl | hb:=Sj.mp hb
   ·refine⟨by rw[show X'.env.locals=h3.objs.size from rfl,hC];exact UB (UG _),λx c e z=>?_⟩;let⟨v',q⟩:=I2.cell x c (S.cells x c e);exact XE q.lt (by rw[z];exact UC _)
   ·exact⟨frC hb,λx c e=>(f2 b hb).2.2.2.2.1 x c (S.cells x c e)⟩
  ·let⟨e1,e2⟩:=I2.bs b o e;exact⟨to3 b o e1,e2⟩
  ·show X.base.objs.size<=h3.objs.size;have:=I2.ok.bsz;have:=I2.sz;cbv
  ·obtain rfl | hb:=Sj.mp hb
   ·exact XE (WT (I2.bs _ o e).1) (UC _)
   ·rcases(f2 b hb).2.2.2.1 with z | z
    ·exact I2.ok.ZW b o e z
    ·exact XE (UA (UA (WT e) I2.ok.bsz) z) (UC _)
  ·replace z:b∈nD X.stack:=z;obtain rfl | hb:=Sj.mp hb
   ·let⟨_,o,ho,_⟩:=I2.stack.mem z;exact XE (WT ho) (UC _)
   ·obtain q | q:=Sj.mp (I2.yd b z)
    ·exact(f2 b hb).2.1 q
    ·exact(f2 b hb).2.2.1 q
  ·exact I2.stack.of_keeps λb o e _=>⟨o,to3 b o e,rfl⟩
 let I4:Inv X' [] (iz own ix σ) H2 {s2 with heap:=h₁,toks:=s2.toks+([]:List (Str×Value)).length}:=by
  refine⟨ok',rfl,I2.bare,Un.kept to1,⟨_,hns₁,λi x v e1 e2 e3=>?_⟩,λx c e=>?_,I2.XX.fresh (by show ⇑s2<=h3.objs.size;rw[hC];exact UH _),λx c e=>I2.YB x c (S.cells x c e),λp hp=>XE (show p∈([]:Ru) from hp) `d,I2.XX.kept λb o e=>to1 b o (to3 b o e),?_⟩
  ·replace e1:(own++fr)[i]?∣x:=e1;unfold iz at e2;by_cases YA:i<own.length
   ·rw[SD (~~~YA),Tx] at e2;split at e2<;>cases e2
   ·rw[SG (~~~YA)] at e1 e2;rw[Tn,Sf] at e2;cases ek:ix[i-own.length]? with
    | none=>rw[ek] at e2;cases e2
    | some j=>
      rw[ek] at e2;let⟨n1,n2⟩:=S.at_ _ j x ek e1;let e2':σ[j]?∣some v:=by
       let q:(σ[j]?).join∣v:=Option.some.inj e2;cases es:σ[j]? with
       | none=>rw[es] at q;cases q
       | some o=>rw[es] at q;exact congrArg some q
      let⟨m,hn,hl⟩:=I2.loc;let⟨u,r,l⟩:=hl j x v n1 e2' (.inr (.inl n2));refine⟨u,r,?_⟩;let hfr:scope.names.lookup x∣.free:=S.frees x (Sg e1);obtain⟨k,_⟩ | ⟨_,c,hcl,z⟩:=l
      ·rw[n2] at k;cases k
      ·let⟨c',hc'⟩:=S.has x hfr;let q:=S.cells x c' hc';rw[hcl] at q;cases q
       let⟨oc,ho,hd⟩:=z;exact .inr ⟨.inl (oy I2.ok.kind hfr n2),c,hc',oc,to1 _ _ (to3 _ _ ho),hd⟩
  ·let⟨v',oc,ho,hd⟩:=I2.cell x c (S.cells x c e);exact⟨v',oc,to1 _ _ (to3 _ _ ho),hd⟩
  ·show(iz own ix σ).length=(own++fr).length;unfold iz;rw[Sd,Sd,Tn,R9,S.len]
 let⟨hg,hf,he⟩:=hb h3.objs.size {s2 with heap:=h3} H2 (⇑s2::fp);let hg:PG X' target g:=hg;let hf:PF X' ifs tc:=hf;let he:PE X' elt te:=he;let locX:X'.env.locals=h3.objs.size:=rfl
 let Dne:⇑s2≠X'.env.locals:=by rw[locX,hC];exact UB (UG _)
 let Dfs:⇑s2∉X'.fs:=ok'.ZO _ (Se ..);let Dcl:∀x c,X'.env.cells.lookup x∣c->c≠⇑s2:=λx c e=>(ok'.exf _ (Se ..)).2 x c e;let fpX:∀{pl:Ru}{H':Hp},(∀p∈pl,p.1=⇑s2)->(∀b∈fp,H' b=none)->∀b∈fp,mB X' pl H' b:=λhp hn b hb=>
  ⟨hn b hb,frC hb,ok'.ZO b (Sb _ hb),.inl (Sb _ hb),(ok'.exf b (Sb _ hb)).2,λp q=>by
   rw[hp p (by simpa[show X'.pn=[] from rfl] using q)];exact UT (frD hb)⟩
 let pinD:∀{σ':St}{H':Hp}{s':Va}{o:Obj},Inv X' [] σ' H' s'->s'.heap.get? ⇑s2∣o->H' ⇑s2=none->(∀v,o.data≠ .cell v)->Inv X' [(⇑s2,o)] σ' H' s':=λI e n d=>
  I.kO λp hp=>by
    obtain rfl:=Sa.mp hp;exact⟨e,n,Dne,Dfs,d⟩
 let loop:VZ `f X.A (.compLoop `I 0 (.ref it) (.ref ⇑s2) X'.env)
  (compPost `f X.A X.xe use Qf (.ref ⇑s2) h3.objs.size) {s2 with heap:=h₁,toks:=s2.toks+([]:List (Str×Value)).length}:=by
  refine wD (λn s'=>∃i ys XT k σ' H',Inv X' [] σ' H' s'/\tn i s'.heap/\(∀b∈fp,H' b=none)/\H' ⇑s2=none/\Vals ys XT/\s'.heap.get? ⇑s2=some {cls:=.type "list",data:=.seq XT.toArray k}/\W i n ys σ' H')
   ?_ m0 ⟨0,[],[],0,_,H2,I4,T.keep 0 _ _ st2 λb _ o e=>to1 b o (to3 b o e),λb Y0=>(f2 b Y0).1,HD2,.nil,to1 _ _ getD3,w0⟩
  rintro n s5 ⟨i,ys,XT,k,σ5,H5,I5,st5,fr5,hD5,vs5,get5,w5⟩;let⟨hlen,alt⟩:=turn i n ys σ5 H5 w5;let P5:=pinD I5 get5 hD5 (λv z=>by cases z);let okp:∀p∈[`ao],p.1=⇑s2:=λp hp=>by
   rw[Sa.mp hp]
  obtain⟨stop,q⟩ | ⟨go,step⟩:=alt
  ·refine a8 (T.done X' rfl rfl rfl hc i _ s5 σ5 H5 _ P5 (fpX okp fr5) st5 stop) λr s6 ⟨hr,I6⟩=>?_;subst hr;let⟨m6,hn6,_⟩:=I6.loc;let⟨get6,_,_,_,_⟩:=I6.pin `ao (Sk _ (Sa.mpr rfl));let toh:∀b o,b≠h3.objs.size->s6.heap.get? b∣o->s6.heap.get? b∣o:=λb o hb e=>e;let exn:∀{b:Addr}{o:Obj},s2.heap.get? b∣o->b∉fp->b∉X'.ex:=λ{b o} e hb z=>by
    obtain z | z:=Sj.mp z
    ·exact XE (WT e) (by rw[z];exact UC _)
    ·exact hb z
   let ZY:∀{b:Addr}{o:Obj},s2.heap.get? b∣o->b≠h3.objs.size:=λ{b o} e z=>by
    let q1:=WT e;rw[z,hC] at q1;exact XE q1 (UN.mpr (UH _))
   let neD:∀{b:Addr}{o:Obj},s2.heap.get? b∣o->b≠⇑s2:=λ{b o} e=>UB (WT e);let neD':∀{b:Addr}{o:HO},H2 b∣o->b≠⇑s2:=λ{b o} e=>dt e HD2;let U:Un (nD X.stack) fp H2 (upd H5 ⇑s2 (.lst ys)) s2.heap s6.heap:=by
    refine⟨λb o e n hb hx=>?_,λb o e n hb hx=>?_,λb o e n hx=>?_,λb o e hx=>?_,λb xs e=>?_,λb o u e=>?_,λb ps e=>?_⟩
    ·exact toh b o (ZY e) (I6.base.keep b o (to3 b o e) n hb (exn e hx))
    ·let⟨sl,q1⟩:=I6.base.slot b o (to3 b o e) n hb (exn e hx);exact⟨sl,toh b _ (ZY e) q1⟩
    ·rw[aF (neD e)];exact I6.base.free b o (to3 b o e) n (exn e hx)
    ·let⟨o',q1⟩:=I6.base.there b o (to3 b o e) (exn e hx);exact⟨o',toh b _ (ZY e) q1⟩
    ·rw[aF (neD' e)];exact I6.base.Y7 b xs e
    ·rw[aF (neD' e)];exact I6.base.Y1 b o u e
    ·rw[aF (neD' e)];exact I6.base.Y8 b ps e
   let HC:H5 h3.objs.size=none:=I6.free;let XX:fo X.prog X.w (upd H5 ⇑s2 (.lst ys)) s6.heap:=λb u e=>by
    by_cases hbD:b=⇑s2
    ·subst hbD;rw[aD] at e;cases e
     exact⟨hlen,XT,k,vs5,toh _ _ (by rw[hC];exact UB (UG _)) get6⟩
    ·rw[aF hbD] at e;refine(I6.XX b u e).Yt (λc o hco q1=>toh c o (λz=>?_) q1) (λc q1=>by rw[aF (dt q1 hD5)];exact q1) λc xs q1=>by rw[aF (dt q1 hD5)];exact q1
     obtain hco | hco:=hco
     ·rw[← hco,z,HC] at e;cases e
     ·rw[z,HC] at hco;cases hco
   let fin:=I2.NG (s':=s6) (ch:=fp) I6.os U XX I6.bare λb Y0=>⟨(f2 b Y0).2.2.2.1,(f2 b Y0).2.1,(f2 b Y0).2.2.2.2.1,(f2 b Y0).2.2.2.2.2⟩;refine Zz _ h3.objs.size _ s6 fin ⟨⟨m6,hn6⟩,?_,?_,?_,λx c e z=>?_,λp hp z=>?_⟩ (q _ hD5)
   ·rw[aF (by rw[hC];exact UJ (UG _))];exact HC
   ·intro z;have:=I2.lt;rw[← z,hC] at this;exact XE this (UN.mpr (UH _))
   ·rw[hC];exact Ux I2.sz (UH _)
   ·let⟨v',q1⟩:=I2.cell x c e;have:=q1.lt;rw[z,hC] at this;exact XE this (UN.mpr (UH _))
   ·have:=WT (I2.pin p hp).1;rw[z,hC] at this;exact XE this (UN.mpr (UH _))
  ·refine a8 (T.item X' rfl rfl rfl hc i _ s5 σ5 H5 _ P5 (fpX okp fr5) st5 go) λr s6 ⟨u,hr,h6⟩=>?_;subst hr;refine a8 h6 λ_ s7 ⟨x,H7,I7,r7,y7,st7,fr7⟩=>?_;let I7':=I7.pinned (fpX okp fr7) (T.obj _ _ st7);refine a8 (hg _ s7 σ5 H7 x u _ I7' r7 (step x H7 y7)) λ_ s8 ⟨σ8,H8,I8,q8⟩=>?_;refine a8 (hf _ s8 σ8 H8 _ I8 q8) λb s9 ⟨H9,I9,q9⟩=>?_;let out:∀{σ':St}{H':Hp}{s':Va},Inv X' ([`ao]++m9 fp s7.heap) σ' H' s'->
    tn (i+1) s'.heap/\(∀b∈fp,H' b=none)/\H' ⇑s2=none/\s'.heap.get? ⇑s2=some {cls:=.type "list",data:=.seq XT.toArray k}:=λI'=>by
    refine⟨T.keep _ _ _ st7 λb Y0 o e=>(I'.pin (b,o) (Sk _ (Sk _ (kE Y0 e)))).1,λb Y0=>?_,(I'.pin `ao (Sk _ (Sn _ (Sa.mpr rfl)))).2.1,(I'.pin `ao (Sk _ (Sn _ (Sa.mpr rfl)))).1⟩;let⟨o,e,d⟩:=T.obj _ _ st7 b Y0;exact(I'.pin (b,o) (Sk _ (Sk _ (kE Y0 e)))).2.1
   cases b with
   | false=>
     rw[XF RH] at q9 ⊢;let⟨m',hm,w'⟩:=q9;let⟨o1,o2,o3,o4⟩:=out I9;exact⟨m',hm,i+1,ys,XT,k,σ8,H9,I9.kO (λ_ z=>nomatch z),o1,o2,o3,vs5,o4,w'⟩
   | true=>
     rw[XG rfl] at q9 ⊢;refine a8 (he _ s9 σ8 H9 _ I9 q9) λuv s10 ⟨v10,H10,I10,r10,q10⟩=>?_;let⟨m',hm,w'⟩:=q10;let⟨o1,o2,o3,o4⟩:=out I10;refine wpAny_list_append_plain ⟨k,o4⟩ (λh' Yb Y3=>?_) (by
      have:=vs5.length;rw[Ss,← this];exact hlen)
     let⟨k',Zl⟩:=Yb;let I11:Inv X' (m9 fp s7.heap) σ8 H10 s10:=I10.kO λp hp=>I10.pin p (Sk _ (Sk _ hp));let I12:Inv X' [] σ8 H10 {s10 with heap:=h'}:=(I10.kO (λ_ z=>nomatch z):Inv X' [] σ8 H10 s10).turned (t':=s10.toks) (λb o Y0 e=>Y3.extBut b o Y0 e) o3 Dne (.inl (Se ..)) Dcl (λp hp=>XE (show p∈([]:Ru) from hp) `d);refine⟨m',hm,i+1,ys++[v10],XT++[uv],k',σ8,H10,I12,T.keep _ _ _ o1 λb Y0 o e=>Y3.extBut b o (frD Y0) e,o2,o3,vs5.append (.cons r10 .nil),?_,w'⟩;show h'.get? _=_;rw[Zl];simp
 exact codeAny_compStart_list loop (T.self X.A 0 _ _ _ (T.keep 0 _ _ st2 λb _ o e=>to1 b o (to3 b o e)) loop)
theorem Off.gone {C:Addr}{h':Heap}(o:Off X XR H s C)(I:`j)(Y3:WW C s.heap h'):Inv X XR σ H {s with heap:=h'}:=
 I.turned (t':=s.toks) (λb u hb e=>Y3.extBut b u hb e) o.free o.ne (.inr o.young) o.cell o.pin
theorem Hy {cl:`aO}{own:Rx}(hc:X.calm=true)(S:fF X scope cl own fr ix)(hi:PI X target iter wi)(hb:∀(C:Addr)(s:Va)(H:Hp)(ex:Rz),PG `m target g/\PF `m ifs tc/\PE `m elt te)(hs:∀x,Vm iter X.env x=pure x:=by intro _;rfl):
 PE X `I (Bg wi g tc te (iz own ix)):=by
 intro XR s σ H Q I h;rw[eval_ListComp];refine uO (use:=none) hc S hi hb hs I h λD C H6 s6 I6 o6 q=>?_;let⟨m,hn⟩:=o6.ns;exact⟨m,hn,λh' Y3=>⟨.ref D,H6,o6.gone I6 Y3,rfl,q⟩⟩
theorem nI {i:Nat}{y:Str}{py YX:Pos}{cl:`aO}{own:Rx}(Yn:Vh `I (some (.Name y py)) YX.line X.env=pure true)(hN:X.N.Nodup)(hi':X.N[i]?∣y)(hx:Loc X.env.scope y)(hc:X.calm=true)(S:fF X scope cl own fr ix)(hi:PI X target iter wi)(hb:∀(C:Addr)(s:Va)(H:Hp)(ex:Rz),PG `m target g/\PF `m ifs tc/\PE `m elt te)(hs:∀x,Vm iter X.env x=pure x:=by intro _;rfl)(hf:fM X y:=by first | exact .inl rfl | exact .inr rfl | assumption):
 PS X (.Assign [.Name y py] `I YX) (FU (Bg wi g tc te (iz own ix)) (A7 i)):=by
 intro XR s σ H D I h;rw[exec_Assign_Name_used _ _ _ _ Yn];refine Vb (V2 (Vb ?_));show wpAny _ _ (do let _ ← comprehension `I scope X.env _ (newList []) false (eval iter X.env) (some (VD (.Name y py) X.env))) _ _ s;refine Vb (Vo (uO (use:=some (VD (.Name y py) X.env)) (Qf:=λ_ s'=>SP X XR D .next s') hc S hi hb hs I h λA C H6 s6 I6 o6 q=>?_) (λ_ s' hq=>Vd (Vd hq)) λ_ _ e=>e);show wpAny _ _ (VD (.Name y py) X.env (.ref A)) _ _ _;refine wpAny_assign_Name (uU I6 hN hi' hx (v:=.ref A) rfl (λs7 I7 hw=>?_) hf);let⟨c,hsb7,hcc⟩:=hw;let ZY:C≠c:=by
  obtain rfl | hcc:=hcc
  ·exact o6.ne
  ·exact UT (o6.cell y c hcc)
 let⟨m,hn⟩:=o6.ns;let o7:Off X XR H6 s7 C:=⟨⟨m,hn.sameBut hsb7 ZY⟩,o6.free,o6.ne,o6.young,o6.cell,o6.pin⟩;exact⟨m,hn.sameBut hsb7 ZY,λh' Y3=>⟨_,H6,o7.gone I7 Y3,q⟩⟩
end
end L2
namespace Fc
open PySem PySem.Spec PySem.W PySem.Calls L2
open PyProof.Rows hiding St
variable {X:Cx}{e:Expr}{σ:St}{H:Hp}{v:V}{D:Ends}{Q:VK}
section
variable {t:TT}{Q:Bool->Hp->Prop}
def fU (X:Cx)(e:Expr):TE:=λσ H Q=>∀(XR:Ru)(s:Va),Inv X XR σ H s->wpAny `f X.A (eval e X.env) (EP X XR σ Q) X.xe s
def FC (X:Cx)(e:Expr):TT:=λσ H Q=>∀(XR:Ru)(s:Va),Inv X XR σ H s->wpAny `f X.A (VL e X.env (eval e X.env)) (TP X XR σ Q) X.xe s
def F8 (X:Cx)(e:Expr):TT:=λσ H Q=>∀(whole:Sem Value)(XR:Ru)(s:Va),Inv X XR σ H s->wpAny `f X.A (VL e X.env whole) (TP X XR σ Q) X.xe s
def nJ (X:Cx)(e:Expr):TG:=λv σ H Q=>∀(XR:Ru)(s:Va)(u:`aK),Inv X XR σ H s->RelV v u->wpAny `f X.A (VD e X.env u) (λ_ s'=>∃σ' H',Inv X XR σ' H' s'/\Q σ' H') X.xe s
def FO (X:Cx)(st:Stmt):TS:=λD σ H=>∀(XR:Ru)(s:Va),Inv X XR σ H s->wpAny `f X.A (exec st X.env) (SP X XR D) X.xe s
def vF (X:Cx)(st:List Stmt):TS:=λD σ H=>∀(XR:Ru)(s:Va),Inv X XR σ H s->wpAny `f X.A (execs st X.env) (SP X XR D) X.xe s
def Bi (X:Cx)(es:RE):TA:=λσ H Q=>∀(pos:Pos)(XR:Ru)(s:Va),Inv X XR σ H s->wpAny `f X.A (spliced (V1 pos (Vf es X.env))) (AP X XR σ Q) X.xe s
noncomputable def oS (X:Cx)(ifs:RE):TT:=λσ H Q=>∀(XR:Ru)(s:Va),Inv X XR σ H s->
 wpAny `f X.A (forIn ifs true λc r=>if r=true then do let ok ← VL c X.env (eval c X.env);pure (RR ok) else pure (RR r)) (TP X XR σ Q) X.xe s
theorem aN:PE X e (fU X e):=λXR s _ _ _ I h=>h XR s I
theorem tN:PT X e (FC X e):=λXR s _ _ _ I h=>h XR s I
theorem La:PW X e (F8 X e):=λwh XR s _ _ _ I h=>h wh XR s I
theorem O2:PG X e (nJ X e):=λXR s _ _ _ u _ I r h=>h XR s u I r
theorem Qm {e:Stmt}:PS X e (FO X e):=λXR s _ _ _ I h=>h XR s I
theorem iC {e:List Stmt}:lJ X e (vF X e):=λXR s _ _ _ I h=>h XR s I
theorem lU {e:RE}:PA X e (Bi X e):=λpos XR s _ _ _ I h=>h pos XR s I
theorem eS {t:TE}(h:PE X e t){Q:VK}(q:t σ H Q):fU X e σ H Q:=λXR s I=>h XR s σ H Q I q
theorem tS (h:PT X e t)(q:t σ H Q):FC X e σ H Q:=λXR s I=>h XR s σ H Q I q
theorem wS (h:PW X e t)(q:t σ H Q):F8 X e σ H Q:=λwh XR s I=>h wh XR s σ H Q I q
theorem gS {t:TG}(h:PG X e t){Q:St->Hp->Prop}(q:t v σ H Q):nJ X e v σ H Q:=λXR s u I r=>h XR s σ H v u Q I r q
theorem sS {e:Stmt}{t:TS}(h:PS X e t)(q:t D σ H):FO X e D σ H:=λXR s I=>h XR s σ H D I q
theorem LC {e:List Stmt}{t:TS}(h:lJ X e t)(q:t D σ H):vF X e D σ H:=λXR s I=>h XR s σ H D I q
theorem aS {e:RE}{t:TA}(h:PA X e t){Q:List V->Hp->Prop}(q:t σ H Q):Bi X e σ H Q:=λpos XR s I=>h pos XR s σ H Q I q
theorem fS {e:RE}(h:PF X e t)(q:t σ H Q):oS X e σ H Q:=λXR s I=>h XR s σ H Q I q
end
variable {R:Hp}{α:Type}
theorem au.fresh {p:Addr}(h:H p=none)(o:HO):au H (upd H p o):=λb u q=>by rw[aF (dt q h)];exact q
structure Rep (α:Type) where
 R:Xh->Hp->V->α->Prop
 mono:∀{K:Xh}{H H':Hp}{v:V}{x:α},au H H'->R K H v x->R K H' v x
def ag:Rep Int:=⟨λ_ _ v x=>v= .int x,λ_ h=>h⟩
def dc:Rep Bool:=⟨λ_ _ v x=>v= .bl x,λ_ h=>h⟩
theorem Paired.map {β:Type}{F G:α->β->Prop}(f:∀a b,F a b->G a b):∀{l:`u}{m:List β},PySem.Paired F l m->PySem.Paired G l m
 | _,_,.nil=>.nil
 | _,_,.cons h t=>.cons (f _ _ h) (Paired.map f t)
noncomputable def ae (r:Rep α):Rep (List α):=⟨λK H v xs=>∃a vs,v= .ref a/\H a∣.lst vs/\PySem.Paired (r.R K H) vs xs/\xs.length<=U9,
 λs ⟨a,vs,e,q,p,z⟩=>⟨a,vs,e,s _ _ q,Paired.map (λ_ _=>r.mono s) p,z⟩⟩
noncomputable def cT:Rep Rv:=⟨λK H v xs=>∃a,v= .ref a/\bw K H a (xs.map V.int)/\xs.length<=63,λs ⟨a,e,q,z⟩=>⟨a,e,s.seq q,z⟩⟩
def cQ {β:Type}(r:Rep α)(r':Rep β):Rep (α×β):=⟨λK H v x=>∃a v1 v2,v= .ref a/\H a∣(.tup [v1,v2])/\r.R K H v1 x.1/\r'.R K H v2 x.2,
 λs ⟨a,v1,v2,e,q,h1,h2⟩=>⟨a,v1,v2,e,s _ _ q,r.mono s h1,r'.mono s h2⟩⟩
abbrev Row:=Int×Int×Int×Int
def dU:Rep Row:=⟨λK H v x=>∃a,v= .ref a/\H a∣(.tup [.int x.1,.int x.2.1,.int x.2.2.1,.int x.2.2.2]),λs ⟨a,e,q⟩=>⟨a,e,s _ _ q⟩⟩
abbrev gX:=Rv×List Row
def gF:Rep gX:=cQ (ae ag) (ae dU)
structure Ext (H R H' R':Hp):Prop where
 h:au H H'
 r:au R R'
 s:au R' H'
 old:∀b,H b≠none->R' b=R b
theorem Ext.refl (s:au R H):Ext H R H R:=⟨au.refl _,au.refl _,s,λ_ _=>rfl⟩
theorem au.some {H':Hp}(s:au H H'){b:Addr}(h:H b≠none):H' b≠none:=by
 cases q:H b with
 | none=>exact XE q h
 | some o=>rw[s b o q];exact UW o
theorem Ext.trans {H1 R1 H2 R2:Hp}(a:Ext H R H1 R1)(b:Ext H1 R1 H2 R2):Ext H R H2 R2:=
 ⟨a.h.trans b.h,a.r.trans b.r,b.s,λc hc=>(b.old c (au.some a.h hc)).trans (a.old c hc)⟩
theorem Ext.fresh (s:au R H){p:Addr}(h:H p=none)(o:HO):Ext H R (upd H p o) (upd R p o):=
 ⟨au.fresh h o,au.fresh (s.free h) o,λb u q=>by
  by_cases e:b=p
  ·subst e;rw[aD] at q ⊢;exact q
  ·rw[aF e] at q ⊢;exact s b u q,λb hb=>aF λe=>hb (e▸h)⟩
theorem Ext.d8 (s:au R H){p:Addr}(h:H p=none)(o:HO):Ext H R (upd H p o) R:=
 ⟨au.fresh h o,au.refl _,s.trans (au.fresh h o),λ_ _=>rfl⟩
structure oK:Type 1 where
 fp:Rz
 R:Xh->Hp->Hp->V->Prop
 loc:∀{K:Xh}{H R0 H' R':Hp}{v:V},(∀a∈fp,H' a=H a)->au R0 R'->R K H R0 v->R K H' R' v
 has:∀{K:Xh}{H R0:Hp}{v:V},R K H R0 v->∀a∈fp,H a≠none
inductive Ent:Type 1
 | no
 | im {α:Type} (r:Rep α) (x:α)
 | mu {α:Type} (r:Rep α) (xs:`u)
 | di (kvs:List (Int×V))
 | ob (B:oK)
noncomputable def cS (kvs:List (Int×V)):List (Key×V):=kvs.map λp=>(Sum.inl p.1,p.2)
noncomputable def Ent.ok (K:Xh)(H R:Hp):Ent->Option V->Prop
 | .no,_=>True
 | .im r x,o=>∃v,o∣v/\r.R K R v x
 | .mu r xs,o=>∃a vs,o∣.ref a/\H a∣.lst vs/\R a=none/\PySem.Paired (r.R K R) vs xs
 | .di kvs,o=>∃a,o∣.ref a/\H a∣(.dK (cS kvs))/\R a=none
 | .ob B,o=>(∃v,o∣v/\B.R K H R v)/\∀a∈B.fp,R a=none
noncomputable def Ent.own:Ent->Bool
 | .mu .. =>true
 | .di .. =>true
 | _=>false
noncomputable def refOf:Option V->Rz
 | some (.ref a)=>[a]
 | _=>[]
noncomputable def Ent.fp:Ent->Option V->Rz
 | .mu ..,o=>refOf o
 | .di ..,o=>refOf o
 | .ob B,_=>B.fp
 | _,_=>[]
abbrev Ga:=List Ent
structure ar (K:Xh)(σ:St)(H0 R0 H R:Hp)(Z:Ga):Prop where
 ext:Ext H0 R0 H R
 ent:∀(i:Nat)(e:Ent),Z[i]?∣e->e.ok K H R (σ[i]?).join
 nw:∀(i:Nat)(e:Ent)(a:Addr),Z[i]?∣e->a∈e.fp (σ[i]?).join->H0 a=none
 ds:∀(i j:Nat)(e e':Ent)(a:Addr),Z[i]?∣e->Z[j]?∣e'->a∈e.fp (σ[i]?).join->a∈e'.fp (σ[j]?).join->i=j
 len:Z.length=σ.length
variable {K:Xh}{H0 R0:Hp}{Z:Ga}{a:Addr}{o:Option V}{i:Nat}{en:Ent}{Γ':Ga}{r:Rep α}
section
variable {H' R':Hp}
variable {u:HO}
theorem cq:a∈refOf o↔o∣.ref a:=by
 unfold refOf;split
 ·rw[Sa];constructor
  ·rintro rfl;rfl
  ·intro e;cases e;rfl
 ·rename_i h;constructor
  ·intro z;cases z
  ·intro e;exact XE e (h a)
theorem Ent.tD {e:Ent}(w:e.own=true):a∈e.fp o↔o∣.ref a:=by
 cases e with
 | no=>cases w
 | im r x=>cases w
 | mu r xs=>exact cq
 | di kvs=>exact cq
 | ob B=>cases w
theorem ar.new (E:`C)(i:Nat)(e:Ent)(a:Addr)(h:Z[i]?∣e)(w:e.own=true)(ha:(σ[i]?).join∣.ref a):H0 a=none:=E.nw i e a h ((Ent.tD w).mpr ha)
theorem Ent.fE {e:Ent}(h:e.ok K H R o)(ha:a∈e.fp o):H a≠none/\R a=none:=by
 cases e with
 | no=>cases ha
 | im r x=>cases ha
 | mu r xs=>
   let⟨b,vs,e,q,n,_⟩:=h;rw[Ent.fp,cq,e] at ha;cases ha
   exact⟨by rw[q];exact UW _,n⟩
 | di kvs=>
   let⟨b,e,q,n⟩:=h;rw[Ent.fp,cq,e] at ha;cases ha
   exact⟨by rw[q];exact UW _,n⟩
 | ob B=>let⟨⟨v,e,q⟩,n⟩:=h;exact⟨B.has q a ha,n a ha⟩
theorem Ent.ok.loc {e:Ent}(h:e.ok K H R o)(hH:∀a∈e.fp o,H' a=H a)(hR:au R R')(hn:∀a∈e.fp o,R' a=none):e.ok K H' R' o:=by
 cases e with
 | no=>trivial
 | im r y=>let⟨v,e,q⟩:=h;exact⟨v,e,r.mono hR q⟩
 | mu r xs=>
   let⟨a,vs,e,q,n,p⟩:=h;let ha:a∈Ent.fp (.mu r xs) o:=cq.mpr e;exact⟨a,vs,e,(hH a ha).trans q,hn a ha,Paired.map (λ_ _=>r.mono hR) p⟩
 | di kvs=>
   let⟨a,e,q,n⟩:=h;let ha:a∈Ent.fp (.di kvs) o:=cq.mpr e;exact⟨a,e,(hH a ha).trans q,hn a ha⟩
 | ob B=>let⟨⟨v,e,q⟩,n⟩:=h;exact⟨⟨v,e,B.loc hH hR q⟩,hn⟩
theorem Ent.ok.grow {e:Ent}(h:e.ok K H R o)(x:Ext H R H' R'):e.ok K H' R' o:=by
 refine h.loc (λa ha=>?_) x.r (λa ha=>?_)
 ·cases q:H a with
  | none=>exact XE q (Ent.fE h ha).1
  | some u=>exact x.h _ _ q
 ·let⟨h1,h2⟩:=Ent.fE h ha;exact(x.old a h1).trans h2
theorem ar.grow (E:`C)(x:Ext H R H' R'):ar K σ H0 R0 H' R' Z:=
 ⟨E.ext.trans x,λi e h=>(E.ent i e h).grow x,E.nw,E.ds,E.len⟩
theorem ar.sub (E:`C):au R H:=E.ext.s
def Off (a:Addr)(σ:St)(Z:Ga):Prop:=∀(i:Nat)(e:Ent),Z[i]?∣e->a∉e.fp (σ[i]?).join
theorem ar.off (E:`C)(h:H a=none):Off a σ Z:=λi e q w=>(Ent.fE (E.ent i e q) w).1 h
theorem set_at.{v}{β:Type v}{l:List β}{i:Nat}{y:β}{j:Nat}{e:β}(q:(l.set i y)[j]?∣e):(j=i/\e=y/\i<l.length)∨(j≠i/\l[j]?∣e):=by
 by_cases hj:j=i
 ·subst hj;let hl:j<l.length:=by
   have:=R6.mp q;simpa using this.1
  rw[Sh hl] at q;exact .inl ⟨rfl,(Option.some.inj q).symm,hl⟩
 ·rw[SF (UT hj)] at q;exact .inr ⟨hj,q⟩
theorem ar.setG (E:`C)(i:Nat)(ho:en.ok K H R (some v))(h0:∀a∈en.fp (some v),H0 a=none)(hf:∀a∈en.fp (some v),∀(j:Nat)(e:Ent),j≠i->Z[j]?∣e->a∉e.fp (σ[j]?).join):
 ar K (σ.set i (some v)) H0 R0 H R (Z.set i en):=by
 let key:∀(j:Nat)(e:Ent),(Z.set i en)[j]?∣e->(j=i/\e=en/\((σ.set i (some v))[j]?).join∣v)∨(j≠i/\Z[j]?∣e/\(σ.set i (some v))[j]?=σ[j]?):=λj e q=>by
  obtain⟨rfl,rfl,hl⟩ | ⟨hj,q⟩:=set_at q
  ·exact .inl ⟨rfl,rfl,by rw[Sh (by rw[← E.len];exact hl)];rfl⟩
  ·exact .inr ⟨hj,q,SF (UT hj)⟩
 refine⟨E.ext,λj e q=>?_,λj e a q w=>?_,λj k e e' a q q' w w'=>?_,by rw[SR,SR];exact E.len⟩
 ·obtain⟨_,rfl,q2⟩ | ⟨_,q1,q2⟩:=key j e q
  ·rw[q2];exact ho
  ·rw[q2];exact E.ent j e q1
 ·obtain⟨_,rfl,q2⟩ | ⟨_,q1,q2⟩:=key j e q
  ·rw[q2] at w;exact h0 a w
  ·rw[q2] at w;exact E.nw j e a q1 w
 ·obtain⟨hj,rfl,q2⟩ | ⟨hj,q1,q2⟩:=key j e q
  ·obtain⟨hk,rfl,q2'⟩ | ⟨hk,Y2,q2'⟩:=key k e' q'
   ·rw[hj,hk]
   ·rw[q2] at w;rw[q2'] at w';exact XE w' (hf a w k e' hk Y2)
  ·obtain⟨hk,rfl,q2'⟩ | ⟨hk,Y2,q2'⟩:=key k e' q'
   ·rw[q2] at w;rw[q2'] at w';exact XE w (hf a w' j e hj q1)
   ·rw[q2] at w;rw[q2'] at w';exact E.ds j k e e' a q1 Y2 w w'
theorem ar.set (E:`C)(i:Nat){v:V}{x:α}(h:r.R K R v x):ar K (σ.set i (some v)) H0 R0 H R (Z.set i (.im r x)):=
 E.setG i ⟨v,rfl,h⟩ (λa w=>by cases w) λa w=>by cases w
theorem ar.yk (E:`C)(i:Nat){u:HO}(ho:en.ok K H R (some (.ref a)))(h0:H0 a=none)(hf:∀(j:Nat)(e:Ent),j≠i->Z[j]?∣e->a∉e.fp (σ[j]?).join)(hfp:en.fp (some (.ref a))=[a]:=by rfl):
 ar K (σ.set i (some (.ref a))) H0 R0 H R (Z.set i en):=
 E.setG i ho (λb w=>by rw[hfp,Sa] at w;rw[w];exact h0) λb w=>by rw[hfp,Sa] at w;rw[w];exact hf
theorem ar.lu (E:`C){e0:Ent}(hi:Z[i]?∣e0)(ha:a∈e0.fp (σ[i]?).join)(ho:en.ok K (L2.upd H a u) R (σ[i]?).join)(Yl:∀b∈en.fp (σ[i]?).join,b∈e0.fp (σ[i]?).join∨(H0 b=none/\Off b σ Z)):ar K σ H0 R0 (L2.upd H a u) R (Z.set i en):=by
 let h0:H0 a=none:=E.nw i e0 a hi ha;let hR:R a=none:=(Ent.fE (E.ent i e0 hi) ha).2;refine⟨⟨λb o q=>?_,E.ext.r,λb o q=>?_,E.ext.old⟩,λj e q=>?_,λj e b q w=>?_,λj k e e' b q q' w w'=>?_,by rw[SR];exact E.len⟩
 ·rw[aF (dt q h0)];exact E.ext.h b o q
 ·rw[aF (dt q hR)];exact E.ext.s b o q
 ·obtain⟨rfl,rfl,_⟩ | ⟨hj,q1⟩:=set_at q
  ·exact ho
  ·refine(E.ent j e q1).loc (λb hb=>aF λz=>hj ?_) `S λb hb=>(Ent.fE (E.ent j e q1) hb).2;rw[z] at hb;exact E.ds j i e e0 a q1 hi hb ha
 ·obtain⟨rfl,rfl,_⟩ | ⟨hj,q1⟩:=set_at q
  ·obtain z | z:=Yl b w
   ·exact E.nw _ _ b hi z
   ·exact z.1
  ·exact E.nw j e b q1 w
 ·obtain⟨rfl,rfl,_⟩ | ⟨hj,q1⟩:=set_at q
  ·obtain⟨rfl,rfl,_⟩ | ⟨hk,Y2⟩:=set_at q'
   ·rfl
   ·obtain z | z:=Yl b w
    ·exact E.ds _ _ _ _ b hi Y2 z w'
    ·exact XE w' (z.2 k e' Y2)
  ·obtain⟨rfl,rfl,_⟩ | ⟨hk,Y2⟩:=set_at q'
   ·obtain z | z:=Yl b w'
    ·exact E.ds _ _ _ _ b q1 hi w z
    ·exact XE w (z.2 j e q1)
   ·exact E.ds _ _ _ _ b q1 Y2 w w'
theorem ar.upd (E:`C){e0 en:Ent}(hi:Z[i]?∣e0)(w0:e0.own=true)(ha:(σ[i]?).join∣.ref a)(hR:R a=none)(ho:en.ok K (L2.upd H a u) R (some (.ref a)))(hfp:en.fp (some (.ref a))=[a]:=by rfl):
 ar K σ H0 R0 (L2.upd H a u) R (Z.set i en):=
 E.lu hi ((Ent.tD w0).mpr ha) (by rw[ha];exact ho) λb w=>.inl (by rw[ha,hfp,Sa] at w;rw[w];exact(Ent.tD w0).mpr ha)
theorem ar.sG (E:`C)(ha:H a∣u)(hR:R a=none)(h0:H0 a=none)(off:Off a σ Z):ar K σ H0 R0 H (L2.upd R a u) Z:=by
 let s2:au R (L2.upd R a u):=au.fresh hR _;refine⟨⟨E.ext.h,E.ext.r.trans s2,λb o qb=>?_,λb hb=>?_⟩,λi e qe=>?_,E.nw,E.ds,E.len⟩
 ·by_cases hb:b=a
  ·subst hb;rw[aD] at qb;cases qb;exact ha
  ·rw[aF hb] at qb;exact E.ext.s b o qb
 ·rw[aF (show b≠a from λe=>hb (by rw[e];exact h0))];exact E.ext.old b hb
 ·refine(E.ent i e qe).loc (λ_ _=>rfl) s2 λb hb=>?_;rw[aF (show b≠a from λz=>off i e qe (z▸hb))];exact(Ent.fE (E.ent i e qe) hb).2
theorem ar.tell (E:`C){e0:Ent}(hi:Z[i]?∣e0)(ho:en.ok K H R (σ[i]?).join)(Yl:∀b∈en.fp (σ[i]?).join,b∈e0.fp (σ[i]?).join):ar K σ H0 R0 H R (Z.set i en):=by
 refine⟨E.ext,λj e q=>?_,λj e b q w=>?_,λj k e e' b q q' w w'=>?_,by rw[SR];exact E.len⟩
 ·obtain⟨rfl,rfl,_⟩ | ⟨hj,q1⟩:=set_at q
  ·exact ho
  ·exact E.ent j e q1
 ·obtain⟨rfl,rfl,_⟩ | ⟨hj,q1⟩:=set_at q
  ·exact E.nw _ _ b hi (Yl b w)
  ·exact E.nw j e b q1 w
 ·obtain⟨rfl,rfl,_⟩ | ⟨hj,q1⟩:=set_at q
  ·obtain⟨rfl,rfl,_⟩ | ⟨hk,Y2⟩:=set_at q'
   ·rfl
   ·exact E.ds _ _ _ _ b hi Y2 (Yl b w) w'
  ·obtain⟨rfl,rfl,_⟩ | ⟨hk,Y2⟩:=set_at q'
   ·exact E.ds _ _ _ _ b q1 hi w (Yl b w')
   ·exact E.ds _ _ _ _ b q1 Y2 w w'
noncomputable def Wk:Ga->Ga->Prop
 | [],[]=>True
 | e::r,e'::r'=>(e'=e∨e'= .no)/\Wk r r'
 | _,_=>False
theorem Wk.len:∀{Z Γ':Ga},Wk Z Γ'->Γ'.length=Z.length
 | [],[],_=>rfl
 | _::_,_::_,h=>by rw[Si,Si,Wk.len h.2]
theorem Wk.at:∀{Z Γ':Ga},Wk Z Γ'->∀(i:Nat)(e:Ent),Γ'[i]?∣e->e= .no∨Z[i]?∣e
 | [],[],_,i,e,q=>by simp at q
 | a::_,b::_,h,0,e,q=>by
   simp at q;obtain z | z:=h.1
   ·right;simp[← q,z]
   ·left;rw[← q,z]
 | a::r,b::r',h,i+1,e,q=>by
   simp at q;have:=Wk.at h.2 i e q;simpa using this
theorem Wk.refl:∀Z:Ga,Wk Z Z
 | []=>trivial
 | _::r=>⟨.inl rfl,Wk.refl r⟩
theorem ar.weak (E:`C)(w:Wk Z Γ'):ar K σ H0 R0 H R Γ':=by
 refine⟨E.ext,λi e q=>?_,λi e a q z=>?_,λi j e e' a q q' z z'=>?_,w.len.trans E.len⟩
 ·obtain rfl | q:=w.at i e q
  ·trivial
  ·exact E.ent i e q
 ·obtain rfl | q:=w.at i e q
  ·cases z
  ·exact E.nw i e a q z
 ·obtain rfl | q:=w.at i e q
  ·cases z
  ·obtain rfl | q':=w.at j e' q'
   ·cases z'
   ·exact E.ds i j e e' a q q' z z'
end
variable {Γ1 Γ2 Γ3:Ga}{β γ:Type}{pos:Pos}{j:Nat}{n:Int}{b c:Expr}{op:CmpOp}{x:Str}{ys:`u}{ra:Rep α}{rb:Rep β}{rc:Rep γ}{z:γ}
section
def EV (X:Cx)(e:Expr)(Z:Ga){α:Type}(r:Rep α)(y:α)(Γ':Ga):Prop:=
 ∀(σ:St)(H0 R0 H R:Hp),ar X.K σ H0 R0 H R Z->∀Q:VK,(∀v H' R',ar X.K σ H0 R0 H' R' Γ'->au R R'->r.R X.K R' v y->Q v H')->fU X e σ H Q
def ba (X:Cx)(e:Expr)(Z:Ga){α:Type}(r:Rep α)(ys:`u)(Γ':Ga):Prop:=
 ∀(σ:St)(H0 R0 H R:Hp),ar X.K σ H0 R0 H R Z->∀Q:VK,(∀a vs H' R',ar X.K σ H0 R0 H' R' Γ'->au R R'->H' a∣.lst vs->R' a=none->H0 a=none->Off a σ Γ'->PySem.Paired (r.R X.K R') vs ys->ys.length<=U9->Q (.ref a) H')->fU X e σ H Q
def TV (X:Cx)(e:Expr)(Z:Ga)(b:Bool)(Γ':Ga):Prop:=
 ∀(σ:St)(H0 R0 H R:Hp),ar X.K σ H0 R0 H R Z->∀Q:Bool->Hp->Prop,(∀H' R',ar X.K σ H0 R0 H' R' Γ'->au R R'->Q b H')->FC X e σ H Q
def TW (X:Cx)(e:Expr)(Z:Ga)(b:Bool)(Γ':Ga):Prop:=
 ∀(σ:St)(H0 R0 H R:Hp),ar X.K σ H0 R0 H R Z->∀Q:Bool->Hp->Prop,(∀H' R',ar X.K σ H0 R0 H' R' Γ'->au R R'->Q b H')->F8 X e σ H Q
def TF (X:Cx)(es:RE)(Z:Ga)(b:Bool)(Γ':Ga):Prop:=
 ∀(σ:St)(H0 R0 H R:Hp),ar X.K σ H0 R0 H R Z->∀Q:Bool->Hp->Prop,(∀H' R',ar X.K σ H0 R0 H' R' Γ'->au R R'->Q b H')->oS X es σ H Q
def BG (X:Cx)(tg:Expr){α:Type}(r:Rep α)(bf:α->Ga->Ga):Prop:=
 ∀(σ:St)(H0 R0 H R:Hp)(Z:Ga)(v:V)(x:α),ar X.K σ H0 R0 H R Z->r.R X.K R v x->∀Q:St->Hp->Prop,(∀σ',ar X.K σ' H0 R0 H R (bf x Z)->Q σ' H)->nJ X tg v σ H Q
abbrev RT:=Hp->V->Hp->Hp->Prop
def WS (X:Cx)(YG:List Stmt)(Z:Ga)(N:Ga->Prop)(T:RT):Prop:=
 ∀(σ:St)(H0 R0 H R:Hp),ar X.K σ H0 R0 H R Z->∀D:Ends,(∀σ' H' R' Γ',ar X.K σ' H0 R0 H' R' Γ'->au R R'->N Γ'->D.nx σ' H')->(∀v H' R',Ext H0 R0 H' R'->T H0 v H' R'->D.rt v H')->vF X YG D σ H
def W1 (X:Cx)(st:Stmt)(Z:Ga)(N:Ga->Prop)(T:RT):Prop:=
 ∀(σ:St)(H0 R0 H R:Hp),ar X.K σ H0 R0 H R Z->∀D:Ends,(∀σ' H' R' Γ',ar X.K σ' H0 R0 H' R' Γ'->au R R'->N Γ'->D.nx σ' H')->(∀v H' R',Ext H0 R0 H' R'->T H0 v H' R'->D.rt v H')->FO X st D σ H
def cR (K:Xh){β:Type}(r:Rep β)(P:β->Prop):RT:=λ_ v _ R'=>∃y,r.R K R' v y/\P y
def Dt (K:Xh){β:Type}(r:Rep β)(P:List β->Prop):RT:=λH0 v H' R'=>∃a vs ys,v= .ref a/\H0 a=none/\H' a∣.lst vs/\R' a=none/\PySem.Paired (r.R K R') vs ys/\ys.length<=U9/\P ys
theorem ba.im (h:ba X e Z r ys Γ1):EV X e Z (ae r) ys Γ1:=by
 intro σ H0 R0 H R E Q q;refine h σ H0 R0 H R E Q λa vs H' R' E' s1 ha hR h0 off p z=>?_;let s2:au R' (upd R' a (.lst vs)):=au.fresh hR _;exact q (.ref a) H' (upd R' a (.lst vs)) (E'.sG ha hR h0 off) `E ⟨a,vs,rfl,aD,Paired.map (λ_ _=>r.mono s2) p,z⟩
theorem EV.cast {y y':α}(h:EV X e Z r y Γ1)(e1:y=y'):EV X e Z r y' Γ1:=e1▸h
theorem TV.cast {b b':Bool}(h:TV X e Z b Γ1)(e1:b=b'):TV X e Z b' Γ1:=e1▸h
theorem aa (i:Nat){x:Str}{y:α}(hΓ:Z[i]?∣.im r y)(hN:`o):EV X (.Name x pos) Z r y Z:=by
 intro σ H0 R0 H R E Q q;let⟨v,e,h⟩:=E.ent i _ hΓ;refine eS (aV hN) ⟨v,?_,q v H R E `S h⟩;cases es:σ[i]? with
 | none=>rw[es] at e;cases e
 | some o=>rw[es] at e;exact congrArg some e
theorem ev_int {i:Int}:EV X (.Constant (.int i) j pos) Z ag i Z:=λ_ _ _ _ _ E _ q=>eS wL (q _ _ _ E `S rfl)
theorem jK {b:Bool}:EV X (.Constant (.bool b) j pos) Z dc b Z:=λ_ _ _ _ _ E _ q=>eS AQ (q _ _ _ E `S rfl)
theorem fT {x:Str}{t:Tok}(hm:X.mg x∣.int n t)(hg:Gl X x:=by rfl)(hd:YJ x:=by decide):EV X (.Name x pos) Z ag n Z:=
 λ_ _ _ _ _ E _ q=>eS (jI (v:=.int n) hg hm ⟨t,rfl⟩ hd) (q (.int n) _ _ E `S rfl)
theorem kI {op:Operator}{r2:R2}{a:Expr}{x:α}{y:β}(ho:fm X (VE op) r2)(ha:EV X a Z ra x Γ1)(hb:EV X b Γ1 rb y Γ2)(hz:∀(R:Hp) v u H Q,ra.R X.K R v x->rb.R X.K R u y->(∀w,rc.R X.K R w z->Q w H)->r2 v u H Q):EV X (.BinOp a op b pos) Z rc z Γ2:=by
 intro σ H0 R0 H R E Q q;refine eS (Gs ho aN aN) `l;exact hz R2 v u H2 _ (ra.mono s2 e1) e2 λw hw=>q w H2 R2 E2 `E hw
section
variable {a:Expr}{x y z:Int}
theorem bR (ha:EV X a Z ag x Γ1)(hb:EV X b Γ1 ag y Γ2):EV X (.BinOp a .Add b pos) Z ag (x+y) Γ2:=kI Mu ha hb λR v u H Q e1 e2 q=>⟨x,y,e1,e2,q _ rfl⟩
theorem gy (ha:EV X a Z ag x Γ1)(hb:EV X b Γ1 ag y Γ2):EV X (.BinOp a .Sub b pos) Z ag (x-y) Γ2:=kI LU ha hb λR v u H Q e1 e2 q=>⟨x,y,e1,e2,q _ rfl⟩
theorem JM (ha:EV X a Z ag x Γ1)(hb:EV X b Γ1 ag y Γ2)(h:A0 x y):EV X (.BinOp a .Mult b pos) Z ag (x*y) Γ2:=kI MC ha hb λR v u H Q e1 e2 q=>⟨x,y,e1,e2,h,q _ rfl⟩
theorem c6 (ha:EV X a Z ag x Γ1)(hb:EV X b Γ1 ag y Γ2)(h:0<y):EV X (.BinOp a .Mod b pos) Z ag (x%y) Γ2:=kI Lg ha hb λR v u H Q e1 e2 q=>⟨x,y,e1,e2,h,q _ rfl⟩
theorem mO (ha:EV X a Z ag x Γ1)(hb:EV X b Γ1 ag y Γ2)(h:Lj x y):EV X (.BinOp a .FloorDiv b pos) Z ag (x/y) Γ2:=kI Ib ha hb λR v u H Q e1 e2 q=>⟨x,y,e1,e2,h,q _ rfl⟩
theorem xP (ha:EV X a Z ag x Γ1)(hb:EV X b Γ1 ag y Γ2)(h:K6 x y):EV X (.BinOp a .Pow b pos) Z ag (x ^ y.toNat) Γ2:=kI L4 ha hb λR v u H Q e1 e2 q=>⟨x,y,e1,e2,h,q _ rfl⟩
theorem bS (ha:EV X a Z ag x Γ1):EV X (.UnaryOp .USub a pos) Z ag (-x) Γ1:=by
 intro σ H0 R0 H R E Q q;exact eS (Ow Kt aN) (ha σ H0 R0 H R E _ λv H1 R1 E1 s1 e1=>⟨x,e1,q _ H1 R1 E1 s1 rfl⟩)
end
structure iU (X:Cx)(op:CmpOp){α β:Type}(ra:Rep α)(rb:Rep β)(x:α)(y:β)(k:Bool):Prop where
 r2:∃r,fm X (Vk op) r/\∀(R H:Hp) v u Q,au R H->ra.R X.K R v x->rb.R X.K R u y->Q (.bl k) H->r v u H Q
theorem jt {a:Expr}{x:α}{y:β}{k:Bool}(c:iU X op ra rb x y k)(ha:EV X a Z ra x Γ1)(hb:EV X b Γ1 rb y Γ2)(hm:Vx op b=false:=by first | exact sT _ | with_unfolding_all rfl):
 EV X (.Compare a [op] [b] pos) Z dc k Γ2:=by
 let⟨r,ho,hr⟩:=c.r2;intro σ H0 R0 H R E Q q;refine eS (Jz ho aN aN hm) `l;exact hr R2 H2 v u _ E2.sub (ra.mono s2 e1) e2 (q _ H2 R2 E2 `E rfl)
theorem ay {a:Expr}{x:α}{y:β}{k:Bool}(c:iU X op ra rb x y k)(ha:EV X a Z ra x Γ1)(hb:EV X b Γ1 rb y Γ2)(hm:Vx op b=false:=by first | exact sT _ | with_unfolding_all rfl):
 TV X (.Compare a [op] [b] pos) Z k Γ2:=by
 let⟨r,ho,hr⟩:=c.r2;intro σ H0 R0 H R E Q q;refine tS (Io ho aN aN hm) `l;exact hr R2 H2 v u _ E2.sub (ra.mono s2 e1) e2 ⟨k,rfl,q H2 R2 E2 `E⟩
section
variable {x y:Int}
theorem nO:iU X .Lt ag ag x y (decide (x<y)):=⟨_,OF,λR H v u Q _ e1 e2 q=>⟨x,y,e1,e2,q⟩⟩
theorem xB:iU X .LtE ag ag x y (decide (x<=y)):=⟨_,N8,λR H v u Q _ e1 e2 q=>⟨x,y,e1,e2,q⟩⟩
theorem iL:iU X .Gt ag ag x y (decide (y<x)):=⟨_,Nf,λR H v u Q _ e1 e2 q=>⟨x,y,e1,e2,q⟩⟩
theorem Mw:iU X .GtE ag ag x y (decide (y<=x)):=⟨_,MN,λR H v u Q _ e1 e2 q=>⟨x,y,e1,e2,q⟩⟩
theorem gi:iU X .Eq ag ag x y (decide (x=y)):=⟨_,GB,λR H v u Q _ e1 e2 q=>by
 cases e1;cases e2
 exact⟨rfl,by rw[show decide (V.int x=V.int y)=decide (x=y) by rw[pB];exact RL x y];exact q⟩⟩
theorem EK:iU X .NotEq ag ag x y (!decide (x=y)):=⟨_,AU,λR H v u Q _ e1 e2 q=>by
 cases e1;cases e2
 exact⟨rfl,by rw[show decide (V.int x=V.int y)=decide (x=y) by rw[pB];exact RL x y];exact q⟩⟩
theorem vE {x y:Bool}:iU X .NotEq dc dc x y (!decide (x=y)):=⟨_,AU,λR H v u Q _ e1 e2 q=>by
 cases e1;cases e2
 exact⟨rfl,by rw[show decide (V.bl x=V.bl y)=decide (x=y) by rw[yo];exact RL x y];exact q⟩⟩
end
variable {a:Expr}{x:Bool}{y:Bool}{rest:RE}
theorem qZ {Zv:CmpOp}{x:α}{y:β}{k k':Bool}(c1:iU X op ra rb x y k)(c2:iU X Zv rb rc y z k')(ha:EV X a Z ra x Z)(hb:EV X b Z rb y Z)(hc:EV X c Z rc z Z)(hm:lastMarks [op,Zv] [b,c]=false:=by with_unfolding_all rfl):EV X (.Compare a [op,Zv] [b,c] pos) Z dc (k&&k') Z:=by
 let⟨r,ho,hr⟩:=c1.r2;let⟨r',Ze,YW⟩:=c2.r2;intro σ H0 R0 H R E Q q;refine eS (Eh ho Ze aN aN aN hm) `l;refine hr R2 H2 v u _ E2.sub (ra.mono s2 e1) e2 ⟨k,rfl,?_⟩;cases k with
 | false=>exact ow (q _ H2 R2 E2 `E rfl)
 | true=>exact oC (hc σ H0 R0 H2 R2 E2 _ λw H3 R3 E3 s3 e3=>YW R3 H3 u w _ E3.sub (rb.mono s3 e2) e3 (q _ H3 R3 E3 (s1.trans (s2.trans s3)) rfl))
theorem EE {Zv:CmpOp}{x:α}{y:β}{k k':Bool}(c1:iU X op ra rb x y k)(c2:iU X Zv rb rc y z k')(ha:EV X a Z ra x Z)(hb:EV X b Z rb y Z)(hc:EV X c Z rc z Z)(hm:lastMarks [op,Zv] [b,c]=false:=by with_unfolding_all rfl):TV X (.Compare a [op,Zv] [b,c] pos) Z (k&&k') Z:=by
 let⟨r,ho,hr⟩:=c1.r2;let⟨r',Ze,YW⟩:=c2.r2;intro σ H0 R0 H R E Q q;refine tS (Ec ho Ze aN aN aN hm) `l;refine hr R2 H2 v u _ E2.sub (ra.mono s2 e1) e2 ⟨k,rfl,?_⟩;cases k with
 | false=>exact ow ⟨false,rfl,q H2 R2 E2 `E⟩
 | true=>exact oC (hc σ H0 R0 H2 R2 E2 _ λw H3 R3 E3 s3 e3=>YW R3 H3 u w _ E3.sub (rb.mono s3 e2) e3 ⟨k',rfl,q H3 R3 E3 (s1.trans (s2.trans s3))⟩)
theorem tE {op:BoolOp}{x:α}(h:EV X a Z r x Γ1):EV X (.BoolOp op [a] pos) Z r x Γ1:=λσ H0 R0 H R E Q q=>eS (Ke aN) (h σ H0 R0 H R E Q q)
theorem oz (ha:EV X a Z dc x Z)(hb:x=true->EV X (.BoolOp .And (b::rest) pos) Z dc y Z):EV X (.BoolOp .And (a::b::rest) pos) Z dc (x&&y) Z:=by
 intro σ H0 R0 H R E Q q;refine eS (Ko aN aN) (ha σ H0 R0 H R E _ λv H1 R1 E1 s1 e1=>⟨x,e1,?_⟩);cases x with
 | false=>exact ow (q _ H1 R1 E1 s1 rfl)
 | true=>exact oC (hb rfl σ H0 R0 H1 R1 E1 _ λw H3 R3 E3 s3 e3=>q w H3 R3 E3 (s1.trans s3) e3)
theorem wu (ha:EV X a Z dc x Γ1):EV X (.UnaryOp .Not a pos) Z dc (!x) Γ1:=by
 intro σ H0 R0 H R E Q q;exact eS (Kv aN) (ha σ H0 R0 H R E _ λv H1 R1 E1 s1 e1=>⟨x,e1,q _ H1 R1 E1 s1 rfl⟩)
theorem gz (ha:TV X a Z x Γ1):TV X (.UnaryOp .Not a pos) Z (!x) Γ1:=by
 intro σ H0 R0 H R E Q q;exact tS (Lb tN) (ha σ H0 R0 H R E _ λH1 R1 E1 s1=>q H1 R1 E1 s1)
theorem TW.tv {b:Bool}(h:TW X e Z b Γ1):TV X e Z b Γ1:=λσ H0 R0 H R E Q q=>tS (La.pt) (h σ H0 R0 H R E Q q)
theorem eK (ha:TV X a Z x Γ1):TW X (.BoolOp .And [a] pos) Z x Γ1:=λσ H0 R0 H R E Q q=>wS (Hz tN) (ha σ H0 R0 H R E Q q)
theorem jb (ha:TV X a Z x Γ1):TW X (.BoolOp .Or [a] pos) Z x Γ1:=λσ H0 R0 H R E Q q=>wS (Mb tN) (ha σ H0 R0 H R E Q q)
theorem cZ (ha:TV X a Z x Z)(hb:x=true->TW X (.BoolOp .And (b::rest) pos) Z y Z):TW X (.BoolOp .And (a::b::rest) pos) Z (x&&y) Z:=by
 intro σ H0 R0 H R E Q q;refine wS (LO tN La) (ha σ H0 R0 H R E _ λH1 R1 E1 s1=>?_);cases x with
 | false=>exact ow (q H1 R1 E1 s1)
 | true=>exact oC (hb rfl σ H0 R0 H1 R1 E1 _ λH3 R3 E3 s3=>q H3 R3 E3 (s1.trans s3))
theorem jd (ha:TV X a Z x Z)(hb:x=false->TW X (.BoolOp .Or (b::rest) pos) Z y Z):TW X (.BoolOp .Or (a::b::rest) pos) Z (x ||y) Z:=by
 intro σ H0 R0 H R E Q q;refine wS (MT tN La) (ha σ H0 R0 H R E _ λH1 R1 E1 s1=>?_);cases x with
 | true=>exact oC (q H1 R1 E1 s1)
 | false=>exact ow (hb rfl σ H0 R0 H1 R1 E1 _ λH3 R3 E3 s3=>q H3 R3 E3 (s1.trans s3))
theorem bV {k:Bool}(ha:EV X a Z dc k Γ1)(he:∀whole,VL a X.env whole=(do let v ← whole;VR a.pos;Vu [v] (truthy v)):=by intro _;rfl):TV X a Z k Γ1:=by
 intro σ H0 R0 H R E Q q;exact tS (Lm aN he) (ha σ H0 R0 H R E _ λv H1 R1 E1 s1 e1=>⟨k,e1,q H1 R1 E1 s1⟩)
theorem dy:TF X [] Z true Z:=λσ H0 R0 H R E Q q=>fS JF (q H R E `S)
theorem ic {b:Bool}(h:TV X c Z b Γ1):TF X [c] Z b Γ1:=λσ H0 R0 H R E Q q=>fS (JP tN) (h σ H0 R0 H R E Q q)
theorem lY {k:Bool}{x y:α}(hc:TV X c Z k Γ1)(ha:k=true->EV X a Γ1 r x Γ2)(hb:k=false->EV X b Γ1 r y Γ2):EV X (.IfExp c a b pos) Z r (if k then x else y) Γ2:=by
 intro σ H0 R0 H R E Q q;refine eS (FF tN aN aN) (hc σ H0 R0 H R E _ λH1 R1 E1 s1=>?_);cases k with
 | true=>exact oC (ha rfl σ H0 R0 H1 R1 E1 _ λv H3 R3 E3 s3 e3=>q v H3 R3 E3 (s1.trans s3) e3)
 | false=>exact ow (hb rfl σ H0 R0 H1 R1 E1 _ λv H3 R3 E3 s3 e3=>q v H3 R3 E3 (s1.trans s3) e3)
end
variable {δ:Type}{es:RE}{xs:`u}{p1 p2:Pos}{r':Rep β}{F:α->β->Prop}
section
variable {i:Int}{a:Expr}{x:α}
structure Pk:Type 1 where
 {α:Type}
 r:Rep α
 x:α
inductive mm (K:Xh) (R:Hp):List V->List Pk->Prop
 | nil:mm K R [] []
 | cons {v:V} {vs:`P} {p:Pk} {ps:List Pk}:p.r.R K R v p.x->mm K R vs ps->mm K R (v::vs) (p::ps)
def HA (X:Cx)(es:RE)(Z:Ga)(ps:List Pk)(Γ':Ga):Prop:=
 ∀(σ:St)(H0 R0 H R:Hp),ar X.K σ H0 R0 H R Z->∀Q:List V->Hp->Prop,(∀vs H' R',ar X.K σ H0 R0 H' R' Γ'->au R R'->mm X.K R' vs ps->Q vs H')->Bi X es σ H Q
theorem ax:HA X [] Z [] Z:=λσ H0 R0 H R E Q q=>aS br (q [] H R E `S .nil)
theorem ah {ps:List Pk}(he:EV X e Z r x Γ1)(hr:HA X es Γ1 ps Γ2)(hs:dq X e es:=by rfl):HA X (e::es) Z (⟨r,x⟩::ps) Γ2:=by
 intro σ H0 R0 H R E Q q;refine aS (aI aN lU hs) (he σ H0 R0 H R E _ λv H1 R1 E1 s1 e1=>hr σ H0 R0 H1 R1 E1 _ λvs H2 R2 E2 s2 e2=>?_);exact q (v::vs) H2 R2 E2 `E (.cons (r.mono s2 e1) e2)
def EA (X:Cx)(es:RE)(Z:Ga){α:Type}(r:Rep α)(ys:`u)(Γ':Ga):Prop:=
 ∀(σ:St)(H0 R0 H R:Hp),ar X.K σ H0 R0 H R Z->∀Q:List V->Hp->Prop,(∀vs H' R',ar X.K σ H0 R0 H' R' Γ'->au R R'->PySem.Paired (r.R X.K R') vs ys->Q vs H')->Bi X es σ H Q
theorem aM:EA X [] Z r [] Z:=λσ H0 R0 H R E Q q=>aS br (q [] H R E `S .nil)
theorem ak (he:EV X e Z r x Γ1)(hr:EA X es Γ1 r ys Γ2)(hs:dq X e es:=by rfl):EA X (e::es) Z r (x::ys) Γ2:=by
 intro σ H0 R0 H R E Q q;refine aS (aI aN lU hs) (he σ H0 R0 H R E _ λv H1 R1 E1 s1 e1=>hr σ H0 R0 H1 R1 E1 _ λvs H2 R2 E2 s2 e2=>?_);exact q (v::vs) H2 R2 E2 `E (.cons (r.mono s2 e1) e2)
theorem aP (h:EA X es Z r ys Γ1)(hz:ys.length<=U9):ba X (.List es pos) Z r ys Γ1:=by
 intro σ H0 R0 H R E Q q;refine eS (sE lU) (h σ H0 R0 H R E _ λvs H1 R1 E1 s1 p1=>⟨by rw[p1.length];exact hz,λp hp=>?_⟩);exact q p vs _ R1 (E1.grow (Ext.d8 E1.sub hp _)) s1 aD (E1.sub.free hp) (E1.ext.h.free hp) (E1.off hp) p1 hz
theorem i7 {k:Nat}{y:β}(h:HA X [a,b] Z [⟨r,x⟩,⟨r',y⟩] Γ1):EV X (.Tuple [a,b] k pos) Z (cQ r r') (x,y) Γ1:=by
 intro σ H0 R0 H R E Q q;refine eS (sr lU) (h σ H0 R0 H R E _ λvs H1 R1 E1 s1 p1=>?_);obtain⟨h1,h2⟩:∃v1 v2,vs=[v1,v2]/\r.R X.K R1 v1 x/\r'.R X.K R1 v2 y:=by
  cases p1 with
  | cons a1 t=>cases t with
    | cons a2 t2=>cases t2;exact⟨_,_,rfl,a1,a2⟩
 let⟨v2,rfl,e1,e2⟩:=h2;refine⟨by show 2<=U9;decide,λp hp=>?_⟩;let s2:au R1 (upd R1 p (.tup [h1,v2])):=au.fresh (E1.sub.free hp) _;exact q _ _ (upd R1 p (.tup [h1,v2])) (E1.grow (Ext.fresh E1.sub hp _)) `E ⟨p,_,_,rfl,aD,r.mono s2 e1,r'.mono s2 e2⟩
theorem Kh {d:Expr}{k:Nat}{x y z w:Int}(h:HA X [a,b,c,d] Z [⟨ag,x⟩,⟨ag,y⟩,⟨ag,z⟩,⟨ag,w⟩] Γ1):EV X (.Tuple [a,b,c,d] k pos) Z dU (x,y,z,w) Γ1:=by
 intro σ H0 R0 H R E Q q;refine eS (sr lU) (h σ H0 R0 H R E _ λvs H1 R1 E1 s1 p1=>?_);let e:vs=[.int x,.int y,.int z,.int w]:=by
  cases p1 with
  | cons a1 t=>cases t with
    | cons a2 t=>cases t with
      | cons a3 t=>cases t with
        | cons a4 t=>cases t;cases a1;cases a2;cases a3;cases a4;rfl
 subst e;refine⟨by show 4<=U9;decide,λp hp=>?_⟩;exact q _ _ (upd R1 p _) (E1.grow (Ext.fresh E1.sub hp _)) (s1.trans (au.fresh (E1.sub.free hp) _)) ⟨p,rfl,aD⟩
theorem fH {F:α->β->Prop}:∀{vs:`u}{xs:List β},PySem.Paired F vs xs->∀{i:Nat}{y:β},xs[i]?∣y->∃v,vs[i]?∣v/\F v y
 | _,_,.nil,i,y,h=>by simp at h
 | _,_,.cons h t,0,y,e=>by simp at e;subst e;exact⟨_,rfl,h⟩
 | _,_,.cons h t,i+1,y,e=>by
   let⟨v,e1,e2⟩:=fH t (i:=i) (y:=y) (~~~e);exact⟨v,by simpa using e1,e2⟩
theorem jf {vs:`u}{xs:List β}(p:PySem.Paired F vs xs){y:β}(h:bX xs i∣y):∃v,bX vs i∣v/\F v y:=by
 unfold bX at h ⊢;rw[p.length];cases e:fL xs.length i with
 | none=>rw[e] at h;cases h
 | some j=>rw[e] at h;exact fH p h
theorem gb (h0:0<=i)(h1:i<xs.length):bX xs i=xs[i.toNat]?:=by
 let e:i=((i.toNat:Nat):Int):=`a
 let hl:i.toNat<xs.length:=`a
 let q:bX xs ((i.toNat:Nat):Int)=some xs[i.toNat]:=Jm (R7 hl);rw[← e] at q;rw[q,R7 hl]
theorem aK {y:α}(ha:EV X a Z (ae r) xs Γ1)(hb:EV X b Γ1 ag i Γ2)(h:bX xs i∣y)(hs:dP b:=by exact λ_ _=>rfl):EV X (.Subscript a b pos) Z r y Γ2:=by
 intro σ H0 R0 H R E Q q;refine eS (iy gT aN aN hs) `l;let⟨p,vs,rfl,ha,pp,z⟩:=(ae r).mono s2 e1;let⟨w,e3,e4⟩:=jf pp h;exact⟨p,vs,i,w,rfl,e2,bw.of (E2.sub _ _ ha),e3,q w H2 R2 E2 `E e4⟩
theorem yv {xs:Rv}{y:Int}(ha:EV X a Z cT xs Γ1)(hb:EV X b Γ1 ag i Γ2)(h:bX xs i∣y)(hs:dP b:=by exact λ_ _=>rfl):EV X (.Subscript a b pos) Z ag y Γ2:=by
 intro σ H0 R0 H R E Q q;refine eS (iy gT aN aN hs) `l;let⟨p,rfl,ha,z⟩:=cT.mono s2 e1;let e3:bX (xs.map V.int) i∣.int y:=by
  unfold bX at h ⊢;rw[R9];cases e:fL xs.length i with
  | none=>rw[e] at h;cases h
  | some j=>
    rw[e] at h;show(xs.map V.int)[j]?=_;rw[Sf,show xs[j]?∣y from h];rfl
 exact⟨p,_,i,_,rfl,e2,E2.sub.seq ha,e3,q _ H2 R2 E2 `E rfl⟩
theorem pj (j:Nat){x:Str}{y:α}(hb:EV X b Z ag i Γ1)(hΓ:Z[j]?∣.mu r xs)(hΓ1:Γ1[j]?∣.mu r xs)(h:bX xs i∣y)(hN:X.N[j]?∣x:=by rfl)(hv:autoParam (Dz X.env.scope x) vA1)(hs:dP b:=by exact λ_ _=>rfl)(hd:YJ x:=by decide)(ZN:Cd0 x:=by decide):EV X (.Subscript `h b pos) Z r y Γ1:=by
 intro σ H0 R0 H R E Q q;let⟨a,vs,e,_,_,_⟩:=E.ent j _ hΓ;refine eS (iy gT (aV ⟨hN,hv,hd,ZN⟩) aN hs) ⟨.ref a,?_,hb σ H0 R0 H R E _ λu H2 R2 E2 s2 e2=>?_⟩
 ·cases es:σ[j]? with
  | none=>rw[es] at e;cases e
  | some o=>rw[es] at e;exact congrArg some e
 ·let⟨a',Yr,e',ha,hR,pp⟩:=E2.ent j _ hΓ1;rw[e] at e';cases e'
  let⟨w,e3,e4⟩:=jf pp h;exact⟨a,Yr,i,w,rfl,e2,bw.of ha,e3,q w H2 R2 E2 s2 e4⟩
section
variable {a:Expr}{w:Row}
theorem m7 {x:α}{y:β}(ha:EV X a Z r x Γ1)(k:∀(R:Hp) v,r.R X.K R v x->∃p vs w,v= .ref p/\R p∣.tup vs/\bX vs n∣w/\r'.R X.K R w y):EV X (.Subscript a (.Constant (.int n) j p1) pos) Z r' y Γ1:=by
 intro σ H0 R0 H R E Q q;refine eS (iy D9 aN wL (λ_ _=>rfl)) `A;let⟨p,vs,w,rfl,hp,e3,e4⟩:=k R1 v e1;exact⟨p,vs,n,w,rfl,rfl,dY.of (E1.sub _ _ hp),e3,q w H1 R1 E1 s1 e4⟩
theorem Aq (ha:EV X a Z dU w Γ1):EV X (.Subscript a (.Constant (.int 0) j p1) pos) Z ag w.1 Γ1:=m7 ha λR v ⟨p,e,h⟩=>⟨p,_,_,e,h,rfl,rfl⟩
theorem Iq (ha:EV X a Z dU w Γ1):EV X (.Subscript a (.Constant (.int 1) j p1) pos) Z ag w.2.1 Γ1:=m7 ha λR v ⟨p,e,h⟩=>⟨p,_,_,e,h,rfl,rfl⟩
theorem zC (ha:EV X a Z dU w Γ1):EV X (.Subscript a (.Constant (.int 2) j p1) pos) Z ag w.2.2.1 Γ1:=m7 ha λR v ⟨p,e,h⟩=>⟨p,_,_,e,h,rfl,rfl⟩
theorem pD (ha:EV X a Z dU w Γ1):EV X (.Subscript a (.Constant (.int 3) j p1) pos) Z ag w.2.2.2 Γ1:=m7 ha λR v ⟨p,e,h⟩=>⟨p,_,_,e,h,rfl,rfl⟩
theorem si {x:α×β}(ha:EV X a Z (cQ r r') x Γ1):EV X (.Subscript a (.Constant (.int 0) j p1) pos) Z r x.1 Γ1:=m7 ha λR v ⟨p,v1,v2,e,h,h1,h2⟩=>⟨p,_,v1,e,h,rfl,h1⟩
theorem h8 {x:α×β}(ha:EV X a Z (cQ r r') x Γ1):EV X (.Subscript a (.Constant (.int 1) j p1) pos) Z r' x.2 Γ1:=m7 ha λR v ⟨p,v1,v2,e,h,h1,h2⟩=>⟨p,_,v2,e,h,rfl,h2⟩
end
variable {a:Expr}
def OV (X:Cx)(e:Option Expr)(Z:Ga)(o:Option Int):Prop:=∃t,PO X e t/\∀(σ:St)(H0 R0 H R:Hp),ar X.K σ H0 R0 H R Z->∀Q:Option Int->Hp->Prop,(∀H' R',ar X.K σ H0 R0 H' R' Z->au R R'->Q o H')->t σ H Q
theorem ov_none:OV X none Z none:=⟨_,za,λσ H0 R0 H R E Q q=>q H R E `S⟩
theorem ov_some {i:Int}(h:EV X e Z ag i Z):OV X (some e) Z (some i):=⟨_,y9 aN,λσ H0 R0 H R E Q q=>h σ H0 R0 H R E _ λv H1 R1 E1 s1 e1=>⟨i,e1,q H1 R1 E1 s1⟩⟩
def cut (xs:`u)(lo hi:Option Int):List α:=(xs.drop (HT.X7 xs.length 0 lo)).take (HT.X7 xs.length xs.length hi-HT.X7 xs.length 0 lo)
theorem mv {F:α->β->Prop}:∀(n:Nat){vs:`u}{xs:List β},PySem.Paired F vs xs->PySem.Paired F (vs.drop n) (xs.drop n)
 | 0,_,_,h=>h
 | _+1,_,_,.nil=>.nil
 | n+1,_,_,.cons _ t=>mv n t
theorem jO {F:α->β->Prop}:∀(n:Nat){vs:`u}{xs:List β},PySem.Paired F vs xs->PySem.Paired F (vs.take n) (xs.take n)
 | 0,_,_,_=>.nil
 | _+1,_,_,.nil=>.nil
 | n+1,_,_,.cons h t=>.cons h (jO n t)
theorem dS {F:α->β->Prop}:∀{vs:`u}{xs:List β}{Yr:`u}{xs':List β},PySem.Paired F vs xs->PySem.Paired F Yr xs'->PySem.Paired F (vs++Yr) (xs++xs')
 | _,_,_,_,.nil,h=>h
 | _,_,_,_,.cons h t,h'=>.cons h (dS t h')
theorem AM (xs:`u)(lo hi:Option Int):(cut xs lo hi).length<=xs.length:=by
 unfold cut;rw[Sx,TJ];cbv
theorem jR {lo hi:Option Expr}{l h:Option Int}(ha:EV X a Z (ae r) xs Z)(hl:OV X lo Z l)(hh:OV X hi Z h):ba X (.Subscript a (.Slice lo hi none p2) pos) Z r (cut xs l h) Z:=by
 intro σ H0 R0 H R E Q q;let⟨tl,pl,kl⟩:=hl;let⟨th,ph,kh⟩:=hh;refine eS (lI Jv aN pl ph) `H;let⟨p,vs,rfl,hp,pp,z⟩:=(ae r).mono (s2.trans s3) e1;refine⟨p,vs,rfl,bw.of (E3.sub _ _ hp),λd hd=>?_⟩;refine q d _ _ R3 (E3.grow (Ext.d8 E3.sub hd _)) (s1.trans (s2.trans s3)) aD (E3.sub.free hd) (E3.ext.h.free hd) (E3.off hd) ?_ (Ux (AM _ _ _) z);unfold cut mz;rw[pp.length];exact jO _ (mv _ pp)
theorem cJ (ha:EV X a Z (ae r) xs Γ1)(hb:EV X b Γ1 (ae r) ys Γ2)(hz:xs.length+ys.length<=U9):ba X (.BinOp a .Add b pos) Z r (xs++ys) Γ2:=by
 intro σ H0 R0 H R E Q q;refine eS (Gs MI aN aN) `l;let⟨p,vs,rfl,hp,pp,z⟩:=(ae r).mono s2 e1;let⟨p',ws,rfl,hp',YM,z'⟩:=e2;refine⟨p,p',vs,ws,rfl,rfl,E2.sub _ _ hp,E2.sub _ _ hp',by rw[pp.length,YM.length];exact hz,λd hd=>?_⟩;exact q d _ _ R2 (E2.grow (Ext.d8 E2.sub hd _)) `E aD (E2.sub.free hd) (E2.ext.h.free hd) (E2.off hd) (dS pp YM) (by rw[Sd];exact hz)
theorem cX {p:Pos}(hm:X.mg "len"=none)(ha:EV X a Z (ae r) xs Γ1)(hs:fW X a:=by rfl)(hg:Gl X "len":=by rfl):EV X `aZ Z ag (xs.length:Int) Γ1:=by
 intro σ H0 R0 H R E Q q;refine eS (eO gM hg hm Vy `bh `c `c hs) `A;let⟨p,vs,rfl,hp,pp,z⟩:=e1;refine⟨p,vs,rfl,.inl (bw.of (E1.sub _ _ hp)),?_⟩;rw[pp.length];exact q _ H1 R1 E1 s1 rfl
theorem pT {p:Pos}{xs:Rv}(hm:X.mg "len"=none)(ha:EV X a Z cT xs Γ1)(hs:fW X a:=by rfl)(hg:Gl X "len":=by rfl):EV X `aZ Z ag (xs.length:Int) Γ1:=by
 intro σ H0 R0 H R E Q q;refine eS (eO gM hg hm Vy `bh `c `c hs) `A;let⟨p,rfl,hp,z⟩:=e1;refine⟨p,_,rfl,.inl (E1.sub.seq hp),?_⟩;rw[R9];exact q _ H1 R1 E1 s1 rfl
end
variable {y:Str}{N:Ga->Prop}{T:RT}{st:Stmt}
theorem JA (w:Wk Z Γ')(h:N Γ'):WS X [] Z N T:=λσ H0 R0 H R E D dn dr=>LC Iv (dn σ H R Γ' (E.weak w) `S h)
theorem aG (h:N Z):WS X [] Z N T:=JA (Wk.refl Z) h
theorem ai {rest:List Stmt}(h:W1 X st Z (λΓ'=>WS X rest Γ' N T) T):WS X (st::rest) Z N T:=λσ H0 R0 H R E D dn dr=>
 LC (EX Qm iC) (h σ H0 R0 H R E {D with nx:=vF X rest D} (λσ' H' R' Γ' E' s' h'=>h' σ' H0 R0 H' R' E' D (λσ2 H2 R2 Γ2 E2 s2=>dn σ2 H2 R2 Γ2 E2 (s'.trans s2)) dr) dr)
theorem aj (h:W1 X st Z N T):WS X [st] Z N T:=λσ H0 R0 H R E D dn dr=>LC (IG Qm) (h σ H0 R0 H R E D dn dr)
theorem bc (i:Nat){y:α}(he:EV X e Z r y Γ1)(h:N (Γ1.set i (.im r y)))(hN:X.N.Nodup:=by first | assumption | decide)(hi:X.N[i]?∣x:=by rfl)(hx:`aj)(hs:Vh e (some `h) pos.line X.env=pure false:=by rfl)(hf:autoParam (fM X x) YU):W1 X (.Assign [.Name x p1] e pos) Z N T:=λσ H0 R0 H R E D dn dr=>
 sS (jV hN hi hx aN hs hf) (he σ H0 R0 H R E _ λv H1 R1 E1 s1 e1=>dn _ H1 R1 _ (E1.set i e1) s1 h)
theorem cD (i:Nat)(he:ba X e Z r ys Γ1)(h:N (Γ1.set i (.mu r ys)))(hN:X.N.Nodup:=by first | assumption | decide)(hi:X.N[i]?∣x:=by rfl)(hx:`aj)(hs:Vh e (some `h) pos.line X.env=pure false:=by rfl)(hf:autoParam (fM X x) YU):W1 X (.Assign [.Name x p1] e pos) Z N T:=λσ H0 R0 H R E D dn dr=>
 sS (jV hN hi hx aN hs hf) (he σ H0 R0 H R E _ λa vs H1 R1 E1 s1 ha hR h0 off p z=>dn _ H1 R1 _ (E1.yk (u:=.lst vs) (en:=.mu r ys) i ⟨a,vs,rfl,ha,hR,p⟩ h0 λj e _ q w=>off j e q w) s1 h)
theorem aX {P:α->Prop}{y:α}(he:EV X e Z r y Γ1)(h:P y):W1 X (.Return (some e) pos) Z N (cR X.K r P):=λσ H0 R0 H R E D dn dr=>
 sS (h9 aN) (he σ H0 R0 H R E _ λv H1 R1 E1 s1 e1=>dr v H1 R1 E1.ext ⟨y,e1,h⟩)
theorem a9 {a b:List Stmt}{k:Bool}(hc:TV X c Z k Γ1)(h1:k=true->WS X a Γ1 N T)(h2:k=false->WS X b Γ1 N T):W1 X (.If c a b pos) Z N T:=λσ H0 R0 H R E D dn dr=>by
 refine sS (OA tN iC iC) (hc σ H0 R0 H R E _ λH1 R1 E1 s1=>?_);cases k with
 | true=>exact oC (h1 rfl σ H0 R0 H1 R1 E1 D (λσ2 H2 R2 Γ2 E2 s2=>dn σ2 H2 R2 Γ2 E2 `E) dr)
 | false=>exact ow (h2 rfl σ H0 R0 H1 R1 E1 D (λσ2 H2 R2 Γ2 E2 s2=>dn σ2 H2 R2 Γ2 E2 `E) dr)
theorem aW (i:Nat)(hN:X.N.Nodup:=by first | assumption | decide)(hi:X.N[i]?∣x:=by rfl)(hx:`aj)(hf:autoParam (fM X x) YU):
 BG X (.Name x pos) r (λy Z=>Z.set i (.im r y)):=λσ H0 R0 H R Z v x E h Q q=>gS (fz hN hi hx hf) (q _ (E.set i h))
theorem eL (i j:Nat){k:Nat}(hc:X.calm=true:=by rfl)(hN:X.N.Nodup:=by first | assumption | decide)(hi:X.N[i]?∣x:=by rfl)(hx:`aj)(hf:autoParam (fM X x) YU)(hj:X.N[j]?∣y:=by rfl)(hy:`aw)(hf':autoParam (X.fn y=true∨X.env.scope.names.lookup y∣.local) YU):
 BG X (.Tuple [.Name x p1,.Name y p2] k pos) (cQ r r') (λw Z=>(Z.set i (.im r w.1)).set j (.im r' w.2)):=λσ H0 R0 H R Z v w E h Q q=>by
 let⟨a,v1,v2,rfl,ha,e1,e2⟩:=h;exact gS (wF hc (fb (fz hN hi hx hf) (fb (fz hN hj hy hf') pJ))) ⟨a,_,rfl,dY.of (E.sub _ _ ha),rfl,v1,[v2],rfl,v2,[],rfl,rfl,q _ ((E.set i e1).set j e2)⟩
variable {body:List Stmt}
section
variable {kvs:List (Int×V)}{y:α}
theorem at_of (e:(σ[i]?).join∣v):σ[i]?∣some v:=by
 cases es:σ[i]? with
 | none=>rw[es] at e;cases e
 | some o=>rw[es] at e;exact congrArg some e
theorem jA (I:Nat->Ga->Prop){m0:Nat}(h0:I m0 Z)(YD:∀(m:Nat)(Z:Ga),I m Z->∃(k:Bool)(Γ':Ga),TV X c Z k Γ'/\(k=true->WS X body Γ' (λΓ''=>∃m',m'<m/\I m' Γ'') T)/\(k=false->N Γ'))(hp:Wa `f X.A X.env X.xe:=by exact Wa.never):W1 X (.While c body [] pos) Z N T:=λσ H0 R0 H R E D dn dr=>by
 refine sS (Fe hp tN iC) ?_;refine⟨λm σ' H'=>∃R' Γ',ar X.K σ' H0 R0 H' R' Γ'/\au R R'/\I m Γ',⟨m0,R,Z,E,au.refl _,h0⟩,?_⟩;rintro m σ' H' ⟨R',Γ',E',s',hI⟩;let⟨k,Γ2,ht,h1,h2⟩:=YD m Γ' hI;refine ht σ' H0 R0 H' R' E' _ λH1 R1 E1 s1=>?_;cases k with
 | true=>
   refine oC ⟨_,λσ2 H2 h=>h,h1 rfl σ' H0 R0 H1 R1 E1 _ (λσ3 H3 R3 Γ3 E3 s3 h3=>?_) dr⟩;let⟨m',hm,hI'⟩:=h3;exact⟨m',hm,R3,Γ3,E3,s'.trans (s1.trans s3),hI'⟩
 | false=>exact ow (dn σ' H1 R1 Γ2 E1 (s'.trans s1) (h2 rfl))
theorem eQ (i:Nat){ap cp:Pos}(he:EV X e Z r y Γ1)(hΓ:`aB)(hΓ1:Γ1[i]?∣.mu r xs)(hz:xs.length<U9)(h:N (Γ1.set i (.mu r (xs++[y]))))(hN:`o)(Yn:Vh `y none pos.line X.env=pure false:=by rfl)(X0:fh X `h "append":=by rfl)(Yf:l7 X cp [e]:=by rfl)(XZ:`Z=true:=by rfl)(hs:dq X e []:=by rfl):W1 X (.Expr `y pos) Z N T:=λσ H0 R0 H R E D dn dr=>by
 let⟨a,vs,ea,ha,hR,pp⟩:=E.ent i _ hΓ;refine sS (dQ `ac Yn) ?_;refine⟨.ref a,at_of ea,.inl ⟨rfl,vs,bw.of ha⟩,he σ H0 R0 H R E _ λv H1 R1 E1 s1 e1=>?_⟩;let⟨a',Yr,Yq,YE,Yu,YM⟩:=E1.ent i _ hΓ1;rw[ea] at Yq;cases Yq
 refine⟨a,Yr,v,rfl,rfl,YE,by rw[YM.length];exact hz,?_⟩;exact dn σ _ R1 _ (E1.upd (en:=.mu r (xs++[y])) hΓ1 rfl ea Yu ⟨a,_,rfl,aD,Yu,dS YM (.cons e1 .nil)⟩) s1 h
theorem kG {F:α->β->Prop}{v:α}{y:β}(h:F v y):∀{vs:`u}{xs:List β}(i:Nat),PySem.Paired F vs xs->PySem.Paired F (vs.set i v) (xs.set i y)
 | _,_,_,.nil=>.nil
 | _,_,0,.cons _ t=>.cons h t
 | _,_,i+1,.cons q t=>.cons q (kG h i t)
theorem Ho (i:Nat){k:Int}(he:EV X e Z r y Γ1)(hb:EV X b Γ1 ag k Γ2)(hΓ1:Γ1[i]?∣.mu r xs)(hΓ2:Γ2[i]?∣.mu r xs)(hj:fL xs.length k∣j)(h:N (Γ2.set i (.mu r (xs.set j y))))(hN:`o)(ha:∀v,VD `ag X.env v=(do
  let ov ← Vu [v] (eval `h X.env)
  let iv ← Vu [v,ov] (eval b X.env)
  VR p2
  Vu [v,ov,iv] (We ov iv v)
  release [v,ov,iv] []):=by intro _;rfl)(hs:VP [.Subscript `h b p2] e pos.line X.env=pure false:=by rfl)(hw:VQ [.Subscript `h b p2] e X.env=pure none:=by rfl)(h1:(Vp [.Subscript `h b p2] X.env).map (·.2)=[VD `ag X.env]:=by rfl):
 W1 X (.Assign [.Subscript `h b p2] e pos) Z N T:=λσ H0 R0 H R E D dn dr=>by
 refine sS (sD aN (xE (aV hN) aN set_list ha) hs hw h1) `K;let⟨a,vs,ea,hp,hR,pp⟩:=E1.ent i _ hΓ1;refine⟨.ref a,at_of ea,hb σ H0 R0 H1 R1 E1 _ λu H2 R2 E2 s2 e2=>?_⟩;let⟨a',Yr,Yq,YE,Yu,YM⟩:=E2.ent i _ hΓ2;rw[ea] at Yq;cases Yq
 refine⟨a,Yr,k,j,rfl,e2,YE,by rw[YM.length];exact hj,?_⟩;exact dn σ _ R2 _ (E2.upd (en:=.mu r (xs.set j y)) hΓ2 rfl ea Yu ⟨a,_,rfl,aD,Yu,kG (r.mono s2 e1) j YM⟩) `E h
theorem sg {vs:`u}{xs:List β}(p:PySem.Paired F vs xs):PySem.Paired F vs.dropLast xs.dropLast:=by
 rw[List.dropLast_eq_take,List.dropLast_eq_take,p.length];exact jO _ p
theorem wH (i:Nat){ap cp:Pos}(hΓ:`aB)(hy:xs[xs.length-1]?∣y)(hN:`o)(X0:fh X `h "pop":=by rfl)(XZ:`Z=true:=by rfl):
 EV X (.Call (.Attribute `h "pop" ap) [] [] cp) Z r y (Z.set i (.mu r xs.dropLast)):=by
 intro σ H0 R0 H R E Q q;let⟨a,vs,ea,ha,hR,pp⟩:=E.ent i _ hΓ;let⟨v,hv',hr⟩:=fH pp hy;refine eS (BH WG PySem.F.slot_list_pop PySem.F.type_list_pop C5 (aV hN) X0 XZ) ⟨.ref a,at_of ea,.inl ⟨rfl,vs,bw.of ha⟩,?_⟩;refine⟨a,vs,v,rfl,rfl,ha,by rw[pp.length];exact hv',?_⟩;exact q v _ R (E.upd hΓ rfl ea hR ⟨a,_,rfl,aD,hR,sg pp⟩) `S hr
theorem mX (i:Nat)(hΓ:`aB)(hN:`o)(he:∀whole,VL (.Name x pos) X.env whole=(do let v ← whole;VR (Expr.Name x pos).pos;Vu [v] (truthy v)):=by intro _;rfl):TV X (.Name x pos) Z (!xs.isEmpty) Z:=by
 intro σ H0 R0 H R E Q q;let⟨a,vs,ea,ha,hR,pp⟩:=E.ent i _ hΓ;refine tS (yt (aV hN) he) ⟨.ref a,at_of ea, !xs.isEmpty,.inl ⟨vs,bw.of ha,?_⟩,q H R E `S⟩;cases pp<;>rfl
theorem tU (i:Nat){p:Pos}(hm:X.mg "len"=none)(hΓ:`aB)(hN:`o)(hg:Gl X "len":=by rfl):EV X (.Call (.Name "len" p) [.Name x p1] [] pos) Z ag (xs.length:Int) Z:=by
 intro σ H0 R0 H R E Q q;let⟨a,vs,ea,ha,hR,pp⟩:=E.ent i _ hΓ;refine eS (eO gM hg hm Vy (aI (aV hN) br rfl) `c `c rfl) ⟨.ref a,at_of ea,a,vs,rfl,.inl (bw.of ha),?_⟩;rw[pp.length];exact q _ H R E `S rfl
theorem freeze (E:`C)(hΓ:`aB)(hz:xs.length<=U9):∃R' v,ar K σ H0 R0 H R' (Z.set i (.im (ae r) xs))/\au R R'/\(σ[i]?).join∣v/\(ae r).R K R' v xs:=by
 let⟨a,vs,ea,ha,hR,pp⟩:=E.ent i _ hΓ;let h0:H0 a=none:=E.new i _ a hΓ rfl ea;let s2:au R (upd R a (.lst vs)):=au.fresh hR _;let rr:(ae r).R K (upd R a (.lst vs)) (.ref a) xs:=⟨a,vs,rfl,aD,Paired.map (λ_ _=>r.mono s2) pp,hz⟩;let E1:ar K σ H0 R0 H R (Z.set i .no):=E.tell hΓ trivial λb w=>by cases w
 let E2:=E1.sG ha hR h0 λj e q w=>by
  obtain⟨rfl,rfl,_⟩ | ⟨hj,q1⟩:=set_at q
  ·cases w
  ·exact hj (E.ds j i e _ a q1 hΓ w ((Ent.tD (e:=.mu r xs) rfl).mpr ea))
 let hl:i<Z.length:=(R6.mp hΓ).1;let E3:=E2.tell (i:=i) (e0:=.no) (en:=.im (ae r) xs) (Sh hl) ⟨_,ea,rr⟩ λb w=>by cases w
 rw[Ti] at E3;exact⟨_,.ref a,E3,s2,ea,rr⟩
theorem WS.freeze (i:Nat){YG:List Stmt}(hΓ:`aB)(hz:xs.length<=U9)(h:WS X YG (Z.set i (.im (ae r) xs)) N T):WS X YG Z N T:=λσ H0 R0 H R E D dn dr=>by
 let⟨R',v,E',s',_,_⟩:=Fc.freeze E hΓ hz;exact h σ H0 R0 H R' E' D (λσ2 H2 R2 Γ2 E2 s2=>dn σ2 H2 R2 Γ2 E2 (s'.trans s2)) dr
def nF:Rep (List (Int×V)):=⟨λK H v kvs=>∃a,v= .ref a/\H a∣(.dK (cS kvs)),λs ⟨a,e,q⟩=>⟨a,e,s _ _ q⟩⟩
def jk (kvs:List (Int×V))(k:Int):Bool:=kvs.any λp=>decide (p.1=k)
theorem ng (kvs:List (Int×V))(k:Int):(dw (cS kvs) (Sum.inl k:Key)).isSome=jk kvs k:=by
 rw[← iI];unfold cS jk;rw[List.any_map];congr 1;funext p;show decide ((Sum.inl p.1:Key)=Sum.inl k)=decide (p.1=k);by_cases h:p.1=k
 ·rw[h];simp
 ·rw[XM h,XM λz=>h (Sum.inl.inj z)]
theorem Jq (i:Nat)(neg:Bool){k:Int}(hu:`be)(he:EV X e Z ag k Z)(hΓ:Z[i]?∣.di kvs)(hN:`o):
 TV X (.Compare e [if neg then .NotIn else .In] [.Name x p1] pos) Z (if neg then !jk kvs k else jk kvs k) Z:=by
 intro σ H0 R0 H R E Q q;cases neg with
 | false=>
   refine tS (m8 (Mn hu aN (aV hN)) (by with_unfolding_all rfl)) `K;let⟨a,ea,ha,hR⟩:=E1.ent i _ hΓ;cases e1
   refine⟨.ref a,at_of ea,a,_,rfl,iE.k (k:=Sum.inl k) ha,_,rfl,?_⟩;rw[ng];exact q H1 R1 E1 s1
 | true=>
   refine tS (m8 (mh hu aN (aV hN)) (by with_unfolding_all rfl)) `K;let⟨a,ea,ha,hR⟩:=E1.ent i _ hΓ;cases e1
   refine⟨.ref a,at_of ea,a,_,rfl,iE.k (k:=Sum.inl k) ha,_,rfl,?_⟩;rw[ng];exact q H1 R1 E1 s1
theorem Dp (i:Nat){ke ve:Expr}{k:Int}(hu:`be)(hk:EV X ke Z ag k Z)(hv:PE X ve (tC v))(hΓ:Z[i]?∣.di kvs)(hn:jk kvs k=false)(hz:kvs.length<U9)(h:N (Z.set i (.di (kvs++[(k,v)]))))(hN:`o)(hs:Vh ve (some (.Subscript `h ke p2)) pos.line X.env=pure false:=by rfl):W1 X (.Assign [.Subscript `h ke p2] ve pos) Z N T:=λσ H0 R0 H R E D dn dr=>by
 refine sS (uB hu (aV hN) aN hv hs) ?_;let⟨a,ea,ha,hR⟩:=E.ent i _ hΓ;refine⟨.ref a,at_of ea,hk σ H0 R0 H R E _ λu H1 R1 E1 s1 e1=>?_⟩;let⟨a',Yq,YE,Yu⟩:=E1.ent i _ hΓ;rw[ea] at Yq;cases Yq
 cases e1
 refine⟨a,_,rfl,qF.k (k:=Sum.inl k) YE (by unfold cS;rw[R9];exact hz),?_⟩;let vn:dw (cS kvs) (Sum.inl k:Key)=none:=by
  have:=ng kvs k;rw[hn] at this;cases q:dw (cS kvs) (Sum.inl k:Key) with
  | none=>rfl
  | some z=>rw[q] at this;cases this
 rw[qD v vn];let e:cS kvs++[((Sum.inl k:Key),v)]=cS (kvs++[(k,v)]):=by unfold cS;rw[So];rfl
 rw[e];exact dn σ _ R1 _ (E1.upd (en:=.di (kvs++[(k,v)])) hΓ rfl ea Yu ⟨a,rfl,aD,Yu⟩) s1 h
theorem LA (i:Nat){P:List (Int×V)->Prop}(hΓ:Z[i]?∣.di kvs)(h:P kvs)(hN:`o):W1 X (.Return (some `h) pos) Z N (cR X.K nF P):=λσ H0 R0 H R E D dn dr=>by
 let⟨a,ea,ha,hR⟩:=E.ent i _ hΓ;let h0:H0 a=none:=E.new i _ a hΓ rfl ea;refine sS (h9 (aV hN)) ⟨.ref a,at_of ea,dr _ H (upd R a (.dK (cS kvs))) ⟨E.ext.h,E.ext.r.trans (au.fresh hR _),λb o qb=>?_,λb hb=>?_⟩ ⟨kvs,⟨a,rfl,aD⟩,h⟩⟩
 ·by_cases hb:b=a
  ·subst hb;rw[aD] at qb;cases qb;exact ha
  ·rw[aF hb] at qb;exact E.ext.s b o qb
 ·rw[aF (show b≠a from λe=>hb (by rw[e];exact h0))];exact E.ext.old b hb
theorem HG {a:Expr}{p:Pos}(hm:X.mg "len"=none)(ha:EV X a Z nF kvs Γ1)(hs:fW X a:=by rfl)(hg:Gl X "len":=by rfl):EV X `aZ Z ag (kvs.length:Int) Γ1:=by
 intro σ H0 R0 H R E Q q;refine eS (eO uX hg hm Vy `bh `c `c hs) `A;let⟨p,rfl,hp⟩:=e1;refine⟨p,_,rfl,E1.sub _ _ hp,?_⟩;unfold cS;rw[R9];exact q _ H1 R1 E1 s1 rfl
end
abbrev dh:=Xh->List Pk->RT->Prop
def aR (S:dh)(K:Xh):Sp:=λvs H Q _=>∃R ps T,au R H/\mm K R vs ps/\S K ps T/\∀v H' R',Ext H R H' R'->T H v H' R'->Q v H'
theorem mm.length {K:Xh}{R:Hp}:∀{vs:`P}{ps:List Pk},mm K R vs ps->vs.length=ps.length
 | _,_,.nil=>rfl
 | _,_,.cons _ t=>by rw[Si,Si,mm.length t]
structure aE (P:Ve)(w:World)(K:Xh)(mg:Rt)(base:Heap)(x:Str)(k:Nat)(sp:Sp):Prop where
 ex:∃f fd ps,eZ P w K mg base eI k f fd ps sp/\mg x∣.ref f/\Xm K (.ref f)=true/\Binds K fd ps []
theorem aE.mono {P:Ve}{w:World}{K:Xh}{mg:Rt}{base:Heap}{x:Str}{j k:Nat}{sp:Sp}(c:aE P w K mg base x j sp)(h:j<=k):aE P w K mg base x k sp:=by
 let⟨f,fd,ps,F,a,b,c⟩:=c.ex;exact⟨f,fd,ps,F.mono h,a,b,c⟩
variable {ps:List Pk}{S:dh}
theorem lH {k:Nat}{p:Pos}(C:`aP)(hr:bG k X.A)(ha:HA X (e::es) Z ps Γ1)(hS:S X.K ps T)(E:`aU)(q:∀H1 R1 v H' R',ar X.K σ H0 R0 H1 R1 Γ1->au R R1->Ext H1 R1 H' R'->T H1 v H' R'->Q v H')(hg:Gl X x)(Yo:(x==("__debug__":Str))=false)(he:dq X e es)(Yb:fc X pos es):fU X (.Call `aq (e::es) [] pos) σ H Q:=by
 let⟨f,fd,pn,F,hm,hk,hb⟩:=C.ex;refine eS (iZ F hr hg hm hk hb .nil kx lU Yo he Yb) (ha σ H0 R0 H R E _ λvs H1 R1 E1 s1 p1=>?_);refine⟨R1,ps,T,E1.sub,by rw[Sw];exact p1,hS,λv H' R' x t=>q H1 R1 v H' R' E1 s1 x t⟩
theorem aJ {k:Nat}{p:Pos}{y:α}(C:`aP)(hr:bG k X.A)(ha:HA X (e::es) Z ps Γ1)(hS:S X.K ps (cR X.K r (· =y)))(hg:Gl X x:=by rfl)(Yo:YJ x:=by decide)(he:dq X e es:=by rfl)(Yb:fc X pos es:=by rfl):EV X (.Call `aq (e::es) [] pos) Z r y Γ1:=λσ H0 R0 H R E Q q=>
 lH C hr ha hS E (λH1 R1 v H' R' E1 s1 xx t=>by
  let⟨z,e1,rfl⟩:=t;exact q v H' R' (E1.grow xx) (s1.trans xx.r) e1) hg Yo he Yb
theorem v9 {k:Nat}{p:Pos}(C:`aP)(hr:bG k X.A)(ha:HA X (e::es) Z ps Γ1)(hS:S X.K ps (Dt X.K r (· =ys)))(hg:Gl X x:=by rfl)(Yo:YJ x:=by decide)(he:dq X e es:=by rfl)(Yb:fc X pos es:=by rfl):ba X (.Call `aq (e::es) [] pos) Z r ys Γ1:=λσ H0 R0 H R E Q q=>
 lH C hr ha hS E (λH1 R1 v H' R' E1 s1 xx t=>by
  let⟨a,vs,zs,rfl,h0,h1,h2,p,z,rfl⟩:=t;exact q a vs H' R' (E1.grow xx) (s1.trans xx.r) h1 h2 (E1.ext.h.free h0) (E1.off h0) p z) hg Yo he Yb
noncomputable def fY (ps:List Pk)(n:Nat):Ga:=ps.map (λp=>Ent.im p.r p.x)++S7 (n-ps.length) .no
variable {vs:`P}
theorem jW {N:Rx}(s:au R H)(p:mm K R vs ps)(hl:ps.length<=N.length):ar K (L2.start N vs) H R H R (fY ps N.length):=by
 let Yi:∀(i:Nat)(e:Ent)(o:Option V),(fY ps N.length)[i]?∣e->e.fp o=[]:=λi e o q=>by
  unfold fY at q;obtain z | z:=Sl.mp (Sg q)
  ·let⟨p,_,rfl⟩:=Sv.mp z;rfl
  ·let⟨_,rfl⟩:=Ud.mp z;rfl
 refine⟨Ext.refl s,λi e q=>?_,λi e a q w=>XE w (by rw[Yi i e _ q];exact S4),λi j e e' a q _ w=>XE w (by rw[Yi i e _ q];exact S4),?_⟩
 ·let hp:=p.length;unfold fY at q;unfold L2.start;by_cases hi:i<ps.length
  ·rw[SD (~~~hi),Sf] at q;rw[SD (by simpa[hp] using hi),Sf];let key:∀{vs:`P}{ps:List Pk},mm K R vs ps->∀(i:Nat)(p:Pk),ps[i]?∣p->∃v,vs[i]?∣v/\p.r.R K R v p.x:=by
    intro vs ps h
    induction h with
    | nil=>intro i p e;simp at e
    | cons a b ih=>
      intro i p e;cases i with
      | zero=>simp at e;subst e;exact⟨_,rfl,a⟩
      | succ i=>simpa using ih i p (~~~e)
   cases e1:ps[i]? with
   | none=>rw[e1] at q;cases q
   | some p1=>
     rw[e1] at q;cases q
     let⟨v,h1,h2⟩:=key p i p1 e1;rw[h1];exact⟨v,rfl,h2⟩
  ·rw[SG (~~~hi),Tx] at q;split at q
   ·cases q;trivial
   ·cases q
 ·unfold fY L2.start;rw[Sd,Sd,R9,R9,Tn,Tn,p.length]
variable {P:Ve}{w:World}{mg:Rt}{base:Heap}{qual:Str}{f:Addr}{fd:Vi}
def Def (K:Xh)(mg:Rt)(x:Str)(st:Stmt)(ps:Rx):Prop:=∃f fd,dO K x x st f fd/\mg x∣.ref f/\Binds K fd ps []
theorem gU {N ps:Rx}{k:Nat}(F:dO K x qual st f fd)(Sc:bF N ps (ao st))(hm:mg x∣.ref f)(hb:Binds K fd ps [])(len:∀qs T,S K qs T->qs.length=ps.length)(Yd:∀(XU:`aK)(A:Vg)(outer:List Env)(s:Va)(H:Hp)(E:XK)(qs:List Pk)(T:RT),bG k `ar->S K qs T->
  WS (eU eI P w K mg base N qual (ao st) f XU A outer s H E).gW (bE st) (fY qs N.length) (λ_=>False) T):aE P w K mg base x (k+1) (aR S K):=by
 refine⟨f,fd,ps,?_,hm,F.kp,hb⟩;refine F.ok Sc (λvs H Q E h=>?_) `ae
 ·let⟨R,qs,T,_,p,hS,_⟩:=h;rw[p.length];exact len qs T hS
 ·let⟨R,qs,T,sR,p,hS,q⟩:=h;let hl:qs.length<=N.length:=by
   rw[len qs T hS];have:=congrArg List.length Sc.pre;rw[Sx] at this;cbv
  exact⟨_,iC,Yd XU A outer s H E qs T hr hS (L2.start N vs) H R H R (jW sR p hl) {nx:=λ_ H'=>Q .X4 H',rt:=Q} (λ_ _ _ _ _ _ f=>f.elim) λv H' R' xx t=>q v H' R' xx t⟩
theorem bP {N ps:Rx}{k:Nat}(D:Def K mg x st ps)(Yd:∀(f:Addr)(XU:`aK)(A:Vg)(outer:List Env)(s:Va)(H:Hp)(E:XK)(qs:List Pk)(T:RT),N.Nodup->bG k (A.deeper (U4 x (ao st) ⇑s f XU))->S K qs T->
  WS (eU eI P w K mg base N x (ao st) f XU A outer s H E).gW (bE st) (fY qs N.length) (λ_=>False) T)(len:∀qs T,S K qs T->qs.length=ps.length:=by(intros;rename_i h;repeat (first | (rw[h.1];rfl) | let⟨_,h⟩:=h)))(Sc:bF N ps (ao st):=by exact Y6):aE P w K mg base x (k+1) (aR S K):=by
 let⟨f,fd,F,hm,hb⟩:=D;exact gU F Sc hm hb len λXU A outer s H E qs T=>Yd f XU A outer s H E qs T Sc.nd
section
variable {a:Expr}
theorem xN {bs:List Bool}{us:RC}(r:Vals (bs.map V.bl) us){v:`aK}(h:us.toArray[j]?∣v):v= .bool (bs.getD j true):=by
 induction bs generalizing us j with
 | nil=>cases r;simp at h
 | cons b r' ih=>
   cases r with
   | cons h1 t=>
     cases j with
     | zero=>simp at h;rw[← h];exact h1
     | succ j=>exact ih t (~~~h)
theorem all_range (bs:List Bool):((Sm bs.length).all λj=>bs.getD j true)=bs.all id:=by
 rw[RK,T1,T1];constructor
 ·intro h b hb;let⟨j,hj,rfl⟩:=T6.mp hb;have:=h j (Tb.mpr hj);simpa[R8,R7 hj] using this
 ·intro h j hj;let hj:=Tb.mp hj;simpa[R8,R7 hj] using h _ (SO hj)
theorem any_range (bs:List Bool):((Sm bs.length).any λj=>bs.getD j true)=bs.any id:=by
 rw[RK,Uo,Uo];constructor
 ·rintro⟨j,hj,h⟩;let hj:=Tb.mp hj;exact⟨_,SO hj,by simpa[R8,R7 hj] using h⟩
 ·rintro⟨b,hb,h⟩;let⟨j,hj,rfl⟩:=T6.mp hb;exact⟨j,Tb.mpr hj,by simpa[R8,R7 hj] using h⟩
theorem El (hc:X.calm=true):fO X (.builtin "all") (λxs H Q=>∃(p:Addr)(bs:List Bool),xs=[.ref p]/\bw X.K H p (bs.map V.bl)/\Q (.bl (bs.all id)) H):=by
 intro XR s σ H xs us Q I r h;let⟨p,bs,rfl,hq,q⟩:=h;let⟨u,rfl,rx⟩:=vals1 r;cases rx
 let⟨XT,r',pl,hz⟩:=I.list hq;let X3:p≠⇑s:=λe=>by let⟨o,ho,_⟩:=pl.isList;exact XE (WT ho) (by rw[e];exact UC _)
 refine call_all_walk (VG pl.isList ?_);refine⟨⇑s,_,[⇑s],XT.toArray.size,_,_,λj=>bs.getD j true,rfl,Walks.list (A:=X.A.in1) (show X.A.in1.handled=none from I.ok.hd hc) ⇑s p X3 XT.toArray,?_,λj v s Q E hv hQ=>?_,λh' tk hk=>?_⟩
 ·refine⟨⟨_,WU _ rfl,rfl,rfl⟩,?_⟩;let⟨o,ho,c,n,d⟩:=pl.isList;exact⟨o,WR _ ho,c,n,d⟩
 ·rw[xN r' hv];exact Vj hQ
 ·let e:XT.toArray.size=bs.length:=by rw[Ss,← r'.length,R9]
  rw[e,all_range];exact⟨.bl _,H,I.kept λb o e=>hk b o (λz=>XE (WT e) (by rw[Sa.mp z];exact UC _)) (WR _ e),rfl,q⟩
theorem Fm (hc:X.calm=true):fO X (.builtin "any") (λxs H Q=>∃(p:Addr)(bs:List Bool),xs=[.ref p]/\bw X.K H p (bs.map V.bl)/\Q (.bl (bs.any id)) H):=by
 intro XR s σ H xs us Q I r h;let⟨p,bs,rfl,hq,q⟩:=h;let⟨u,rfl,rx⟩:=vals1 r;cases rx
 let⟨XT,r',pl,hz⟩:=I.list hq;let X3:p≠⇑s:=λe=>by let⟨o,ho,_⟩:=pl.isList;exact XE (WT ho) (by rw[e];exact UC _)
 refine call_any_walk (VG pl.isList ?_);refine⟨⇑s,_,[⇑s],XT.toArray.size,_,_,λj=>bs.getD j true,rfl,Walks.list (A:=X.A.in1) (show X.A.in1.handled=none from I.ok.hd hc) ⇑s p X3 XT.toArray,?_,λj v s Q E hv hQ=>?_,λh' tk hk=>?_⟩
 ·refine⟨⟨_,WU _ rfl,rfl,rfl⟩,?_⟩;let⟨o,ho,c,n,d⟩:=pl.isList;exact⟨o,WR _ ho,c,n,d⟩
 ·rw[xN r' hv];exact Vj hQ
 ·let e:XT.toArray.size=bs.length:=by rw[Ss,← r'.length,R9]
  rw[e,any_range];exact⟨.bl _,H,I.kept λb o e=>hk b o (λz=>XE (WT e) (by rw[Sa.mp z];exact UC _)) (WR _ e),rfl,q⟩
theorem rL {K:Xh}{R:Hp}:∀{vs:`P}{xs:List Bool},PySem.Paired (dc.R K R) vs xs->vs=xs.map V.bl
 | _,_,.nil=>rfl
 | _,_,.cons h t=>by rw[SK,← rL t];exact congrArg (· ::_) h
theorem Ha {id:String}{r:List V->Hp->VK->Prop}{p:Pos}{y:α}{z:β}(hc:fO X (.builtin id) r)(hm:X.mg x=none)(hv:VA x∣.builtin id)(ha:EV X a Z ra y Γ1)(h:∀(R H:Hp) v Q,au R H->ra.R X.K R v y->(∀w,rb.R X.K R w z->Q w H)->r [v] H Q)(hs:fW X a:=by rfl)(hg:Gl X x:=by rfl)(hn:x≠"__name__":=by decide)(Yo:YJ x:=by decide):
 EV X (.Call `aq [a] [] pos) Z rb z Γ1:=by
 intro σ H0 R0 H R E Q q;exact eS (eO hc hg hm hv `bh hn Yo hs) (ha σ H0 R0 H R E _ λv H1 R1 E1 s1 e1=>h R1 H1 v _ E1.sub e1 λw hw=>q w H1 R1 E1 s1 hw)
theorem sA {p:Pos}{bs:List Bool}(hm:X.mg "all"=none)(ha:EV X a Z (ae dc) bs Γ1)(hs:fW X a:=by rfl)(hc:X.calm=true:=by rfl)(hg:Gl X "all":=by rfl):EV X (.Call (.Name "all" p) [a] [] pos) Z dc (bs.all id) Γ1:=
 Ha (El hc) hm boot_all ha (λR H v Q s ⟨p,vs,e,hp,pp,_⟩ q=>⟨p,bs,by rw[e],by rw[← rL pp];exact bw.of (s _ _ hp),q _ rfl⟩) hs hg
theorem KJ {p:Pos}{bs:List Bool}(hm:X.mg "any"=none)(ha:EV X a Z (ae dc) bs Γ1)(hs:fW X a:=by rfl)(hc:X.calm=true:=by rfl)(hg:Gl X "any":=by rfl):EV X (.Call (.Name "any" p) [a] [] pos) Z dc (bs.any id) Γ1:=
 Ha (Fm hc) hm boot_any ha (λR H v Q s ⟨p,vs,e,hp,pp,_⟩ q=>⟨p,bs,by rw[e],by rw[← rL pp];exact bw.of (s _ _ hp),q _ rfl⟩) hs hg
theorem zr {p:Pos}{b:Bool}(hm:X.mg "int"=none)(ha:EV X a Z dc b Γ1)(hs:fW X a:=by rfl)(hg:Gl X "int":=by rfl):EV X (.Call (.Name "int" p) [a] [] pos) Z ag (if b then 1 else 0) Γ1:=by
 intro σ H0 R0 H R E Q q;exact eS (iT BY hg hm U5 `bh `c `c hs) (ha σ H0 R0 H R E _ λv H1 R1 E1 s1 e1=>.inr ⟨b,by rw[show v=V.bl b from e1],q _ H1 R1 E1 s1 rfl⟩)
theorem Ef {p:Pos}(hm:X.mg "list"=none)(ha:EV X a Z (ae r) xs Γ1)(hs:fW X a:=by rfl)(hg:Gl X "list":=by rfl):ba X (.Call (.Name "list" p) [a] [] pos) Z r xs Γ1:=by
 intro σ H0 R0 H R E Q q;refine eS (iT wB hg hm U0 `bh `c `c hs) `A;let⟨p,vs,rfl,hp,pp,z⟩:=e1;exact⟨p,vs,rfl,.inl (bw.of (E1.sub _ _ hp)),λl hl=>q l vs _ R1 (E1.grow (Ext.d8 E1.sub hl _)) s1 aD (E1.sub.free hl) (E1.ext.h.free hl) (E1.off hl) pp z⟩
theorem yP {p:Pos}{x y:Int}(hm:X.mg "min"=none)(ha:HA X [a,b] Z [⟨ag,x⟩,⟨ag,y⟩] Γ1)(hs:Vf [a,b] X.env=(false,eval a X.env)::Vf [b] X.env:=by rfl)(hc:X.calm=true:=by rfl)(hg:Gl X "min":=by rfl)(Yb:fc X pos [b]:=by rfl):EV X (.Call (.Name "min" p) [a,b] [] pos) Z ag (if y<x then y else x) Γ1:=by
 intro σ H0 R0 H R E Q q;refine eS (eO (D4 hc) hg hm PyProof.Rows.boot_min lU `c `c hs Yb) (ha σ H0 R0 H R E _ λvs H1 R1 E1 s1 p1=>?_);cases p1 with
 | cons a1 t=>cases t with
   | cons a2 t2=>cases t2;cases a1;cases a2;exact⟨x,y,rfl,q _ H1 R1 E1 s1 rfl⟩
theorem Iy {p:Pos}{x y:Int}(hm:X.mg "max"=none)(ha:HA X [a,b] Z [⟨ag,x⟩,⟨ag,y⟩] Γ1)(hs:Vf [a,b] X.env=(false,eval a X.env)::Vf [b] X.env:=by rfl)(hc:X.calm=true:=by rfl)(hg:Gl X "max":=by rfl)(Yb:fc X pos [b]:=by rfl):EV X (.Call (.Name "max" p) [a,b] [] pos) Z ag (if y>x then y else x) Γ1:=by
 intro σ H0 R0 H R E Q q;refine eS (eO (Dm hc) hg hm PyProof.Rows.boot_max lU `c `c hs Yb) (ha σ H0 R0 H R E _ λvs H1 R1 E1 s1 p1=>?_);cases p1 with
 | cons a1 t=>cases t with
   | cons a2 t2=>cases t2;cases a1;cases a2;exact⟨x,y,rfl,q _ H1 R1 E1 s1 rfl⟩
end
def Src (K:Xh)(J:It)(R1:Hp){α:Type}(r:Rep α)(xs:`u):Prop:=
 ∀(H' R':Hp),au R1 R'->au R' H'->∀i:Nat,(∀x,xs[i]?∣x->J.go i H'/\∀v H2,J.yld i H' v H2->∃R2,Ext H' R' H2 R2/\r.R K R2 v x)/\(xs.length<=i->J.stop i H')
variable {tg iter elt:Expr}{ifs:RE}{scope:Scope}{fr:Rx}{ix:List Nat}{R1:Hp}{bf:α->Ga->Ga}
section
variable {f:α->β}
def IV (X:Cx)(tg iter:Expr)(Z:Ga){α:Type}(r:Rep α)(xs:`u)(Γ1:Ga):Prop:=
 ∃wi,PI X tg iter wi/\∀(σ:St)(H0 R0 H R:Hp),ar X.K σ H0 R0 H R Z->∀Rq:It->Hp->Prop,(∀J H1 R1,ar X.K σ H0 R0 H1 R1 Γ1->au R R1->xs.length<=U9->Src X.K J R1 r xs->Rq J H1)->wi σ H Rq
theorem bI (h:EV X iter Z (ae r) xs Γ1):IV X tg iter Z r xs Γ1:=by
 refine⟨_,zO aN,λσ H0 R0 H R E Rq q=>h σ H0 R0 H R E _ λv H1 R1 E1 s1 e1=>?_⟩;let⟨a,vs,rfl,ha,pp,z⟩:=e1;refine⟨a,rfl,⟨vs,bw.of (E1.sub _ _ ha)⟩,q _ H1 R1 E1 s1 z λH' R' sR sH i=>⟨λx hx=>?_,λhi=>?_⟩⟩
 ·let hq:bw X.K H' a vs:=bw.of (sH _ _ (sR _ _ ha));let⟨v,hv,hr⟩:=fH pp hx;refine⟨⟨vs,v,hq,hv⟩,λv' H2 hy=>?_⟩;let⟨rfl,hy⟩:=hy;have:=hy vs hq;rw[hv] at this;cases this
  exact⟨R',Ext.refl sH,r.mono sR hr⟩
 ·exact⟨vs,bw.of (sH _ _ (sR _ _ ha)),by rw[pp.length];exact hi⟩
noncomputable def ups (lo:Int)(n:Nat):Rv:=(Sm n).map λ(k:Nat)=>lo+(k:Int)
theorem bp (lo:Int)(n:Nat):(ups lo n).length=n:=by unfold ups;rw[R9,SX]
theorem eR {lo:Int}{n:Nat}{x:Int}(h:(ups lo n)[i]?∣x):i<n/\x=lo+(i:Int):=by
 let hi:i<n:=by have:=(R6.mp h).1;rwa [bp] at this
 refine⟨hi,?_⟩;unfold ups at h;rw[Sf,SY hi] at h;exact(Option.some.inj h).symm
theorem zX (lo:Int)(n:Nat):Src K (Bw lo n) R1 ag (ups lo n):=λH' R' sR sH i=>⟨λx hx=>by
 let⟨h1,rfl⟩:=eR hx;refine⟨h1,λv H2 hy=>?_⟩;let⟨rfl,rfl⟩:=hy;exact⟨R',Ext.refl sH,rfl⟩,λhi=>by rw[bp] at hi;exact hi⟩
theorem dA {a:Expr}(hm:X.mg "range"=none)(ha:EV X a Z ag n Γ1)(hn: -(2 ^ 62)<=n/\n<=1000000)(hs1:fW X a:=by rfl)(hg:Gl X "range":=by rfl):IV X tg (.Call (.Name "range" p1) [a] [] p2) Z ag (ups 0 n.toNat) Γ1:=by
 refine⟨_,Cy hg hm (aI aN br hs1) hs1,λσ H0 R0 H R E Rq q=>ha σ H0 R0 H R E _ λv H1 R1 E1 s1 e1=>?_⟩;exact⟨n,by rw[show v=V.int n from e1],hn.1,`a,q _ H1 R1 E1 s1 (by rw[bp];exact Ux (show n.toNat<=1000000 by cbv) `c) (zX 0 n.toNat)⟩
theorem BC {a:Expr}{m:Int}(hm:X.mg "range"=none)(ha:EV X a Z ag m Γ1)(hb:EV X b Γ1 ag n Γ2)(hn: -1000000<=m/\m<=1000000/\ -1000000<=n/\n<=1000000)(hs1:xW X a b:=by rfl)(Ys:fW X b:=by rfl)(hg:Gl X "range":=by rfl):IV X tg (.Call (.Name "range" p1) [a,b] [] p2) Z ag (ups m (n-m).toNat) Γ2:=by
 refine⟨_,D5 hg hm (aI aN (aI aN br Ys) (by first | rw[dq,hs1,Ys] | rw[hs1,Ys])) hs1 Ys,λσ H0 R0 H R E Rq q=>ha σ H0 R0 H R E _ λv H1 R1 E1 s1 e1=>hb σ H0 R0 H1 R1 E1 _ λu H2 R2 E2 s2 e2=>?_⟩;exact⟨m,n,by rw[show v=V.int m from e1,show u=V.int n from e2],⟨`a,`a,`a,`a⟩,q _ H2 R2 E2 `E (by rw[bp];exact Ux (show(n-m).toNat<=2000000 by cbv) `c) (zX m (n-m).toNat)⟩
theorem bO (I:Nat->Ga->Prop)(hit:IV X tg iter Z r xs Γ1)(hb:BG X tg r bf)(h0:I 0 Γ1)(YD:∀(i:Nat)(x:α)(Z:Ga),xs[i]?∣x->I i Z->WS X body (bf x Z) (I (i+1)) T)(YQ:∀Z:Ga,I xs.length Z->N Z)(hc:X.calm=true:=by rfl)(hp:Wa `f X.A X.env X.xe:=by exact Wa.never)(hs:∀x,Vm iter X.env x=pure x:=by intro _;rfl):W1 X (.For tg iter body [] pos) Z N T:=λσ H0 R0 H R E D dn dr=>by
 let⟨wi,hi,hit⟩:=hit;refine sS (BW hp hc hi O2 iC hs) (hit σ H0 R0 H R E _ λJ H1 R1 E1 s1 hz src=>?_);refine⟨λi m σ' H'=>m=xs.length-i/\i<=xs.length/\∃R' Γ',ar X.K σ' H0 R0 H' R' Γ'/\au R1 R'/\I i Γ',⟨_,rfl,Uy _,R1,Γ1,E1,au.refl _,h0⟩,?_⟩;rintro i m σ' H' ⟨rfl,hle,R',Γ',E',s',hI⟩;let⟨sgo,Zf⟩:=src H' R' s' E'.sub i;by_cases YA:i<xs.length
 ·let⟨go,yl⟩:=sgo _ (R7 YA);refine .inr ⟨go,λσ' H'=>i+1<=xs.length/\∃R' Γ',ar X.K σ' H0 R0 H' R' Γ'/\au R1 R'/\I (i+1) Γ',λσ2 H2 h=>⟨xs.length-(i+1),`a,rfl,h.1,h.2⟩,λv H2 hy=>?_⟩;let⟨R2,x2,hr⟩:=yl v H2 hy;refine hb σ' H0 R0 H2 R2 Γ' v _ (E'.grow x2) hr _ λσ2 E2=>?_;exact YD i _ Γ' (R7 YA) hI σ2 H0 R0 H2 R2 E2 _ (λσ3 H3 R3 Γ3 E3 s3 h3=>⟨YA,R3,Γ3,E3,s'.trans (x2.r.trans s3),h3⟩) dr
 ·let e:i=xs.length:=`a
  subst e;exact .inl ⟨Zf (Uw _),dn σ' H' R' Γ' E' (s1.trans s') (YQ Γ' hI)⟩
noncomputable def Ba:Option Ent->Ent
 | some (.im r x)=>.im r x
 | _=>.no
noncomputable def dB (own:Rx)(ix:List Nat)(Z:Ga):Ga:=S7 own.length .no++ix.map λi=>Ba Z[i]?
theorem v7 (E:`C)(own:Rx)(ix:List Nat):ar K (iz own ix σ) H R H R (dB own ix Z):=by
 let Yi:∀(i:Nat)(e:Ent)(o:Option V),(dB own ix Z)[i]?∣e->e.fp o=[]:=λi e o q=>by
  unfold dB at q;obtain z | z:=Sl.mp (Sg q)
  ·let⟨_,rfl⟩:=Ud.mp z;rfl
  ·let⟨k,_,rfl⟩:=Sv.mp z;unfold Ba;split<;>rfl
 refine⟨Ext.refl E.sub,λi e q=>?_,λi e a q w=>XE w (by rw[Yi i e _ q];exact S4),λi j e e' a q _ w=>XE w (by rw[Yi i e _ q];exact S4),by unfold dB iz;simp⟩;unfold dB at q;unfold iz;by_cases hi:i<own.length
 ·rw[SD (~~~hi),Tx] at q;rw[XG hi] at q;cases q;trivial
 ·rw[SG (~~~hi),Tn,Sf] at q;rw[SG (~~~hi),Tn,Sf];cases ek:ix[i-own.length]? with
  | none=>rw[ek] at q;cases q
  | some k=>
    rw[ek] at q;let q':Ba Z[k]?=e:=Option.some.inj q;subst q';show(Ba Z[k]?).ok K H R (σ[k]?).join;cases eg:Z[k]? with
    | none=>trivial
    | some e=>
      cases e with
      | im r x=>exact E.ent k _ eg
      | no=>trivial
      | mu r x=>trivial
      | di x=>trivial
      | ob x=>trivial
theorem oM {cl:`aO}{own:Rx}{p:α->Bool}{J:It}{H1:Hp}(E1:ar X.K σ H0 R0 H1 R1 Γ1)(src:Src X.K J R1 ra xs)(hz:xs.length<=U9)(hb:∀(C:Addr)(s:Va)(H:Hp)(ex:Rz),BG `m tg ra bf)(hw:∀x,Wk `v (dB own ix Γ1))(ht:∀(C:Addr)(s:Va)(H:Hp)(ex:Rz) x,x∈xs->TF `m ifs `v (p x) `v)(he:∀(C:Addr)(s:Va)(H:Hp)(ex:Rz) x,x∈xs->p x=true->EV `m elt `v rb (f x) `v)(q:∀a vs H' R',Ext H1 R1 H' R'->H' a=none->PySem.Paired (rb.R X.K R') vs ((xs.filter p).map f)->Q (.ref a) (upd H' a (.lst vs))):
 ∃W:Nat->Nat->List V->St->Hp->Prop,(∃m,W 0 m [] (iz own ix σ) H1)/\∀i m ys σ' H',W i m ys σ' H'->
  ys.length<=U9/\((J.stop i H'/\∀p,H' p=none->Q (.ref p) (upd H' p (.lst ys)))∨
  (J.go i H'/\∀x H2,J.yld i H' x H2->(λv σ H Q=>∀C s Hh ex,nJ `q tg v σ H Q:TG) x σ' H2 λσ2 H3=>(λσ H Q=>∀C s Hh ex,oS `q ifs σ H Q:TT) σ2 H3 λb H4=>
    if b=true then(λσ H Q=>∀C s Hh ex,fU `q elt σ H Q:TE) σ2 H4 λv H5=>∃m',m'<m/\W (i+1) m' (ys++[v]) σ2 H5 else∃m',m'<m/\W (i+1) m' ys σ2 H4)):=by
 refine⟨λi m ys σ' H'=>m=xs.length-i/\i<=xs.length/\∃R',ar X.K σ' H1 R1 H' R' (dB own ix Γ1)/\PySem.Paired (rb.R X.K R') ys (((xs.take i).filter p).map f),⟨_,rfl,Uy _,R1,v7 E1 own ix,.nil⟩,?_⟩;rintro i m ys σ' H' ⟨rfl,hle,R',E',pp⟩;let hys:ys.length<=U9:=by
  rw[pp.length,R9];refine Ux (Tv _ _) (Ux ?_ hz);rw[Sx];cbv
 let⟨sgo,Zf⟩:=src H' R' E'.ext.r E'.sub i;refine⟨hys,?_⟩;by_cases YA:i<xs.length
 ·let⟨go,yl⟩:=sgo _ (R7 YA);let Zy:xs[i]∈xs:=SO YA;let tk:(xs.take (i+1))=xs.take i++[xs[i]]:=by rw[SS,R7 YA];rfl
  refine .inr ⟨go,λv H2 hy C s Hh ex=>?_⟩;let⟨R2,x2,hr⟩:=yl v H2 hy;refine hb C s Hh ex σ' H1 R1 H2 R2 _ v _ (E'.grow x2) hr _ λσ2 E2=>?_;intro C s Hh ex;refine ht C s Hh ex _ Zy σ2 H1 R1 H2 R2 E2 _ λH4 R4 E4 s4=>?_;cases hpx:p xs[i] with
  | false=>
    rw[XF RH];refine⟨xs.length-(i+1),`a,rfl,YA,R4,E4.weak (hw _),?_⟩;rw[tk,SU,T2,hpx,XF RH,filter_nil,Sw];exact Paired.map (λ_ _=>rb.mono (x2.r.trans s4)) pp
  | true=>
    rw[XG rfl];intro C s Hh ex;refine he C s Hh ex _ Zy hpx σ2 H1 R1 H4 R4 E4 _ λw H5 R5 E5 s5 e5=>?_;refine⟨xs.length-(i+1),`a,rfl,YA,R5,E5.weak (hw _),?_⟩;rw[tk,SU,T2,hpx,XG rfl,filter_nil,So];exact dS (Paired.map (λ_ _=>rb.mono (x2.r.trans (s4.trans s5))) pp) (.cons e5 .nil)
 ·let e:i=xs.length:=`a
  subst e;rw[SW] at pp;exact .inl ⟨Zf (Uw _),λa ha=>q a ys H' R' E'.ext ha pp⟩
theorem bW {cl:`aO}{own:Rx}{p:α->Bool}(S:fF X scope cl own fr ix)(hit:IV X tg iter Z ra xs Γ1)(hb:∀(C:Addr)(s:Va)(H:Hp)(ex:Rz),BG `m tg ra bf)(hw:∀x,Wk `v (dB own ix Γ1))(ht:∀(C:Addr)(s:Va)(H:Hp)(ex:Rz) x,x∈xs->TF `m ifs `v (p x) `v)(he:∀(C:Addr)(s:Va)(H:Hp)(ex:Rz) x,x∈xs->p x=true->EV `m elt `v rb (f x) `v)(hc:X.calm=true:=by rfl)(hs:∀x,Vm iter X.env x=pure x:=by intro _;rfl):ba X `aF Z rb ((xs.filter p).map f) Γ1:=by
 intro σ H0 R0 H R E Q q;let⟨wi,hi,hit⟩:=hit;refine eS (Hy (g:=λv σ H Q=>∀C s Hh ex,nJ `q tg v σ H Q) (tc:=λσ H Q=>∀C s Hh ex,oS `q ifs σ H Q) (te:=λσ H Q=>∀C s Hh ex,fU `q elt σ H Q) hc S hi
  `x hs) ?_
 refine hit σ H0 R0 H R E _ λJ H1 R1 E1 s1 hz src=>oM E1 src hz hb hw ht he λa vs H' R' xx ha pp=>?_;let E2:=E1.grow xx;exact q a vs _ R' (E2.grow (Ext.d8 E2.sub ha _)) (s1.trans xx.r) aD (E2.sub.free ha) (E2.ext.h.free ha) (E2.off ha) pp (by
  rw[R9];exact Ux (Tv _ _) hz)
theorem mM (i:Nat){py YX:Pos}{cl:`aO}{own:Rx}{p:α->Bool}(S:fF X scope cl own fr ix)(hit:IV X tg iter Z ra xs Γ1)(hb:∀(C:Addr)(s:Va)(H:Hp)(ex:Rz),BG `m tg ra bf)(hw:∀x,Wk `v (dB own ix Γ1))(ht:∀(C:Addr)(s:Va)(H:Hp)(ex:Rz) x,x∈xs->TF `m ifs `v (p x) `v)(he:∀(C:Addr)(s:Va)(H:Hp)(ex:Rz) x,x∈xs->p x=true->EV `m elt `v rb (f x) `v)(h:N (Γ1.set i (.mu rb ((xs.filter p).map f))))(Yn:Vh `aF (some (.Name y py)) YX.line X.env=pure true:=by rfl)(hN:X.N.Nodup:=by first | assumption | decide)(hi':X.N[i]?∣y:=by rfl)(hx:`aw)(hc:X.calm=true:=by rfl)(hs:∀x,Vm iter X.env x=pure x:=by intro _;rfl)(hf:autoParam (fM X y) YU):
 W1 X (.Assign [.Name y py] `aF YX) Z N T:=λσ H0 R0 H R E D dn dr=>by
 let⟨wi,hi,hit⟩:=hit;refine sS (nI (i:=i) (g:=λv σ H Q=>∀C s Hh ex,nJ `q tg v σ H Q) (tc:=λσ H Q=>∀C s Hh ex,oS `q ifs σ H Q) (te:=λσ H Q=>∀C s Hh ex,fU `q elt σ H Q) Yn hN hi' hx hc S hi
  `x hs hf) ?_
 refine hit σ H0 R0 H R E _ λJ H1 R1 E1 s1 hz src=>oM (Q:=λv H'=>D.nx (σ.set i (some v)) H') E1 src hz hb hw ht he λa vs H' R' xx ha pp=>?_;let E2:=E1.grow xx;exact dn _ _ R' _ ((E2.grow (Ext.d8 E2.sub ha _)).yk (u:=.lst vs) (en:=.mu rb ((xs.filter p).map f)) i ⟨a,vs,rfl,aD,E2.sub.free ha,pp⟩ (E2.ext.h.free ha) λj e _ q w=>E2.off ha j e q w) (s1.trans xx.r) h
end
variable {ws:`P}
section
variable {XR:Ru}{s:Va}{tp:Pos}
theorem pF {h':Heap}{t':Nat}{fp:Rz}(I:`j)(k:∀b o,b∉fp->s.heap.get? b∣o->h'.get? b∣o)(hf:∀b∈fp,mB X XR H b):Inv X XR σ H {s with heap:=h',toks:=t'}:=by
 let nit:∀b u,H b∣u->b∉fp:=λb u e z=>by rw[(hf b z).1] at e;cases e
 refine I.step (g':=s.gens) (d':=s.drawn) (ch:=fp) (λb hb=>⟨(hf b hb).2.2.2.1,(hf b hb).2.1,(hf b hb).2.2.2.2.1,(hf b hb).2.2.2.2.2⟩) (λb o _ _ hc e _=>k b o hc e) (λb o _ _ hc e _=>⟨o.slots,k b o hc e⟩) (λ_ _ _ _ n=>n)
  (λb o hc e=>⟨o,k b o hc e⟩) (λ_ _ e=>e) (λ_ _ _ e=>e) (λb ps e=>⟨#[],by rw[e];simp⟩) (λm hm=>?_) (λb u e=>?_) I.bare
 ·let⟨o,es,ep,ho,r⟩:=hm;exact⟨o,es,ep,k _ o (λz=>(hf _ z).2.1 rfl) ho,r⟩
 ·refine(I.XX b u e).Yt (λc v hc q=>k c v ?_ q) (λ_ q=>q) λ_ _ q=>q;obtain z | z:=hc
  ·rw[z];exact nit b u e
  ·exact nit c _ z
theorem adopt {o:HO}(I:`j)(hf:mB X XR H a)(hy:X.s₀.heap.objs.size<=a)(new:da X.prog X.w (upd H a o) s.heap a o):Inv X XR σ (upd H a o) s:=by
 let ne:∀{b:Addr}{u:HO},H b∣u->b≠a:=λe=>dt e hf.1;let ne0:∀{b:Addr}{u:Obj},X.s₀.heap.get? b∣u->b≠a:=λe z=>XE (UA (WT e) hy) (by rw[z];exact UC _);refine⟨I.ok,I.os,I.bare,⟨I.base.keep,I.base.slot,λb u e n hx=>by rw[aF (ne0 e)];exact I.base.free b u e n hx,I.base.there,λb xs e=>?_,λb u v e=>?_,λb ps e=>?_⟩,I.loc,I.cell,?_,λx c e=>?_,λp hp=>?_,λb u e=>?_,I.len⟩
 ·let q:=I.base.Y7 b xs e;rw[aF (ne q)];exact q
 ·let q:=I.base.Y1 b u v e;rw[aF (ne q)];exact q
 ·let⟨m,q⟩:=I.base.Y8 b ps e;exact⟨m,by rw[aF (ne q)];exact q⟩
 ·rw[aF (UT hf.2.1)];exact I.free
 ·rw[aF (hf.2.2.2.2.1 x c e)];exact I.YB x c e
 ·let⟨e,n,r⟩:=I.pin p hp;exact⟨e,by rw[aF (hf.2.2.2.2.2 p hp)];exact n,r⟩
 ·by_cases hb:b=a
  ·subst hb;rw[aD] at e;cases e;exact new
  ·rw[aF hb] at e;exact(I.XX b u e).Yt (λc v _ q=>q) (λc q=>by rw[aF (ne q)];exact q) λc xs q=>by rw[aF (ne q)];exact q
def Pp (K:Xh)(a:Addr):It:=
 ⟨λi H=>∃xs x,bw K H a xs/\xs[i]?∣x,λi H v H'=>∃p x,H p=none/\v= .ref p/\H'=upd H p (.tup [.int i,x])/\∀xs,bw K H a xs->xs[i]?∣x,λi H=>∃xs,bw K H a xs/\xs.length<=i⟩
theorem Dv {k:Nat}(a e it:Addr)(hei:e≠it):Turn P w K (.Tuple es k tp) (Pp K a) [e,it] e (λi h=>(∃old,IsEnum h e it i old)/\h.IsListIter it a i) where
 mem:=`d
 obj:=λi h st b hb=>by
  let⟨⟨old,he⟩,o,ho,hc,hd⟩:=st;obtain rfl | hb:=Sj.mp hb
  ·exact⟨_,he,λv z=>by cases z⟩
  ·let e2:b=it:= ~~~hb
   subst e2;exact⟨o,ho,λv z=>by rw[hd] at z;cases z⟩
 keep:=λi h h' st kk=>⟨st.1.elim λold he=>⟨old,kk e `d _ he⟩,st.2.at λo x=>kk it `d o x⟩
 item:=by
  intro X hP hw hK hc i XR s σ H E I hf st hg;subst hP hw hK;let⟨⟨old,he⟩,hit⟩:=st;let⟨xs,x,hq,hx⟩:=hg;let⟨XT,r,pl,hz⟩:=I.list hq;let⟨u,hu,rx⟩:=r.get hx;let hn:H ⇑s=none:=I.XX.fresh (Uw _);refine wpAny_pyNext_enum_item he hit pl.isList (x:=u) (~~~hu) hei λh' ho hit' hT hsz hk=>?_;refine⟨_,rfl,?_⟩;refine wpAny_letOwnedTupleGo_enum (s:={s with heap:=h',toks:=s.toks+1}) ho λh2 he2 Ys=>?_;let hk2:∀b o,b∉[e,it]->s.heap.get? b∣o->h2.get? b∣o:=λb o hb q=>by
   let hbe:b≠e:=λz=>hb (by simp[z]);exact Ys.extBut b o hbe (hk b o hbe (λz=>hb (by simp[z])) q)
  let I1:Inv X XR σ H {s with heap:=h2,toks:=s.toks+1}:=pF I hk2 hf;let hel:e≠⇑s:=UB (WT he);let hT2:h2.get? ⇑s=some {cls:=.type "tuple",data:=.seq #[.int i s.toks,u]}:=(Ys.2 _ (UT hel)).trans hT;let I2:Inv X XR σ (upd H ⇑s (.tup [.int i,x])) {s with heap:=h2,toks:=s.toks+1}:=
   adopt I1 (I.j8 (Uw _) hn) (I.sz) ⟨by show 2<=U9;decide,[.int i s.toks,u],.cons ⟨_,rfl⟩ (.cons rx .nil),⟨_,hT2,rfl,_,rfl⟩⟩
  refine⟨.ref ⇑s,_,I2,rfl,⟨⇑s,x,hn,rfl,rfl,λys hy=>?_⟩,⟨⟨u,by simpa using he2⟩,hit'.at λo y=>(Ys.2 it (UT hei)).trans y⟩,λb hb=>?_⟩
  ·rw[I.oa hy hq];exact hx
  ·let YA:b<⇑s:=by
    obtain rfl | hb:=Sj.mp hb
    ·exact WT he
    ·let e2:b=it:= ~~~hb
     subst e2;let⟨o,ho,_⟩:=hit;exact WT ho
   rw[aF (UB YA)];exact(hf b hb).1
 done:=by
  intro X hP hw hK hc i XR s σ H E I hf st hg;subst hP hw hK;let⟨⟨old,he⟩,hit⟩:=st;let⟨xs,hq,hx⟩:=hg;let⟨XT,r,pl,hz⟩:=I.list hq;refine wpAny_pyNext_enum_end (I.ok.hd hc) he hit pl.isList (by have:=r.length;simp;cbv) λh' hk=>⟨rfl,?_⟩;exact pF (t':=s.toks) I (λb o hb q=>hk b o (λz=>hb (by simp[z])) q) hf
 self:=λ_ _ _ _ _ st h=>st.1.elim λold he=>wpAny_pyIter_enum he h
def OJ (K:Xh)(ta:TA):TI:=λσ H R=>ta σ H λvs H1=>∃a xs,vs=[.ref a]/\bw K H1 a xs/\R (Pp K a) H1
theorem Iu {a:Expr}{ta:TA}{p:Pos}{k:Nat}(hg:Gl X "enumerate")(hm:X.mg "enumerate"=none)(ha:PA X [a] ta)(hs:fW X a:=by rfl):PI X (.Tuple es k tp) (.Call (.Name "enumerate" p) [a] [] pos) (OJ X.K ta):=by
 intro XR s σ H R I h;refine Call_ (ji I hg hm boot_enumerate (U1 `V hs rfl));let⟨l,xs,e,hq,q⟩:=q1;subst e;cases r1 with
 | cons r rr=>
   cases rr
   cases r
   let⟨XT,r',pl,hz⟩:=I1.list hq;refine call_enumerate_list pl.isList λh' he hit hsz hk=>?_;refine wpAny_pyIter_enum he ?_;let I2:Inv X XR σ H1 {s1 with heap:=h'}:=I1.kept (t':=s1.toks) hk;let f0:H1 ⇑s1=none:=I1.XX.fresh (Uw _);let f1:H1 (⇑s1+1)=none:=I1.XX.fresh (UH _);refine⟨⇑s1+1,[⇑s1+1,⇑s1],_,_,H1,rfl,I2,Dv l (⇑s1+1) ⇑s1 (UJ (UG _)),⟨⟨.none,he⟩,hit⟩,λb hb=>?_,q⟩;obtain rfl | hb:=Sj.mp hb
   ·exact I1.j8 (UH _) f1
   ·let e2:b=⇑s1:= ~~~hb
    subst e2;exact I1.j8 (Uw _) f0
noncomputable def nums (xs:`u):List (Int×α):=(xs.zipIdx).map λp=>((p.2:Int),p.1)
theorem cK (xs:`u):(nums xs).length=xs.length:=by unfold nums;rw[R9,List.length_zipIdx]
theorem fw {y:Int×α}(h:(nums xs)[i]?∣y):y.1=(i:Int)/\xs[i]?∣y.2:=by
 unfold nums at h;rw[Sf,List.getElem?_zipIdx] at h;cases e:xs[i]? with
 | none=>rw[e] at h;cases h
 | some x=>rw[e] at h;cases h;exact⟨`d,rfl⟩
theorem iQ {a:Expr}{p:Pos}{k:Nat}(hm:X.mg "enumerate"=none)(ha:EV X a Z (ae r) xs Γ1)(hs:fW X a:=by rfl)(hg:Gl X "enumerate":=by rfl):
 IV X (.Tuple es k tp) (.Call (.Name "enumerate" p) [a] [] pos) Z (cQ ag r) (nums xs) Γ1:=by
 refine⟨_,Iu hg hm `bh hs,λσ H0 R0 H R E Rq q=>ha σ H0 R0 H R E _ λv H1 R1 E1 s1 e1=>?_⟩;let⟨a,vs,rfl,hp,pp,z⟩:=e1;refine⟨a,vs,rfl,bw.of (E1.sub _ _ hp),q _ H1 R1 E1 s1 (by rw[cK];exact z) λH' R' sR sH i=>⟨λy hy=>?_,λhi=>?_⟩⟩
 ·let hq:bw X.K H' a vs:=bw.of (sH _ _ (sR _ _ hp));let⟨e1,e2⟩:=fw hy;let⟨v,hv,hr⟩:=fH pp e2;refine⟨⟨vs,v,hq,hv⟩,λv' H2 hyl=>?_⟩;let⟨p,x,hpn,rfl,rfl,hy⟩:=hyl;have:=hy vs hq;rw[hv] at this;cases this
  let s2:au R' (upd R' p (.tup [.int i,v])):=au.fresh (sH.free hpn) _;exact⟨upd R' p (.tup [.int i,v]),Ext.fresh sH hpn _,p,_,_,rfl,aD,by rw[e1];rfl,r.mono s2 (r.mono sR hr)⟩
 ·exact⟨vs,bw.of (sH _ _ (sR _ _ hp)),by rw[pp.length,← cK xs];exact hi⟩
theorem yG:fO X (.builtin "isinstance") (λxs H Q=>∃x c t b,xs=[x,.ty c]/\f7 X.K H x t/\XB X.K t (.type c)∣b/\Q (.bl b) H):=by
 intro XR s σ H xs us Q I r h;let⟨x,c,t,b,rfl,ty,e,q⟩:=h;let⟨u,u2,rfl,r1,r2⟩:=vals2 r;cases (show u2=Xg c from r2)
 exact CY I r1 ty e λtk=>⟨.bl b,H,I.tok tk,rfl,q⟩
theorem bA {p:Pos}{x:α}{c:String}{t:`aK}{b:Bool}(hm:X.mg "isinstance"=none)(hmy:X.mg y=none)(hvy:VA y∣.type c)(he:EV X e Z r x Γ1)(ty:∀(R H:Hp) v,au R H->r.R X.K R v x->f7 X.K H v t)(ht:∀K:Xh,XB K t (.type c)∣b:=by intro;rfl)(hs:Vf [e,.Name y p2] X.env=(false,eval e X.env)::Vf [.Name y p2] X.env:=by rfl)(hg:Gl X "isinstance":=by rfl)(hgy:Gl X y:=by rfl)(hny:y≠"__name__":=by decide)(hdy:YJ y:=by decide):EV X (.Call (.Name "isinstance" p) [e,.Name y p2] [] pos) Z dc b Γ1:=by
 intro σ H0 R0 H R E Q q;refine eS (eO yG hg hm PyProof.Rows.boot_isinstance (aI aN (aI (Ig (v:=.ty c) hgy hmy hvy rfl hny hdy) br rfl) hs) `c `c hs rfl) `K;exact⟨v,c,t,b,rfl,ty R1 H1 v E1.sub e1,ht _,q _ H1 R1 E1 s1 rfl⟩
theorem ty_int {x:Int}(R H:Hp)(v:V)(_:au R H)(h:ag.R K R v x):f7 K H v (.type "int"):=by cases h;exact .int _
theorem ty_list (R H:Hp)(v:V)(s:au R H)(h:(ae r).R K R v xs):f7 K H v (.type "list"):=by let⟨a,vs,rfl,e,_⟩:=h;exact .lst (s _ _ e)
structure tH (r:Rep α)[DecidableEq α](n:Nat):Prop where
 inj:∀{K:Xh}{R:Hp}{v:V}{x y:α},r.R K R v x->r.R K R v y->x=y
 eq:∀{X:Cx}{XR:Ru}{σ:St}{H:Hp}{s:Va}{R:Hp}{A:Vg}(I:`j)(sub:au R H){v u:V}{vv uu:`aK}{x y:α},RelV v vv->RelV u uu->r.R X.K R v x->r.R X.K R u y->A.units+n<cLine->W6 A s vv uu (decide (x=y))
theorem eq_int:tH ag 0:=by
 refine⟨by rintro K R v x y h1 h2;cases h1;cases h2;rfl,?_⟩
 intro X XR σ H s R A I sub v u vv uu x y rv ru h1 h2 hu;cases h1
 cases h2
 let⟨t,rfl⟩:=rv;let⟨t',rfl⟩:=ru;intro prog w E Q hq;refine wpAny_eqBool_int ?_;rw[RL];exact hq
theorem in1_units (A:Vg):A.in1.units=A.units+1:=rfl
theorem JE {A:Vg}(I:`j)(sub:au R H){b:Addr}{k:Nat->Bool}(ha:R a∣.tup vs)(hb:R b∣.tup ws)(hl:vs.length=ws.length)(hu:A.units<cLine)(he:∀(us us':RC),Vals vs us->Vals ws us'->∀(j:Nat)(h1:j<us.toArray.size)(h2:j<us'.toArray.size),W6 A.in1 s us.toArray[j] us'.toArray[j] (k j)):
 SeqAt.RcAt A s (.ref a) (.ref b) ((Sm vs.length).all k)/\SeqAt.RcNeAt A s (.ref a) (.ref b) (!(Sm vs.length).all k):=by
 let⟨us,hv,pl,_⟩:=I.tuple (dY.of (sub _ _ ha));let⟨us',hw,ZV,_⟩:=I.tuple (dY.of (sub _ _ hb));let lx:us.toArray.size=vs.length:=by rw[Ss,← hv.length]
 let ly:us'.toArray.size=vs.length:=by rw[Ss,← hw.length,hl]
 let r1:=SeqAt.RcAt.tuples (A:=A) pl ZV hu (he us us' hv hw);let r2:=SeqAt.RcNeAt.tuples (A:=A) pl ZV hu (he us us' hv hw);rw[lx,ly,Nat.min_self] at r1 r2;simp only[beq_self_eq_true,RP] at r1 r2;exact⟨r1,r2⟩
theorem uH:fO X (.type "range") (λxs H Q=>∃n:Int,xs=[.int n]/\∀p,H p=none->Q (.ref p) (upd H p (.Z8 0 n))):=by
 intro XR s σ H xs us Q I r h;let⟨n,rfl,q⟩:=h;let⟨u,rfl,t,rfl⟩:=vals1 r;refine call_range_1 ?_;exact⟨.ref ⇑s,_,I.laid (o:=.Z8 0 n) (λb o e=>WR _ e) (Uw _) ⟨_,_,_,WU _ rfl⟩,rfl,q _ (I.XX.fresh (Uw _))⟩
theorem uk:fO X (.type "range") (λxs H Q=>∃m n:Int,xs=[.int m,.int n]/\∀p,H p=none->Q (.ref p) (upd H p (.Z8 m n))):=by
 intro XR s σ H xs us Q I r h;let⟨m,n,rfl,q⟩:=h;let⟨u,u2,rfl,⟨t,rfl⟩,⟨t2,rfl⟩⟩:=vals2 r;refine call_range_2 ?_;exact⟨.ref ⇑s,_,I.laid (o:=.Z8 m n) (λb o e=>WR _ e) (Uw _) ⟨_,_,_,WU _ rfl⟩,rfl,q _ (I.XX.fresh (Uw _))⟩
theorem oJ (hc:X.calm=true):fO X (.type "list") (λxs H Q=>∃(p:Addr)(m n:Int),xs=[.ref p]/\H p∣.Z8 m n/\ -1000000<=m/\m<=1000000/\ -1000000<=n/\n<=1000000/\∀d,H d=none->Q (.ref d) (upd H d (.lst ((ups m (n-m).toNat).map V.int)))):=by
 intro XR s σ H xs us Q I r h;let⟨p,m,n,rfl,hp,m1,m2,n1,n2,q⟩:=h;let⟨u,rfl,rx⟩:=vals1 r;cases rx
 let⟨t,t2,t3,ho⟩:=I.XX p _ hp;let hsz:Wt m n 1=(((n-m).toNat:Nat):Int):=by rw[rangeSize_one];split<;>cbv
 refine call_list_range (I.ok.hd hc) ho (small_one `a `a `a `a) hsz `a λh' tk acc c' hk hS hacc=>?_;let vals:Vals ((ups m (n-m).toNat).map V.int) acc.toList:=by
  let key:∀(k:Nat)(XT:RC)(lo:Int),XT.length=k->(∀(j:Nat) v,XT[j]?∣v->∃t,v= .int (lo+(j:Int)*1) t)->Vals ((ups lo k).map V.int) XT:=by
   intro k
   induction k with
   | zero=>intro XT lo hl _;cases XT with
     | nil=>exact .nil
     | cons _ _=>cases hl
   | succ k ih=>
     intro XT lo hl hv;cases XT with
     | nil=>cases hl
     | cons v r=>
       let e:ups lo (k+1)=lo::ups (lo+1) k:=by
        unfold ups;rw[List.range_succ_eq_map,SK,Ta];congr 1
        ·simp
        ·apply Tu;intro a _;simp;cbv
       rw[e,SK];let⟨t,e0⟩:=hv 0 v rfl;refine .cons ⟨t,by rw[e0];simp⟩ (ih r (lo+1) (~~~hl) λj v hj=>?_);let⟨t,ej⟩:=hv (j+1) v (~~~hj);exact⟨t,by rw[ej];congr 1;push_cast;cbv⟩
  refine key _ _ m (by rw[RG];exact hacc.1) λj v hj=>hacc.2 j v (~~~hj)
 exact⟨.ref _,_,I.laid (a:=⇑s) (o:=.lst ((ups m (n-m).toNat).map V.int)) hk (Uw _) ⟨by rw[R9,bp];exact Ux (show(n-m).toNat<=2000000 by cbv) `c,acc.toList,c',vals,by rw[hS]⟩,rfl,q _ (I.XX.fresh (Uw _))⟩
end
noncomputable def ud (scope:Scope)(env:Env):List (Str×Addr):=(scope.names.filterMap λp=>if p.2== .free then(env.cells.lookup p.1).map (λc=>(p.1,c)) else none).reverse
theorem r9 {env:Env}:∀(names:List (Str×VH))(acc:`aO),(∀y∈names,y.2= .free->∃c,env.cells.lookup y.1∣c)->
 (forIn names acc λ(x:Str×VH)(r:`aO)=>if(x.2==VH.free)=true then do let a ← cellOf env x.1;pure (RR ((x.1,a)::r)) else pure (RR r):Sem (List (Str×Addr)))
  =pure ((names.filterMap λp=>if p.2== .free then(env.cells.lookup p.1).map (λc=>(p.1,c)) else none).reverse++acc)
 | [],acc,_=>rfl
 | (n,k)::r,acc,h=>by
   let ih:=r9 (env:=env) r;rw[Us,T7];cases hk:(k==VH.free) with
   | false=>
     simp only[hk,RM,if_false];rw[pure_bind];exact ih acc λy hy=>h y (Sb _ hy)
   | true=>
     let⟨c,hc⟩:=h (n,k) Se (eq_of_beq hk);let Zb:cellOf env n=pure c:=by unfold cellOf;rw[hc]
     simp only[hk,if_true,hc,UX,Zb];rw[pure_bind,pure_bind];show forIn r ((n,c)::acc) _=_;rw[ih ((n,c)::acc) λy hy=>h y (Sb _ hy)];simp
theorem A8 {own:Rx}(hk:scope.kind= .function)(hn:∀y∈scope.names,y.2≠ .cell)(hl:∀y∈scope.names,y.2= .local->scope.names.lookup y.1∣.local)(hc:∀x,X.env.scope.names.lookup x∣.cell->∃c,X.env.cells.lookup x∣c)(hf:∀y∈scope.names,y.2= .free->X.env.scope.names.lookup y.1∣.cell)(hfr:∀x∈fr,scope.names.lookup x∣.free)(hlen:fr.length=ix.length)(Yw:∀(k i:Nat)(x:Str),ix[k]?∣i->fr[k]?∣x->X.N[i]?∣x):fF X scope (ud scope X.env) own fr ix:=by
 let free:∀y∈scope.names,y.2= .free->∃c,X.env.cells.lookup y.1∣c:=λy hy e=>hc _ (hf y hy e);refine⟨?_,λx c e=>?_,hk,hn,hl,λx e=>?_,hfr,hlen,λk i x e1 e2=>⟨Yw k i x e1 e2,hf (x,.free) (Vl (hfr x (Sg e2))) rfl⟩⟩
 ·have:=r9 (env:=X.env) scope.names [] free;rw[Sw] at this;let e:closureFor scope X.env=((forIn scope.names [] λ(x:Str×VH)(r:`aO)=>if(x.2==VH.free)=true then do let a ← cellOf X.env x.1;pure (RR ((x.1,a)::r)) else pure (RR r):Sem (List (Str×Addr))) >>=λcs=>pure cs):=rfl;rw[e,this,pure_bind];rfl
 ·let m:=Vl e;unfold ud at m;let⟨p,_,hp⟩:=Uc.mp (List.mem_reverse.mp m);split at hp
  ·cases q:X.env.cells.lookup p.1 with
   | none=>rw[q] at hp;cases hp
   | some c'=>rw[q] at hp;cases hp;exact q
  ·cases hp
 ·let m:=Vl e;let⟨c,hcc⟩:=free _ m rfl;let m2:(x,c)∈ud scope X.env:=by
   unfold ud;refine List.mem_reverse.mpr (Uc.mpr ⟨(x,.free),m,?_⟩);simp[hcc]
  cases q:(ud scope X.env).lookup x with
  | some c'=>exact⟨c',rfl⟩
  | none=>
    rw[List.lookup_eq_none_iff] at q;exact XE (q _ m2) `d
noncomputable def CK (scope so:Scope)(N0 fr:Rx)(ix:List Nat):Bool:=
 decide (scope.kind= .function)&&scope.names.all (λy=>decide (y.2≠ .cell)&&(decide (y.2≠ .local) ||decide (scope.names.lookup y.1∣.local))&&(decide (y.2≠ .free) ||decide (so.names.lookup y.1∣.cell)))
  &&fr.all (λx=>decide (scope.names.lookup x∣.free))&&decide (fr.length=ix.length)&&(Sm ix.length).all λk=>match ix[k]?,fr[k]? with | some i,some x=>decide (N0[i]?∣x) | _,_=>true
theorem bH {so:Scope}{N0 own:Rx}(hso:X.env.scope=so)(hN0:X.N=N0)(hc:∀x,X.env.scope.names.lookup x∣.cell->∃c,X.env.cells.lookup x∣c)(h:CK scope so N0 fr ix=true):fF X scope (ud scope X.env) own fr ix:=by
 unfold CK at h;simp only[RJ,RN,decide_eq_true_eq,T1] at h;let⟨⟨⟨⟨h1,h2⟩,h3⟩,h4⟩,h5⟩:=h;refine A8 h1 (λy hy=>(h2 y hy).1.1) (λy hy e=>(h2 y hy).1.2.resolve_left λz=>z e) hc (λy hy e=>by rw[hso];exact(h2 y hy).2.resolve_left λz=>z e) h3 h4 λk i x e1 e2=>?_;let hk:k<ix.length:=(R6.mp e1).1;have:=h5 k (Tb.mpr hk);rw[e1,e2] at this;rw[hN0];simpa using this
theorem Ao (i:Nat){k:Nat}{p:Pos}{Pd:α->Prop}(C:`aP)(hr:bG k X.A)(ha:HA X (e::es) Z ps Γ1)(hS:S X.K ps (cR X.K r Pd))(h:∀z,Pd z->N (Γ1.set i (.im r z)))(hg:Gl X x:=by rfl)(Yo:YJ x:=by decide)(he:dq X e es:=by rfl)(Yb:fc X p2 es:=by rfl)(hN:X.N.Nodup:=by first | assumption | decide)(hi:X.N[i]?∣y:=by rfl)(hx:`aw)(hs:Vh (.Call `aq (e::es) [] p2) (some (.Name y p1)) pos.line X.env=pure false:=by rfl)(hf:autoParam (fM X y) YU):
 W1 X (.Assign [.Name y p1] (.Call `aq (e::es) [] p2) pos) Z N T:=λσ H0 R0 H R E D dn dr=>
 sS (jV hN hi hx aN hs hf) (lH C hr ha hS E (λH1 R1 v H' R' E1 s1 xx t=>by
  let⟨z,e1,hz⟩:=t;exact dn _ H' R' _ ((E1.grow xx).set i e1) (s1.trans xx.r) (h z hz)) hg Yo he Yb)
theorem JU {w:Row}(h:EV X iter Z dU w Γ1):IV X tg iter Z ag [w.1,w.2.1,w.2.2.1,w.2.2.2] Γ1:=by
 refine⟨_,D6 aN,λσ H0 R0 H R E Rq q=>h σ H0 R0 H R E _ λv H1 R1 E1 s1 e1=>?_⟩;let⟨a,rfl,ha⟩:=e1;let ZQ:∀H' R':Hp,au R1 R'->au R' H'->dY X.K H' a [.int w.1,.int w.2.1,.int w.2.2.1,.int w.2.2.2]:=λH' R' sR sH=>dY.of (sH _ _ (sR _ _ ha));refine⟨a,rfl,⟨_,ZQ H1 R1 `S E1.sub⟩,q _ H1 R1 E1 s1 (by show 4<=U9;decide) λH' R' sR sH i=>⟨λx hx=>?_,λhi=>⟨_,ZQ H' R' sR sH,hi⟩⟩⟩;let e2:([.int w.1,.int w.2.1,.int w.2.2.1,.int w.2.2.2]:List V)[i]?∣.int x:=by
  have:=congrArg (Option.map V.int) hx;rw[← Sf] at this;exact this
 refine⟨⟨_,_,ZQ H' R' sR sH,e2⟩,λv H2 hy=>?_⟩;let⟨rfl,hy⟩:=hy;have:=hy _ (ZQ _ R' sR sH);rw[e2] at this;cases this
 exact⟨R',Ext.refl sH,rfl⟩
variable {rr:Rep β}
theorem IX:fm X (VE .Mult) (rI Wl λi j=>.int (i*j)):=zw λ_ _ _ _ _ _ _ hc q=>mul_int q hc
theorem nq {a:Expr}{x y:Int}(ha:EV X a Z ag x Γ1)(hb:EV X b Γ1 ag y Γ2)(h:Wl x y):EV X (.BinOp a .Mult b pos) Z ag (x*y) Γ2:=kI IX ha hb λR v u H Q e1 e2 q=>⟨x,y,e1,e2,h,q _ rfl⟩
noncomputable def aO (a:Addr)(r:Rep α)(xs:`u):oK where
 fp:=[a]
 R:=λK H R v=>v= .ref a/\∃vs,H a∣.lst vs/\PySem.Paired (r.R K R) vs xs
 loc:=λhH hR ⟨e,vs,h,p⟩=>⟨e,vs,(hH a (Sa.mpr rfl)).trans h,Paired.map (λ_ _=>r.mono hR) p⟩
 has:=λ⟨e,vs,h,p⟩ b hb=>by rw[Sa.mp hb,h];exact UW _
theorem mN (h:H a∣.lst vs)(hR:R a=none)(p:PySem.Paired (r.R K R) vs xs):(Ent.ob (aO a r xs)).ok K H R (some (.ref a)):=
 ⟨⟨_,rfl,rfl,vs,h,p⟩,λb hb=>by rw[Sa.mp hb];exact hR⟩
theorem dk (h:(Ent.ob (aO a r xs)).ok K H R o):o∣.ref a/\(∃vs,H a∣.lst vs/\PySem.Paired (r.R K R) vs xs)/\R a=none:=by
 let⟨⟨v,rfl,rfl,q⟩,n⟩:=h;exact⟨rfl,q,n a (Sa.mpr rfl)⟩
theorem WS.box (i:Nat){YG:List Stmt}(hΓ:`aB)(h:∀a,WS X YG (Z.set i (.ob (aO a r xs))) N T):WS X YG Z N T:=λσ H0 R0 H R E D dn dr=>by
 let⟨a,vs,ea,ha,hR,pp⟩:=E.ent i _ hΓ;exact h a σ H0 R0 H R (E.tell hΓ (by rw[ea];exact mN ha hR pp) λb w=>by
  rw[show b=a from Sa.mp w];exact cq.mpr ea) D dn dr
theorem EV.box (i:Nat){xs':`u}{y:β}(h:EV X e (Z.set i (.mu r xs)) rr y Γ1)(hΓ:Z[i]?∣(.ob (aO a r xs)))(hΓ1:Γ1[i]?∣.mu r xs'):EV X e Z rr y (Γ1.set i (.ob (aO a r xs'))):=by
 intro σ H0 R0 H R E Q q;let⟨ea,⟨vs,ha,pp⟩,hR⟩:=dk (E.ent i _ hΓ);refine h σ H0 R0 H R (E.tell hΓ (by rw[ea];exact⟨a,vs,rfl,ha,hR,pp⟩) λb w=>by rw[cq.mp w] at ea;cases ea;exact Sa.mpr rfl) Q λv H' R' E' s' hr=>q v H' R' ?_ s' hr
 let⟨a',Yr,Yq,YE,Yu,YM⟩:=E'.ent i _ hΓ1;rw[ea] at Yq;cases Yq
 exact E'.tell hΓ1 (by rw[ea];exact mN YE Yu YM) λb w=>by rw[show b=a from Sa.mp w];exact cq.mpr ea
theorem TV.box (i:Nat){xs':`u}{y:Bool}(h:TV X e (Z.set i (.mu r xs)) y Γ1)(hΓ:Z[i]?∣(.ob (aO a r xs)))(hΓ1:Γ1[i]?∣.mu r xs'):TV X e Z y (Γ1.set i (.ob (aO a r xs'))):=by
 intro σ H0 R0 H R E Q q;let⟨ea,⟨vs,ha,pp⟩,hR⟩:=dk (E.ent i _ hΓ);refine h σ H0 R0 H R (E.tell hΓ (by rw[ea];exact⟨a,vs,rfl,ha,hR,pp⟩) λb w=>by rw[cq.mp w] at ea;cases ea;exact Sa.mpr rfl) Q λH' R' E' s'=>q H' R' ?_ s'
 let⟨a',Yr,Yq,YE,Yu,YM⟩:=E'.ent i _ hΓ1;rw[ea] at Yq;cases Yq
 exact E'.tell hΓ1 (by rw[ea];exact mN YE Yu YM) λb w=>by rw[show b=a from Sa.mp w];exact cq.mpr ea
theorem dM (j:Nat){i:Int}{y:α}(hb:EV X b Z ag i Z)(hΓ:Z[j]?∣(.ob (aO a r xs)))(h:bX xs i∣y)(hN:X.N[j]?∣x:=by rfl)(hv:autoParam (Dz X.env.scope x) vA1)(hs:dP b:=by exact λ_ _=>rfl)(hd:YJ x:=by decide)(ZN:Cd0 x:=by decide):EV X (.Subscript `h b pos) Z r y Z:=by
 intro σ H0 R0 H R E Q q;let⟨ea,⟨vs,ha,pp⟩,hR⟩:=dk (E.ent j _ hΓ);refine eS (iy gT (aV ⟨hN,hv,hd,ZN⟩) aN hs) ⟨.ref a,at_of ea,hb σ H0 R0 H R E _ λu H2 R2 E2 s2 e2=>?_⟩;let⟨Yq,⟨Yr,YE,YM⟩,Yu⟩:=dk (E2.ent j _ hΓ);let⟨w,e3,e4⟩:=jf YM h;exact⟨a,Yr,i,w,rfl,e2,bw.of YE,e3,q w H2 R2 E2 s2 e4⟩
theorem eN (i:Nat){y:α}{k:Int}(he:EV X e Z r y Γ1)(hb:EV X b Γ1 ag k Γ2)(hΓ1:Γ1[i]?∣(.ob (aO a r xs)))(hΓ2:Γ2[i]?∣(.ob (aO a r xs)))(hj:fL xs.length k∣j)(h:N (Γ2.set i (.ob (aO a r (xs.set j y)))))(hN:`o)(ha:∀v,VD `ag X.env v=(do
  let ov ← Vu [v] (eval `h X.env)
  let iv ← Vu [v,ov] (eval b X.env)
  VR p2
  Vu [v,ov,iv] (We ov iv v)
  release [v,ov,iv] []):=by intro _;rfl)(hs:VP [.Subscript `h b p2] e pos.line X.env=pure false:=by rfl)(hw:VQ [.Subscript `h b p2] e X.env=pure none:=by rfl)(h1:(Vp [.Subscript `h b p2] X.env).map (·.2)=[VD `ag X.env]:=by rfl):
 W1 X (.Assign [.Subscript `h b p2] e pos) Z N T:=λσ H0 R0 H R E D dn dr=>by
 refine sS (sD aN (xE (aV hN) aN set_list ha) hs hw h1) `K;let⟨ea,⟨vs,hp,pp⟩,hR⟩:=dk (E1.ent i _ hΓ1);refine⟨.ref a,at_of ea,hb σ H0 R0 H1 R1 E1 _ λu H2 R2 E2 s2 e2=>?_⟩;let⟨Yq,⟨Yr,YE,YM⟩,Yu⟩:=dk (E2.ent i _ hΓ2);refine⟨a,Yr,k,j,rfl,e2,YE,by rw[YM.length];exact hj,?_⟩;exact dn σ _ R2 _ (E2.lu (en:=.ob (aO a r (xs.set j y))) hΓ2 (Sa.mpr rfl) (by rw[Yq];exact mN aD Yu (kG (r.mono s2 e1) j YM)) λb w=>.inl w) `E h
noncomputable def del (H:Hp)(a:Addr):Hp:=λb=>if b=a then none else H b
theorem xv :del H a a=none:=XG rfl
theorem pd {b:Addr}(h:b≠a):del H a b=H b:=XF h
theorem HM :au (del H a) H:=λb o q=>by
 by_cases h:b=a
 ·subst h;rw[xv] at q;cases q
 ·rwa [pd h] at q
theorem ar.GZ {H' R':Hp}(E:`C)(off:Off a σ Z)(h0:H0 a=none)(x:Ext (del H a) R H' R'):ar K σ H0 R0 H' R' Z:=by
 let ne:∀{b:Addr},H0 b≠none->b≠a:=λh e=>h (e▸h0);refine⟨⟨λb o q=>?_,E.ext.r.trans x.r,x.s,λb hb=>?_⟩,λi e q=>?_,E.nw,E.ds,E.len⟩
 ·exact x.h b o (by rw[pd (ne (by rw[q];exact UW _))];exact E.ext.h b o q)
 ·refine(x.old b ?_).trans (E.ext.old b hb);rw[pd (ne hb)];exact au.some E.ext.h hb
 ·let h1:=E.ent i e q;let na:∀b∈e.fp (σ[i]?).join,b≠a:=λb hb z=>off i e q (z▸hb);refine h1.loc (λb hb=>?_) x.r λb hb=>?_
  ·cases e2:H b with
   | none=>exact XE e2 (Ent.fE h1 hb).1
   | some u=>exact x.h b u (by rw[pd (na b hb)];exact e2)
  ·exact(x.old b (by rw[pd (na b hb)];exact(Ent.fE h1 hb).1)).trans (Ent.fE h1 hb).2
theorem ar.ma (E:`C){e0:Ent}(hi:Z[i]?∣e0)(ho:en.ok K H R (σ[i]?).join)(Yl:∀b∈en.fp (σ[i]?).join,H0 b=none/\∀(j:Nat)(e:Ent),j≠i->Z[j]?∣e->b∉e.fp (σ[j]?).join):ar K σ H0 R0 H R (Z.set i en):=by
 refine⟨E.ext,λj e q=>?_,λj e b q w=>?_,λj k e e' b q q' w w'=>?_,by rw[SR];exact E.len⟩
 ·obtain⟨rfl,rfl,_⟩ | ⟨hj,q1⟩:=set_at q
  ·exact ho
  ·exact E.ent j e q1
 ·obtain⟨rfl,rfl,_⟩ | ⟨hj,q1⟩:=set_at q
  ·exact(Yl b w).1
  ·exact E.nw j e b q1 w
 ·obtain⟨rfl,rfl,_⟩ | ⟨hj,q1⟩:=set_at q
  ·obtain⟨rfl,rfl,_⟩ | ⟨hk,Y2⟩:=set_at q'
   ·rfl
   ·exact XE w' ((Yl b w).2 k e' hk Y2)
  ·obtain⟨rfl,rfl,_⟩ | ⟨hk,Y2⟩:=set_at q'
   ·exact XE w ((Yl b w').2 j e hj q1)
   ·exact E.ds _ _ _ _ b q1 Y2 w w'
abbrev mf (α:Type):=Xh->List α->List Pk->(List α->RT)->Prop
def gG (r:Rep α)(S:mf α)(K:Xh):Sp:=λvs H Q _=>∃R a ws xs Yr ps T,vs= .ref a::Yr/\au R H/\R a=none/\H a∣.lst ws/\PySem.Paired (r.R K R) ws xs/\mm K R Yr ps/\S K xs ps T/\
 ∀v H' R' YT xs',Ext (del H a) R H' R'->H' a∣.lst YT->R' a=none->PySem.Paired (r.R K R') YT xs'->T xs' (del H a) v H' R'->Q v H'
theorem DN {S:mf α}{k:Nat}{p:Pos}{TM:List α->RT}(i:Nat)(C:`aJ)(hr:bG k X.A)(ha:HA X es Z ps Γ1)(hΓ:`aB)(hΓ1:Γ1[i]?∣.mu r xs)(hS:S X.K xs ps TM)(E:`aU)(q:∀H1 v H' R' xs',ar X.K σ H0 R0 H' R' (Γ1.set i (.mu r xs'))->au R R'->TM xs' H1 v H' R'->Q v H')(hg:Gl X x)(Yo:(x==("__debug__":Str))=false)(he:Vf (.Name y p1::es) X.env=(false,eval (.Name y p1) X.env)::Vf es X.env)(Yb:fc X pos es)(hN:At X i y):fU X (.Call `aq (.Name y p1::es) [] pos) σ H Q:=by
 let⟨f,fd,pn,F,hm,hk,hb⟩:=C.ex;let⟨a,vs,ea,_,_,_⟩:=E.ent i _ hΓ;refine eS (iZ F hr hg hm hk hb .nil kx (aI (aV hN) lU he) Yo he Yb) ⟨.ref a,at_of ea,ha σ H0 R0 H R E _ λus H1 R1 E1 s1 p1=>?_⟩;let⟨a',ws,Yq,hp,hR,pp⟩:=E1.ent i _ hΓ1;rw[ea] at Yq;cases Yq
 let h0:H0 a=none:=E1.new i _ a hΓ1 rfl ea;refine⟨R1,a,ws,xs,us,ps,TM,by rw[Sw],E1.sub,hR,hp,pp,p1,hS,λv H' R' YT xs' xx h1 h2 pq t=>q _ v H' R' xs' ?_ (s1.trans xx.r) t⟩;let apart:∀(j:Nat)(e:Ent),j≠i->Γ1[j]?∣e->a∉e.fp (σ[j]?).join:=λj e hj qj w=>hj (E1.ds j i e _ a qj hΓ1 w (cq.mpr ea));let E2:ar X.K σ H0 R0 H1 R1 (Γ1.set i .no):=E1.tell hΓ1 trivial λb w=>by cases w
 let E3:=E2.GZ (a:=a) (λj e qj w=>by
  obtain⟨rfl,rfl,_⟩ | ⟨hj,q1⟩:=set_at qj
  ·cases w
  ·exact apart j e hj q1 w) h0 xx
 let hl:i<Γ1.length:=(R6.mp hΓ1).1;let E4:=E3.ma (i:=i) (e0:=.no) (en:=.mu r xs') (Sh hl) (by rw[ea];exact⟨a,YT,rfl,h1,h2,pq⟩) λb w=>by
  let eb:b=a:=by rw[cq.mp w] at ea;cases ea;rfl
  subst eb;exact⟨h0,λj e hj qj=>apart j e hj (by rwa [SF (UT hj)] at qj)⟩
 rw[Ti] at E4;exact E4
theorem xg (i:Nat){S:mf α}{k:Nat}{p:Pos}{st:`u}{z:β}(C:`aJ)(hr:bG k X.A)(ha:HA X es Z ps Γ1)(hΓ:`aB)(hΓ1:Γ1[i]?∣.mu r xs)(hS:S X.K xs ps (λxs'=>cR X.K rr λw=>xs'=st/\w=z))(hg:Gl X x:=by rfl)(Yo:YJ x:=by decide)(he:Vf (.Name y p1::es) X.env=(false,eval (.Name y p1) X.env)::Vf es X.env:=by rfl)(Yb:fc X pos es:=by rfl)(hN:autoParam (At X i y) cb):
 EV X (.Call `aq (.Name y p1::es) [] pos) Z rr z (Γ1.set i (.mu r st)):=λσ H0 R0 H R E Q q=>
 DN i C hr ha hΓ hΓ1 hS E (λH1 v H' R' xs' E' s' t=>by
  let⟨w,e1,rfl,rfl⟩:=t;exact q v H' R' E' s' e1) hg Yo he Yb hN
theorem gg (i:Nat){S:mf α}{k:Nat}{p:Pos}{st:`u}{z:β}(C:`aJ)(hr:bG k X.A)(ha:HA X es (Z.set i (.mu r xs)) ps (Z.set i (.mu r xs)))(hΓ:Z[i]?∣(.ob (aO a r xs)))(hS:S X.K xs ps (λxs'=>cR X.K rr λw=>xs'=st/\w=z))(hg:Gl X x:=by rfl)(Yo:YJ x:=by decide)(he:Vf (.Name y p1::es) X.env=(false,eval (.Name y p1) X.env)::Vf es X.env:=by rfl)(Yb:fc X pos es:=by rfl)(hN:autoParam (At X i y) cb):
 EV X (.Call `aq (.Name y p1::es) [] pos) Z rr z (Z.set i (.ob (aO a r st))):=by
 let hl:i<Z.length:=(R6.mp hΓ).1;let h:=EV.box i (xs':=st) (xg (p:=p) i C hr ha (Sh hl) (Sh hl) hS hg Yo he Yb hN) hΓ (by rw[Ti];exact Sh hl);rwa [Ti,Ti] at h
def wW (K:Xh)(a:Addr)(r:Rep α)(T:List α->RT):RT:=λH0 v H' R'=>∃YT xs',H' a∣.lst YT/\R' a=none/\PySem.Paired (r.R K R') YT xs'/\T xs' H0 v H' R'
theorem KA (i:Nat){y:β}{P:List α->β->Prop}(he:EV X e Z rr y Γ1)(hΓ1:Γ1[i]?∣(.ob (aO a r xs)))(h:P xs y):W1 X (.Return (some e) pos) Z N (wW X.K a r λxs'=>cR X.K rr (P xs')):=λσ H0 R0 H R E D dn dr=>
 sS (h9 aN) (he σ H0 R0 H R E _ λv H1 R1 E1 s1 e1=>by
  let⟨ea,⟨vs,ha,pp⟩,hR⟩:=dk (E1.ent i _ hΓ1);exact dr v H1 R1 E1.ext ⟨vs,xs,ha,hR,pp,y,e1,h⟩)
theorem sY {N:Rx}(s:au R H)(hR:R a=none)(ha:H a∣.lst ws)(pp:PySem.Paired (r.R K R) ws xs)(p:mm K R vs ps)(hl:ps.length+1<=N.length):
 ar K (L2.start N (.ref a::vs)) (del H a) R H R (.ob (aO a r xs)::fY ps (N.length-1)):=by
 obtain⟨n0,N',rfl⟩:∃n0 N',N=n0::N':=by cases N with
  | nil=>exact XE hl `d
  | cons n N'=>exact⟨n,N',rfl⟩
 let Zj:ps.length<=N'.length:= ~~~hl
 let E0:=jW (N:=N') s p Zj;let es:L2.start (n0::N') (.ref a::vs)=some (.ref a)::L2.start N' vs:=by unfold L2.start;simp
 rw[es];let Yi:∀(i:Nat)(e:Ent)(o:Option V),(fY ps N'.length)[i]?∣e->e.fp o=[]:=λi e o q=>by
  unfold fY at q;obtain z | z:=Sl.mp (Sg q)
  ·let⟨p,_,rfl⟩:=Sv.mp z;rfl
  ·let⟨_,rfl⟩:=Ud.mp z;rfl
 refine⟨⟨HM,au.refl _,s,λ_ _=>rfl⟩,λi e q=>?_,λi e b q w=>?_,λi j e e' b q q' w w'=>?_,?_⟩
 ·cases i with
  | zero=>simp at q;subst q;exact mN ha hR pp
  | succ i=>simp at q;simpa using E0.ent i e q
 ·cases i with
  | zero=>simp at q;subst q;rw[show b=a from Sa.mp w];exact xv
  | succ i=>simp at q;rw[Yi i e _ q] at w;cases w
 ·cases i with
  | succ i=>simp at q;rw[Yi i e _ q] at w;cases w
  | zero=>
    cases j with
    | zero=>rfl
    | succ j=>simp at q';rw[Yi j e' _ q'] at w';cases w'
 ·have:=E0.len;simp[this]
theorem wV {S:mf α}{N ps:Rx}{k:Nat}(F:dO K x qual st f fd)(Sc:bF N ps (ao st))(hm:mg x∣.ref f)(hb:Binds K fd ps [])(len:∀xs qs T,S K xs qs T->qs.length+1=ps.length)(Yd:∀(XU:`aK)(A:Vg)(outer:List Env)(s:Va)(H:Hp)(E:XK)(a:Addr)(xs:`u)(qs:List Pk)(T:List α->RT),bG k `ar->S K xs qs T->
  WS (eU eI P w K mg base N qual (ao st) f XU A outer s H E).gW (bE st) (.ob (aO a r xs)::fY qs (N.length-1)) (λ_=>False) (wW K a r T)):aE P w K mg base x (k+1) (gG r S K):=by
 refine⟨f,fd,ps,?_,hm,F.kp,hb⟩;refine F.ok Sc (λvs H Q E h=>?_) `ae
 ·let⟨R,a,ws,xs,Yr,qs,T,rfl,_,_,_,_,p,hS,_⟩:=h;rw[Si,p.length];exact len xs qs T hS
 ·let⟨R,a,ws,xs,Yr,qs,T,rfl,sR,hR,ha,pp,p,hS,q⟩:=h;let hl:qs.length+1<=N.length:=by
   rw[len xs qs T hS];have:=congrArg List.length Sc.pre;rw[Sx] at this;cbv
  refine⟨_,iC,Yd XU A outer s H E a xs qs T hr hS (L2.start N (.ref a::Yr)) (del H a) R H R (sY sR hR ha pp p hl) {nx:=λ_ H'=>Q .X4 H',rt:=Q} (λ_ _ _ _ _ _ f=>f.elim) λv H' R' xx t=>?_⟩;let⟨YT,xs',h1,h2,h3,h4⟩:=t;exact q v H' R' YT xs' xx h1 h2 h3 h4
theorem Ic {S:mf α}{N ps:Rx}{k:Nat}(D:Def K mg x st ps)(Yd:∀(f:Addr)(XU:`aK)(A:Vg)(outer:List Env)(s:Va)(H:Hp)(E:XK)(a:Addr)(xs:`u)(qs:List Pk)(T:List α->RT),N.Nodup->bG k (A.deeper (U4 x (ao st) ⇑s f XU))->S K xs qs T->
  WS (eU eI P w K mg base N x (ao st) f XU A outer s H E).gW (bE st) (.ob (aO a r xs)::fY qs (N.length-1)) (λ_=>False) (wW K a r T))(len:∀xs qs T,S K xs qs T->qs.length+1=ps.length:=by(intros;rename_i h;repeat (first | (rw[h.1];rfl) | let⟨_,h⟩:=h)))(Sc:bF N ps (ao st):=by exact Y6):aE P w K mg base x (k+1) (gG r S K):=by
 let⟨f,fd,F,hm,hb⟩:=D;exact wV F Sc hm hb len λXU A outer s H E a xs qs T=>Yd f XU A outer s H E a xs qs T Sc.nd
def cy (k:Nat)(y:α)(xs:`u):List α:=xs.take k++y::xs.drop k
theorem wg {k:Nat}{y:α}:(cy k y xs).length=xs.length+1:=by
 unfold cy;rw[Sd,Si,Sx,TJ];cbv
theorem B9 (f:α->β){k:Nat}{y:α}:(cy k y xs).map f=cy k (f y) (xs.map f):=by
 unfold cy;rw[So,SK,List.map_take,Ut]
def HS:V->List V->Hp->VK->Prop:=λx vs H Q=>∃l xs i y,x= .ref l/\vs=[.int i,y]/\H l∣.lst xs/\0<=i/\i<=(xs.length:Int)/\xs.length<U9/\Q .X4 (upd H l (.lst (cy i.toNat y xs)))
theorem Bz:G9 X "list.insert" HS:=by
 intro XR s σ H x vs v us Q I rx rv h;let⟨l,xs,i,y,rfl,rfl,hH,h0,h1,hz,q⟩:=h;cases rx
 let⟨u1,u2,rfl,⟨t,rfl⟩,r2⟩:=vals2 rv;let⟨z,XT,n,r,hl,e⟩:=I.nS hH;let hfit:Builtin.List.listFitsIndex i=true:=fitsIndex_both `a (by
  have:U9<2 ^ 63:=`c
  cbv)
 refine VI PySem.F.slot_list_insert ⟨_,e,rfl⟩ PySem.F.entry_list_insert (PySem.F.args_list_insert_3 _ _ _) (PySem.AutoSeq1.list_insert_list_int_val_1 l _ n i t u2 (by simp[hfit]) (by rw[Ss];cbv)) ⟨e,?_⟩;refine⟨.X4,_,I.Bt (its':=cy i.toNat u2 XT) hH e ?_ ?_ ?_,rfl,q⟩
 ·let hk:(if i<0 then(i+((XT.toArray.size:Nat):Int)).toNat else min i.toNat XT.toArray.size)=i.toNat:=by
   rw[XF `a,Ss];cbv
  dsimp only;rw[hk];unfold cy;apply Array.ext';simp;exact Tr (by rw[TJ];exact Uw _)
 ·unfold cy;exact(r.take _).append (.cons r2 (r.drop _))
 ·rw[wg];cbv
def dJ:Rep Addr:=⟨λ_ _ v a=>v= .ref a,λ_ h=>h⟩
noncomputable def nY:Ent->Ent
 | .im r x=>.im r x
 | _=>.no
theorem ar.YI {K:Xh}{σ:St}{H0 R0 H R:Hp}(E:`C):ar K σ H H H H (Z.map nY):=by
 let Yi:∀(i:Nat)(e:Ent)(o:Option V),(Z.map nY)[i]?∣e->e.fp o=[]:=λi e o q=>by
  rw[Sf] at q;cases h:Z[i]? with
  | none=>rw[h] at q;cases q
  | some e'=>rw[h] at q;cases q;cases e'<;>rfl
 refine⟨Ext.refl `S,λi e q=>?_,λi e a q w=>XE w (by rw[Yi i e _ q];exact S4),λi j e e' a q _ w=>XE w (by rw[Yi i e _ q];exact S4),by rw[R9];exact E.len⟩;rw[Sf] at q;cases h:Z[i]? with
 | none=>rw[h] at q;cases q
 | some e'=>
   rw[h] at q;cases q
   have:=E.ent i e' h;cases e' with
   | im r x=>let⟨v,e,hr⟩:=this;exact⟨v,e,r.mono E.sub hr⟩
   | no=>trivial
   | mu r x=>trivial
   | di x=>trivial
   | ob x=>trivial
theorem IS (i:Nat){Γf:Ga}(hF:∀(σ:St)(H0 R0 H R:Hp),ar X.K σ H0 R0 H R Z->ar X.K σ H H H H Γf){py YX:Pos}{cl:`aO}{own:Rx}{p:α->Bool}{f:α->β}(flat:∀(K:Xh)(H H':Hp) v y,rb.R K H v y->rb.R K H' v y)(S:fF X scope cl own fr ix)(hit:IV X tg iter Γf ra xs Γf)(hb:∀(C:Addr)(s:Va)(H:Hp)(ex:Rz),BG `m tg ra bf)(hw:∀x,Wk (bf x (dB own ix Γf)) (dB own ix Γf))(ht:∀(C:Addr)(s:Va)(H:Hp)(ex:Rz) x,x∈xs->TF `m ifs (bf x (dB own ix Γf)) (p x) (bf x (dB own ix Γf)))(he:∀(C:Addr)(s:Va)(H:Hp)(ex:Rz) x,x∈xs->p x=true->EV `m elt (bf x (dB own ix Γf)) rb (f x) (bf x (dB own ix Γf)))(h:N (Z.set i (.mu rb ((xs.filter p).map f))))(Yn:Vh `aF (some (.Name y py)) YX.line X.env=pure true:=by rfl)(hN:X.N.Nodup:=by first | assumption | decide)(hi':X.N[i]?∣y:=by rfl)(hx:`aw)(hc:X.calm=true:=by rfl)(hs:∀x,Vm iter X.env x=pure x:=by intro _;rfl)(hf:autoParam (fM X y) YU):
 W1 X (.Assign [.Name y py] `aF YX) Z N T:=λσ H0 R0 H R E D dn dr=>by
 let⟨wi,hi,hit⟩:=hit;refine sS (nI (i:=i) (g:=λv σ H Q=>∀C s Hh ex,nJ `q tg v σ H Q) (tc:=λσ H Q=>∀C s Hh ex,oS `q ifs σ H Q) (te:=λσ H Q=>∀C s Hh ex,fU `q elt σ H Q) Yn hN hi' hx hc S hi
  `x hs hf) ?_
 refine hit σ H H H H (hF σ H0 R0 H R E) _ λJ H1 R1 E1 s1 hz src=>oM (Q:=λv H'=>D.nx (σ.set i (some v)) H') E1 src hz hb hw ht he λa vs H' R' xx ha pp=>?_;let sH:au H H':=E1.ext.h.trans xx.h;let E2:=E.grow (H':=H') (R':=R) ⟨sH,au.refl _,E.sub.trans sH,λ_ _=>rfl⟩;exact dn _ _ R _ ((E2.grow (Ext.d8 E2.sub ha _)).yk (u:=.lst vs) (en:=.mu rb ((xs.filter p).map f)) i ⟨a,vs,rfl,aD,E2.sub.free ha,Paired.map (λ_ _=>flat X.K R' R _ _) pp⟩ (E2.ext.h.free ha) λj e _ q w=>E2.off ha j e q w) `S h
theorem JV {N ps:Rx}{k:Nat}(F:dO K x qual st f fd)(Sc:bF N ps (ao st))(len:∀qs T,S K qs T->qs.length=ps.length)(Yd:∀(XU:`aK)(A:Vg)(outer:List Env)(s:Va)(H:Hp)(E:XK)(qs:List Pk)(T:RT),bG k `ar->S K qs T->
  WS (eU eI P w K mg base N qual (ao st) f XU A outer s H E).gW (bE st) (fY qs N.length) (λ_=>False) T):eZ P w K mg base eI (k+1) f fd ps (aR S K):=by
 refine F.ok Sc (λvs H Q E h=>?_) `ae
 ·let⟨R,qs,T,_,p,hS,_⟩:=h;rw[p.length];exact len qs T hS
 ·let⟨R,qs,T,sR,p,hS,q⟩:=h;let hl:qs.length<=N.length:=by
   rw[len qs T hS];have:=congrArg List.length Sc.pre;rw[Sx] at this;cbv
  exact⟨_,iC,Yd XU A outer s H E qs T hr hS (L2.start N vs) H R H R (jW sR p hl) {nx:=λ_ H'=>Q .X4 H',rt:=Q} (λ_ _ _ _ _ _ f=>f.elim) λv H' R' xx t=>q v H' R' xx t⟩
theorem Le {h:Heap}{ps:Rx}{oc:`aK}{od an:Option Addr}{Zu:Array Ry}{kV doc pm XU ct:`aK}(KX:K.In h)(G:h.Ns Vc mg)(a:Xi K Vc x∣(some (.ref f)))(l:K.lookup f∣⟨oc,od,.func `aS,Zu⟩)(c:Xr K XU x=true)(k:Xm K (.ref f)=true)(b:∀(kV doc pm:`aK)(an:Option Addr)(XU ct:`aK)(us:RC),us.length=ps.length->bindArgs `aS ⟨us,[]⟩=pure (ps.zip us)):Def K mg x st ps:=
 ⟨f,_,kX l c k,Xl KX G a,(kX l c k).binds b⟩
open PySem.Builtin.Int (intBits)
theorem yD {ns:Rv}(h:PySem.W.WData.layableAll [.list (ns.map .int)]=true):∀n∈ns,intBits n<=2 ^ 20:=λn hn=>by
 let h1:=PySem.W.layableW_arg h _ (Sa.mpr rfl);let h2:=PySem.W.layableW_item h1 (.int n) (Sv.mpr ⟨n,hn,rfl⟩);exact PySem.PyData.bits_of_layable h2
end Fc
namespace Att
open PySem PySem.W PySem.Calls PyProof.Rows
open PySem.Builtin.Int (intBits)
theorem wY {l:OpenLaw}{n:Nat}{q:Ve}{loose:Rx}{XP:(Rt)->Heap->Prop}{YP:World->Heap->Prop}{d:DefRec}(hn:l.most∣n)(hdf:d.params.defaults=[])(call:∀(w:World)(s₀ s₁:Va)(mg mb:Rt)(fa:Addr)(o:Obj)(pm cd doc:`aK)(a:Addr)(vs:RC)(ns:Rv),
  Ground q loose [] XP w s₀ mg mb s₁.heap->YP w s₁.heap->
  s₁.heap.get? fa∣o->o.data= .func (docDef d.name d.params d.body d.scope pm cd doc)->s₁.heap.CodeRec cd d.name->mg d.name∣.ref fa->
  s₁.heap.get? a=some {cls:=.type "list",data:=.seq vs.toArray}->IntsAre vs ns->ns.length<=n->(∀m∈ns,intBits m<=2 ^ 20)->s₁.gens= #[]->
  VZ (model l.prog w) V6 (.call (.ref fa) ⟨[.ref a],[]⟩) `aM s₁):
 WalkO q loose XP YP l.row.toRowW d [] (λf vs=>PySem.call f vs):=by
 intro w s₀ s₁ mg mb G Y fa o pm cd doc dV kV ho hd ZN hD hmg hg args vals as hpre hlay hrd hwl hlo;obtain rfl:dV= .none:=Dflts.none hD hdf;obtain rfl:kV= .none:=Dflts.noKw hD;let⟨a,vs,ns,rfl,rfl,hobj,hints,hlen⟩:=Cf hn hpre hwl;refine enter_call (V8 (call w s₀ s₁ mg mb fa o pm cd doc a vs ns G Y ho (fd_plain hd) ZN hmg hobj hints hlen (Fc.yD hlay) hg) λr s' hq=>?_);let⟨rfl,h2,h3,h4⟩:=hq;exact⟨.inl ⟨.bool true,.bool true,[],rfl,λ_=>rfl,.bool true,Cd l _,λ_=>⟨List.Pairwise.nil,λ_ hm=>(nomatch hm)⟩⟩,h2,h3,h4⟩
end Att
namespace L2
open PySem PySem.Spec PyProof.Rows
open PySem.Builtin.Int (intBits)
theorem Eo {l:Xz}{n k:Nat}{q:Ve}{loose:Rx}{XP:(Rt)->Heap->Prop}{YP:World->Heap->Prop}{d:DefRec}{K:Params->Xh}{CX:World->om}{sp:World->Sp}{x:Str}(hn:l.most∣n)(hn2:n<=U9)(hdf:d.params.defaults=[])(hr:bG k V6)(hY:∀(w:World)(h:Heap),YP w h->(K w.params).In h)(F:∀(w:World)(mg:Rt)(fa:Addr)(h:Heap),(K w.params).In h->h.Ns Vc mg->mg d.name∣.ref fa->
  ∃fd:Vi,(∀(s:Va)(u:`aK),Wg s fd ⟨[u],[]⟩ [(x,u)])/\
   ∀base:Heap,(K w.params).In base->base.Ns Vc mg->eZ l.prog w (K w.params) mg base (CX w) k fa fd [x] (sp w))(ZL:∀(w:World)(H:Hp)(a:Addr)(ns:Rv),ns.length<=n->(∀m∈ns,intBits m<=2 ^ 20)->Ek H->bw (K w.params) H a (ns.map V.int)->sp w [.ref a] H (λv _=>v= .bl true) λ_ _ _=>False)(hCX:∀(w:World)(H:Hp)(s:Va)(e:`aK)(s':Va),CX w [] H s (λ_ _ _=>False) e s'->False):
 PySem.W.WalkO q loose XP YP l.row.toRowW d [] (λf vs=>PySem.call f vs):=by
 refine Att.wY hn hdf λw s₀ s₁ mg mb fa o pm cd doc a vs ns G Y ho hd ZN hmg hobj hints hlen Zm hg=>?_;let KX:=hY w _ Y;let⟨fd,hb,hF⟩:=F w mg fa _ KX G.T.g hmg;exact Ed KX G.T.g G.T.b G.T.builtins G.T.nolimit hg hobj hints (Ux hlen hn2) hr hF hb (λH hO hS=>ZL w H a ns hlen Zm hO hS) λH e s'=>hCX w H s₁ e s'
end L2
namespace Fc
open PySem PySem.Spec PySem.W PySem.Calls L2
open PyProof.Rows hiding St
variable {X:Cx}
section
variable {Z Γ1:Ga}
end
section
variable {P:Ve}{w:World}{K:Xh}{mg:Rt}{base:Heap}
end
section
variable {XR:Ru}{σ:St}{H:Hp}{s:Va}{e:Addr}{o:Obj}
end
end Fc
namespace Fc
open PySem PySem.Spec PySem.W PySem.Calls L2
open PyProof.Rows hiding St
open PySem PySem.Spec PySem.W PySem.Calls PySem.Builtin.ObjectAttr PySem.Builtin.Getset_descriptor L2
section
variable {K:Frag}{D x:Addr}{prog:Ve}{w:World}{A:Vg}{E:`s}{s:Va}
end
section
variable {X:Cx}{Z Γ1:Ga}{ea D:Addr}{oe:Obj}
end
end Fc
namespace Fc
open PySem PySem.Spec PySem.W PySem.Calls L2
open PyProof.Rows hiding St
variable {X:Cx}{Z Γ1:Ga}
section
variable {H0 R0:Hp}
end
variable {P:Ve}{w:World}{K:Xh}{mg:Rt}{base:Heap}{qual:Str}{f:Addr}{A:Vg}{s:Va}{H R:Hp}
section
variable {N:Rx}{scope:Scope}{cd:`aK}{outer:List Env}{E:XK}
end
variable {XR:Ru}{σ:St}
section
variable {ea D:Addr}{oe:Obj}
end
def aq:Rep Str:=⟨λ_ _ v x=>v= .str x,λ_ h=>h⟩
variable {x:Str}{pos:Pos}
theorem aB {j:Nat}:EV X (.Constant (.str x) j pos) Z aq x Z:=λ_ _ _ _ _ E _ q=>eS J5 (q _ _ _ E `S rfl)
inductive PV
 | X4
 | bl (b:Bool)
 | int (i:Int)
 | str (x:Str)
 | tup (xs:`aQ)
 | lst (xs:`aQ)
mutual
inductive iR (H:Hp):V->PV->Prop
 | X4:iR H .X4 .X4
 | bl (b:Bool):iR H (.bl b) (.bl b)
 | int (i:Int):iR H (.int i) (.int i)
 | str (x:Str):iR H (.str x) (.str x)
 | tup {a:Addr} {vs:`P} {xs:`aQ}:H a∣.tup vs->eV H vs xs->iR H (.ref a) (.tup xs)
 | lst {a:Addr} {vs:`P} {xs:`aQ}:H a∣.lst vs->eV H vs xs->xs.length<=U9->iR H (.ref a) (.lst xs)
inductive eV (H:Hp):List V->List PV->Prop
 | nil:eV H [] []
 | cons {v:V} {x:PV} {vs:`P} {xs:`aQ}:iR H v x->eV H vs xs->eV H (v::vs) (x::xs)
end
mutual
theorem iR.mono {H H':Hp}(s:au H H'):∀{v:V}{x:PV},iR H v x->iR H' v x
 | _,_,.X4=>.X4
 | _,_,.bl b=>.bl b
 | _,_,.int i=>.int i
 | _,_,.str x=>.str x
 | _,_,.tup h t=>.tup (s _ _ h) (eV.mono s t)
 | _,_,.lst h t z=>.lst (s _ _ h) (eV.mono s t) z
theorem eV.mono {H H':Hp}(s:au H H'):∀{vs:`P}{xs:`aQ},eV H vs xs->eV H' vs xs
 | _,_,.nil=>.nil
 | _,_,.cons h t=>.cons (iR.mono s h) (eV.mono s t)
end
theorem eV.pair {H:Hp}:∀{vs:`P}{xs:`aQ},eV H vs xs->PySem.Paired (iR H) vs xs
 | _,_,.nil=>.nil
 | _,_,.cons h t=>.cons h (eV.pair t)
theorem eV.of {H:Hp}:∀{vs:`P}{xs:`aQ},PySem.Paired (iR H) vs xs->eV H vs xs
 | _,_,.nil=>.nil
 | _,_,.cons h t=>.cons h (eV.of t)
def av:Rep PV:=⟨λ_ H v x=>iR H v x,λs h=>h.mono s⟩
variable {Γ2 Γ3:Ga}{α β γ δ:Type}{N:Ga->Prop}{T:RT}{e a:Expr}{n:Int}{xs:`aQ}{es:RE}{vs:`P}{p2:Pos}{r:Rep α}{r':Rep β}{y:β}
theorem EV.re {x:α}(h:EV X e Z r x Γ1)(f:∀(K:Xh)(R:Hp)(v:V),r.R K R v x->r'.R K R v y):EV X e Z r' y Γ1:=λσ H0 R0 H R E Q q=>h σ H0 R0 H R E Q λv H' R' E' s' e'=>q v H' R' E' s' (f _ _ v e')
theorem EV.pI (h:EV X e Z ag n Γ1):EV X e Z av (.int n) Γ1:=h.re λK R v e=>by cases e;exact .int n
theorem EV.pS (h:EV X e Z aq x Γ1):EV X e Z av (.str x) Γ1:=h.re λK R v e=>by cases e;exact .str x
theorem Af {K:Xh}{R:Hp}:∀{vs:`P}{xs:Rv},PySem.Paired (ag.R K R) vs xs->eV R vs (xs.map PV.int)
 | _,_,.nil=>.nil
 | _,_,.cons h t=>.cons (by cases h;exact .int _) (Af t)
theorem EV.zZ {xs:Rv}(h:EV X e Z (ae ag) xs Γ1):EV X e Z av (.lst (xs.map PV.int)) Γ1:=h.re λK R v ⟨a,vs,e,q,p,z⟩=>by subst e;exact .lst q (Af p) (by rw[R9];exact z)
theorem EV.iP (h:EV X e Z av (.int n) Γ1):EV X e Z ag n Γ1:=h.re λK R v e=>by cases e;rfl
theorem EV.sP (h:EV X e Z av (.str x) Γ1):EV X e Z aq x Γ1:=h.re λK R v e=>by cases e;rfl
theorem EV.lP (h:EV X e Z av (.lst xs) Γ1):EV X e Z (ae av) xs Γ1:=h.re λK R v e=>by cases e with | lst q p z=>exact⟨_,_,rfl,q,p.pair,z⟩
theorem zo {R:Hp}:∀{vs:`P}{xs:Rv},eV R vs (xs.map PV.int)->∀K:Xh,PySem.Paired (ag.R K R) vs xs
 | _,[],.nil,_=>.nil
 | _,_::_,.cons h t,K=>.cons (by cases h;rfl) (zo t K)
theorem EV.liP {xs:Rv}(h:EV X e Z av (.lst (xs.map PV.int)) Γ1):EV X e Z (ae ag) xs Γ1:=h.re λK R v e=>by
 cases e with | lst q p z=>exact⟨_,_,rfl,q,zo p K,by rw[R9] at z;exact z⟩
theorem fP {k:Nat}(h:EA X es Z av xs Γ1)(hz:xs.length<=U9:=by show _<=U9;decide):EV X (.Tuple es k pos) Z av (.tup xs) Γ1:=by
 intro σ H0 R0 H R E Q q;refine eS (sr lU) (h σ H0 R0 H R E _ λvs H1 R1 E1 s1 p1=>⟨by rw[p1.length];exact hz,λp hp=>?_⟩);let x:=Ext.fresh E1.sub hp (.tup vs);exact q _ _ _ (E1.grow x) (s1.trans x.r) (.tup aD (.of (Paired.map (λ_ _=>av.mono x.r) p1)))
theorem dz {b:Expr}{i:Int}{y:PV}(ha:EV X a Z av (.tup xs) Γ1)(hb:EV X b Γ1 ag i Γ2)(h:bX xs i∣y)(hs:dP b:=by exact λ_ _=>rfl):EV X (.Subscript a b pos) Z av y Γ2:=by
 intro σ H0 R0 H R E Q q;refine eS (iy D9 aN aN hs) `l;cases av.mono (K:=X.K) s2 e1 with
 | tup ha pp=>
   let⟨w,e3,e4⟩:=jf pp.pair h;exact⟨_,_,i,w,rfl,e2,dY.of (E2.sub _ _ ha),e3,q w H2 R2 E2 `E e4⟩
theorem yZ {p:Pos}(hm:X.mg "len"=none)(ha:EV X a Z av (.tup xs) Γ1)(hs:fW X a:=by rfl)(hg:Gl X "len":=by rfl):EV X `aZ Z ag (xs.length:Int) Γ1:=by
 intro σ H0 R0 H R E Q q;refine eS (eO gM hg hm Vy `bh `c `c hs) `A;cases e1 with
 | tup hp pp=>
   refine⟨_,_,rfl,.inr (dY.of (E1.sub _ _ hp)),?_⟩;rw[pp.pair.length];exact q _ H1 R1 E1 s1 rfl
theorem oG (R H:Hp)(v:V)(s:au R H)(h:av.R K R v (.tup xs)):f7 K H v (.type "tuple"):=by cases h with | tup e _=>exact .tup (s _ _ e)
theorem kL (R H:Hp)(v:V)(s:au R H)(h:av.R K R v (.lst xs)):f7 K H v (.type "list"):=by cases h with | lst e _ _=>exact .lst (s _ _ e)
theorem DB (p:PySem.Paired (iR H) vs xs)(l h:Option Int):PySem.Paired (iR H) (mz vs l h) (cut xs l h):=by
 unfold mz cut;rw[p.length];exact jO _ (mv _ p)
theorem K9 {lo hi:Option Expr}{l h:Option Int}(ha:EV X a Z av (.tup xs) Z)(hl:OV X lo Z l)(hh:OV X hi Z h)(hw:¬(HT.X7 xs.length 0 l=0/\HT.X7 xs.length xs.length h=xs.length)):EV X (.Subscript a (.Slice lo hi none p2) pos) Z av (.tup (cut xs l h)) Z:=by
 intro σ H0 R0 H R E Q q;let⟨tl,pl,kl⟩:=hl;let⟨th,ph,kh⟩:=hh;refine eS (lI BV aN pl ph) `H;cases av.mono (K:=X.K) (s2.trans s3) e1 with
 | @tup a' Yr _ hp pp=>
   refine⟨_,_,rfl,dY.of (E3.sub _ _ hp),by rw[pp.pair.length];exact hw,λd hd=>?_⟩;let x:=Ext.fresh E3.sub hd (.tup (mz Yr l h));exact q _ _ _ (E3.grow x) (s1.trans (s2.trans (s3.trans x.r))) (.tup aD (.of (Paired.map (λ_ _=>av.mono (K:=X.K) x.r) (DB pp.pair l h))))
mutual
noncomputable def PV.deep:PV->Nat
 | .tup xs=>PV.ir xs+1
 | .lst xs=>PV.ir xs+1
 | _=>0
noncomputable def PV.ir:List PV->Nat
 | []=>0
 | x::xs=>max (PV.deep x) (PV.ir xs)
end
theorem qM:∀{xs:`aQ}{x:PV},x∈xs->x.deep<=PV.ir xs
 | y::ys,x,h=>by
   rw[PV.ir];obtain rfl | h:=Sj.mp h
   ·cbv
   ·have:=qM h;cbv
theorem EV.rep {x:α}(h:EV X e Z r x Γ1)(c:∀(R:Hp) v,r.R X.K R v x->r'.R X.K R v y):EV X e Z r' y Γ1:=λσ H0 R0 H R E Q q=>h σ H0 R0 H R E Q λv H' R' E' s' e'=>q v H' R' E' s' (c R' v e')
variable {p1:Pos}
theorem paired_ints {K:Xh}{R:Hp}:∀ys:Rv,PySem.Paired (ag.R K R) (ys.map V.int) ys
 | []=>.nil
 | _::r=>.cons rfl (paired_ints r)
theorem vf {Zg:Pos}(hml:X.mg "list"=none)(hmr:X.mg "range"=none)(ha:EV X a Z ag n Γ1)(hn: -1000000<=n/\n<=1000000)(hs:fW X a:=by rfl)(Ys:Vf [.Call (.Name "range" p2) [a] [] Zg] X.env=[(false,eval (.Call (.Name "range" p2) [a] [] Zg) X.env)]:=by rfl)(hc:X.calm=true:=by rfl)(hg:Gl X "list":=by rfl)(hgr:Gl X "range":=by rfl):ba X (.Call (.Name "list" p1) [.Call (.Name "range" p2) [a] [] Zg] [] pos) Z ag (ups 0 n.toNat) Γ1:=by
 intro σ H0 R0 H R E Q q;refine eS (iT (oJ hc) hg hml U0 (aI (iT uH hgr hmr U7 `bh `c `c hs) br Ys) `c `c Ys) (ha σ H0 R0 H R E _ λv H1 R1 E1 s1 e1=>⟨n,by rw[show v=V.int n from e1],λp hp=>?_⟩);refine⟨p,0,n,rfl,aD,`c,`c,hn.1,hn.2,λd hd=>?_⟩;let E2:=E1.grow (Ext.d8 E1.sub hp (.Z8 0 n));rw[Int.sub_zero];exact q d _ _ R1 (E2.grow (Ext.d8 E2.sub hd _)) s1 aD (E2.sub.free hd) (E2.ext.h.free hd) (E2.off hd) (paired_ints _) (by rw[bp];exact Ux (show n.toNat<=1000000 by cbv) `c)
variable {b:Addr}{S:dh}{ps:List Pk}
section
variable {F:RF}{Γf:Ga}
theorem IJ {r':Rep β}[DecidableEq α][DecidableEq β]{n m:Nat}(e:tH r n)(e':tH r' m)(I:`j)(sub:au R H){a:Addr}{v1 v2 w1 w2:V}{x y:α×β}(ha:R a∣(.tup [v1,v2]))(hb:R b∣(.tup [w1,w2]))(p1:r.R X.K R v1 x.1)(p2:r'.R X.K R v2 x.2)(q1:r.R X.K R w1 y.1)(q2:r'.R X.K R w2 y.2)(hu:A.units+(n+1)<cLine)(Z1:A.units+(m+1)<cLine):
 SeqAt.RcAt A s (.ref a) (.ref b) (decide (x=y))/\SeqAt.RcNeAt A s (.ref a) (.ref b) (!decide (x=y)):=by
 let key:=JE (A:=A) (k:=λj=>if j=0 then decide (x.1=y.1) else decide (x.2=y.2)) I sub ha hb rfl `a λus us' hv hw j h1 h2=>by
  cases hv with
  | cons a1 t=>cases t with
    | cons a2 t=>cases t;cases hw with
      | cons b1 t=>cases t with
        | cons b2 t=>
          cases t
          match j,h1 with
          | 0,_=>exact e.eq (A:=A.in1) I sub a1 b1 p1 q1 (by rw[in1_units];cbv)
          | 1,_=>exact e'.eq (A:=A.in1) I sub a2 b2 p2 q2 (by rw[in1_units];cbv)
          | j+2,h=>exact XE h `d
 let d:(Sm [v1,v2].length).all (λj=>if j=0 then decide (x.1=y.1) else decide (x.2=y.2))=decide (x=y):=by
  let⟨x1,x2⟩:=x;let⟨y1,y2⟩:=y;simp[TB,RK]
 rw[d] at key;exact key
theorem NF {r':Rep β}[DecidableEq α][DecidableEq β]{n m:Nat}(e:tH r n)(e':tH r' m)(hu:X.A.units+(n+1)<cLine)(Z1:X.A.units+(m+1)<cLine){x y:α×β}:iU X .Eq (cQ r r') (cQ r r') x y (decide (x=y)):=
 ⟨λv u H Q=>∃R,au R H/\(cQ r r').R X.K R v x/\(cQ r r').R X.K R u y/\Q (.bl (decide (x=y))) H,λXR s σ H v1 u1 v u Q I rx ry ⟨R,sub,h1,h2,q⟩=>by
  let⟨a,v1,v2,rfl,ha,p1,p2⟩:=h1;let⟨b,w1,w2,rfl,hb,q1,q2⟩:=h2;cases rx
  cases ry
  exact(IJ (A:=X.A) e e' I sub ha hb p1 p2 q1 q2 hu Z1).1 _ _ _ _ ⟨.bl _,H,I,rfl,q⟩,λR H v u Q s h1 h2 q=>⟨R,s,h1,h2,q⟩⟩
theorem Ez {p4:Pos}{k:Nat}{w:Row}(ha:EV X a Z dU w Z):EV X (.Subscript a (.Slice none (some (.Constant (.int 2) k p4)) none p2) pos) Z (cQ ag ag) (w.1,w.2.1) Z:=by
 intro σ H0 R0 H R E Q q;refine eS (lI BV aN za (y9 wL)) `A;let⟨p,rfl,hp⟩:=e1;refine⟨_,rfl,p,_,rfl,dY.of (E1.sub _ _ hp),?_,λd hd=>?_⟩
 ·exact λz=>XE z.2 (by show¬(HT.X7 4 4 (some 2)=4);decide)
 ·let s2:au R1 (upd R1 d (.tup [V.int w.1,V.int w.2.1])):=au.fresh (E1.sub.free hd) _;exact q _ _ (upd R1 d (.tup [V.int w.1,V.int w.2.1])) (E1.grow (Ext.fresh E1.sub hd _)) `E ⟨d,_,_,rfl,aD,rfl,rfl⟩
noncomputable def cH (F:RF):List (Int×V):=F.map λp=>(p.1,.int p.2)
noncomputable def bo (F:RF)(k:Int):Option Int:=(F.find? λp=>decide (p.1=k)).map (·.2)
noncomputable def jM (F:RF)(k v:Int):RF:=if(bo F k).isSome then F.map (λp=>if p.1=k then(p.1,v) else p) else F++[(k,v)]
theorem lE:∀(F:RF)(k:Int),dw (cS (cH F)) (Sum.inl k:Key)=(bo F k).map V.int
 | [],_=>rfl
 | p::r,k=>by
   let ih:=lE r k;by_cases e:p.1=k
   ·let e':(Sum.inl p.1:Key)=Sum.inl k:=by rw[e]
    let h1:dw (cS (cH (p::r))) (Sum.inl k:Key)∣.int p.2:=ee (p:=((Sum.inl p.1:Key),V.int p.2)) e';rw[h1];unfold bo;rw[Tz,XJ e];rfl
   ·let e':¬(Sum.inl p.1:Key)=Sum.inl k:=λz=>e (Sum.inl.inj z);let h1:dw (cS (cH (p::r))) (Sum.inl k:Key)=dw (cS (cH r)) (Sum.inl k:Key):=dN (p:=((Sum.inl p.1:Key),V.int p.2)) e';rw[h1,ih];unfold bo;rw[Tz,XM e]
theorem xo (F:RF)(k v:Int):putK (cS (cH F)) (Sum.inl k:Key) (.int v)=cS (cH (jM F k v)):=by
 unfold putK jM;rw[iI,lE];let e:((bo F k).map V.int).isSome=(bo F k).isSome:=by cases bo F k<;>rfl
 rw[e];split
 ·unfold cS cH;simp only[Ta];apply Tu;intro p _;simp only[Function.comp];by_cases h:p.1=k
  ·rw[XG (by rw[h]),XG h]
  ·rw[XF (λz=>h (Sum.inl.inj z)),XF h]
 ·unfold cS cH;rw[So,So];rfl
theorem ID (F:RF)(k:Int):jk (cH F) k=(bo F k).isSome:=by
 rw[← ng,lE];cases bo F k<;>rfl
def jw:Rep RF:=⟨λ_ H v F=>∃a,v= .ref a/\H a∣(.dK (cS (cH F))),λs ⟨a,e,q⟩=>⟨a,e,s _ _ q⟩⟩
theorem jr {b:Expr}{k y:Int}(hu:`be)(ha:EV X a Z jw F Γ1)(hb:EV X b Γ1 ag k Γ2)(h:bo F k∣y)(hs:EI b:=by exact λ_ _=>rfl):EV X (.Subscript a b pos) Z ag y Γ2:=by
 intro σ H0 R0 H R E Q q;refine eS (Ih hu aN aN hs) `l;let⟨p,rfl,hp⟩:=jw.mono s2 e1;cases e2
 let g:=iE.k (k:=Sum.inl k) (E2.sub _ _ hp);rw[lE,h] at g;exact⟨p,_,rfl,g,q _ H2 R2 E2 `E rfl⟩
theorem EU (F:RF)(k v:Int):(jM F k v).length<=F.length+1:=by
 unfold jM;split
 ·rw[R9];cbv
 ·rw[Sd];simp
theorem sf (i:Nat){ke ve:Expr}{k v:Int}(hu:`be)(hk:EV X ke Z ag k Z)(hv':EV X ve Z ag v Z)(hΓ:Z[i]?∣(.di (cH F)))(hz:F.length<U9)(h:N (Z.set i (.di (cH (jM F k v)))))(hN:`o)(hs:Vh ve (some (.Subscript `h ke p2)) pos.line X.env=pure false:=by rfl):W1 X (.Assign [.Subscript `h ke p2] ve pos) Z N T:=λσ H0 R0 H R E D dn dr=>by
 refine sS (uB hu (aV hN) aN aN hs) (hv' σ H0 R0 H R E _ λu0 H0' R0' E0 s0 e0=>?_);let⟨a,ea,ha,hR⟩:=E0.ent i _ hΓ;refine⟨.ref a,at_of ea,hk σ H0 R0 H0' R0' E0 _ λu H1 R1 E1 s1 e1=>?_⟩;let⟨a',Yq,YE,Yu⟩:=E1.ent i _ hΓ;rw[ea] at Yq;cases Yq
 cases e1
 cases e0
 refine⟨a,_,rfl,qF.k (k:=Sum.inl k) YE (by unfold cS cH;rw[R9,R9];exact hz),?_⟩;rw[xo];exact dn σ _ R1 _ (E1.upd (en:=.di (cH (jM F k v))) hΓ rfl ea Yu ⟨a,rfl,aD,Yu⟩) (s0.trans s1) h
theorem yY (i:Nat){P:RF->Prop}(hΓ:Z[i]?∣(.di (cH F)))(h:P F)(hN:`o):W1 X (.Return (some `h) pos) Z N (cR X.K jw P):=λσ H0 R0 H R E D dn dr=>by
 let⟨a,ea,ha,hR⟩:=E.ent i _ hΓ;let h0:H0 a=none:=E.new i _ a hΓ rfl ea;refine sS (h9 (aV hN)) ⟨.ref a,at_of ea,dr _ H (upd R a (.dK (cS (cH F)))) ⟨E.ext.h,E.ext.r.trans (au.fresh hR _),λb o qb=>?_,λb hb=>?_⟩ ⟨F,⟨a,rfl,aD⟩,h⟩⟩
 ·by_cases hb:b=a
  ·subst hb;rw[aD] at qb;cases qb;exact ha
  ·rw[aF hb] at qb;exact E.ext.s b o qb
 ·rw[aF (show b≠a from λe=>hb (by rw[e];exact h0))];exact E.ext.old b hb
theorem ar.Li {H0 R0 H' R':Hp}(E:`C)(E':ar K σ H H H' R' Γf):ar K σ H0 R0 H' R Z:=
 E.grow ⟨E'.ext.h,au.refl _,E.sub.trans E'.ext.h,λ_ _=>rfl⟩
theorem TV.YI (hF:∀(σ:St)(H0 R0 H R:Hp),ar X.K σ H0 R0 H R Z->ar X.K σ H H H H Γf){b:Bool}(h:TV X e Γf b Γf):TV X e Z b Z:=λσ H0 R0 H R E Q q=>
 h σ H H H H (hF σ H0 R0 H R E) Q λH' R' E' s'=>q H' R (E.Li E') `S
theorem EV.YI (hF:∀(σ:St)(H0 R0 H R:Hp),ar X.K σ H0 R0 H R Z->ar X.K σ H H H H Γf){y:α}(flat:∀(K:Xh)(H H':Hp) v y,r.R K H v y->r.R K H' v y)(h:EV X e Γf r y Γf):EV X e Z r y Z:=λσ H0 R0 H R E Q q=>
 h σ H H H H (hF σ H0 R0 H R E) Q λv H' R' E' s' e'=>q v H' R (E.Li E') `S (flat X.K R' R v y e')
def nW:Rep Unit:=⟨λ_ _ v _=>v= .X4,λ_ h=>h⟩
theorem HX {k:Nat}{p:Pos}{Pd:Unit->Prop}(C:`aP)(hr:bG k X.A)(ha:HA X (e::es) Z ps Γ1)(hS:S X.K ps (cR X.K nW Pd))(h:N Γ1)(hg:Gl X x:=by rfl)(Yo:YJ x:=by decide)(he:dq X e es:=by rfl)(Yb:fc X p2 es:=by rfl)(Yn:Vh (.Call `aq (e::es) [] p2) none pos.line X.env=pure false:=by rfl):W1 X (.Expr (.Call `aq (e::es) [] p2) pos) Z N T:=λσ H0 R0 H R E D dn dr=>
 sS (dQ aN Yn) (lH C hr ha hS E (λH1 R1 v H' R' E1 s1 xx t=>dn σ H' R' _ (E1.grow xx) (s1.trans xx.r) h) hg Yo he Yb)
end
theorem Ly {st:Stmt}{fd:Vi}{N ps:Rx}{k:Nat}(F:dO K x qual st f fd)(Sc:bF N ps (ao st))(hm:mg x∣.ref f)(hb:Binds K fd ps [])(len:∀qs T,S K qs T->qs.length=ps.length)(Yd:∀(XU:`aK)(A:Vg)(outer:List Env)(s:Va)(H:Hp)(E:XK)(qs:List Pk)(T:RT),bG k `ar->S K qs T->(∀H0 H' R',T H0 .X4 H' R')/\
  WS (eU eI P w K mg base N qual (ao st) f XU A outer s H E).gW (bE st) (fY qs N.length) (λ_=>True) T):aE P w K mg base x (k+1) (aR S K):=by
 refine⟨f,fd,ps,?_,hm,F.kp,hb⟩;refine F.ok Sc (λvs H Q E h=>?_) `ae
 ·let⟨R,qs,T,_,p,hS,_⟩:=h;rw[p.length];exact len qs T hS
 ·let⟨R,qs,T,sR,p,hS,q⟩:=h;let hl:qs.length<=N.length:=by
   rw[len qs T hS];have:=congrArg List.length Sc.pre;rw[Sx] at this;cbv
  let⟨h1,h2⟩:=Yd XU A outer s H E qs T hr hS;exact⟨_,iC,h2 (L2.start N vs) H R H R (jW sR p hl) {nx:=λ_ H'=>Q .X4 H',rt:=Q} (λσ' H' R' Γ' E' _ _=>q .X4 H' R' E'.ext (h1 _ _ _)) λv H' R' xx t=>q v H' R' xx t⟩
variable {i:Nat}
section
variable {xs:`u}
theorem uY (i:Nat){ap cp:Pos}{y:α}(he:EV X e Z r y Γ1)(hΓ:`aB)(hΓ1:Γ1[i]?∣.mu r xs)(hz:xs.length<U9)(hN:`o)(X0:fh X `h "append":=by rfl)(Yf:l7 X cp [e]:=by rfl)(XZ:`Z=true:=by rfl)(hs:dq X e []:=by rfl):EV X `y Z nW () (Γ1.set i (.mu r (xs++[y]))):=λσ H0 R0 H R E Q q=>by
 let⟨a,vs,ea,ha,hR,pp⟩:=E.ent i _ hΓ;refine eS `ac ?_;refine⟨.ref a,at_of ea,.inl ⟨rfl,vs,bw.of ha⟩,he σ H0 R0 H R E _ λv H1 R1 E1 s1 e1=>?_⟩;let⟨a',Yr,Yq,YE,Yu,YM⟩:=E1.ent i _ hΓ1;rw[ea] at Yq;cases Yq
 refine⟨a,Yr,v,rfl,rfl,YE,by rw[YM.length];exact hz,?_⟩;exact q _ _ R1 (E1.upd (en:=.mu r (xs++[y])) hΓ1 rfl ea Yu ⟨a,_,rfl,aD,Yu,dS YM (.cons e1 .nil)⟩) s1 rfl
theorem MM (hΓ:`aB)(hz:xs.length<=U9)(σ:St)(H0 R0 H R:Hp)(E:`aU):ar X.K σ H H H H ((Z.map nY).set i (.im (ae r) xs)):=by
 let⟨a,vs,ea,ha,hR,pp⟩:=E.ent i _ hΓ;exact E.YI.ma (i:=i) (e0:=.no) (by rw[Sf,hΓ];rfl) ⟨.ref a,ea,a,vs,rfl,ha,Paired.map (λ_ _=>r.mono E.sub) pp,hz⟩ λb w=>by cases w
theorem Jo (i:Nat){P:List α->Prop}(hΓ:`aB)(hz:xs.length<=U9)(h:P xs)(hN:`o):W1 X (.Return (some `h) pos) Z N (Dt X.K r P):=λσ H0 R0 H R E D dn dr=>by
 let⟨a,vs,ea,ha,hR,pp⟩:=E.ent i _ hΓ;exact sS (h9 (aV hN)) ⟨.ref a,at_of ea,dr _ H R E.ext ⟨a,vs,xs,rfl,E.new i _ a hΓ rfl ea,ha,hR,pp,hz,h⟩⟩
end
noncomputable def xT (r:Rep α)(r':Rep β):Rep (α ⊕ β):=⟨λK H v o=>match o with | .inl x=>r.R K H v x | .inr y=>r'.R K H v y,λ{K H H' v o} s h=>by cases o with | inl x=>exact r.mono s h | inr y=>exact r'.mono s h⟩
theorem EV.inl {x:α}(h:EV X e Z r x Γ1):EV X e Z (xT r r') (.inl x) Γ1:=EV.rep h λ_ _ q=>q
theorem EV.inr {y:β}(h:EV X e Z r' y Γ1):EV X e Z (xT r r') (.inr y) Γ1:=EV.rep h λ_ _ q=>q
theorem EV.ofl {x:α}(h:EV X e Z (xT r r') (.inl x) Γ1):EV X e Z r x Γ1:=EV.rep h λ_ _ q=>q
theorem EV.qB (h:EV X e Z (xT r r') (.inr y) Γ1):EV X e Z r' y Γ1:=EV.rep h λ_ _ q=>q
variable {l:Rz}
noncomputable def gp (H:Hp)(l:Rz):Hp:=λb=>if b∈l then none else H b
theorem kQ (h:b∈l):gp H l b=none:=XG h
theorem eM (h:b∉l):gp H l b=H b:=XF h
theorem qU :au (gp H l) H:=λb o q=>by
 by_cases h:b∈l
 ·rw[kQ h] at q;cases q
 ·rwa [eM h] at q
theorem ar.AZ {H0 R0 H' R':Hp}{B B':oK}(E:`C)(hΓ:Z[i]?∣.ob B)(x:Ext (gp H B.fp) R H' R')(ho:(Ent.ob B').ok K H' R' (σ[i]?).join)(hfp:∀b∈B'.fp,b∈B.fp):ar K σ H0 R0 H' R' (Z.set i (.ob B')):=by
 let h0:∀b∈B.fp,H0 b=none:=λb hb=>E.nw i _ b hΓ hb;let out:∀{b:Addr},H0 b≠none->b∉B.fp:=λh e=>h (h0 _ e);let apart:∀(j:Nat)(e:Ent),j≠i->Z[j]?∣e->∀b∈e.fp (σ[j]?).join,b∉B.fp:=λj e hj qj b hb w=>hj (E.ds j i e _ b qj hΓ hb w);refine⟨⟨λb o q=>?_,E.ext.r.trans x.r,x.s,λb hb=>?_⟩,λj e q=>?_,λj e b q w=>?_,λj k e e' b q q' w w'=>?_,by rw[SR];exact E.len⟩
 ·exact x.h b o (by rw[eM (out (by rw[q];exact UW _))];exact E.ext.h b o q)
 ·refine(x.old b ?_).trans (E.ext.old b hb);rw[eM (out hb)];exact au.some E.ext.h hb
 ·obtain⟨rfl,rfl,_⟩ | ⟨hj,q1⟩:=set_at q
  ·exact ho
  ·let h1:=E.ent j e q1;refine h1.loc (λb hb=>?_) x.r λb hb=>?_
   ·cases e2:H b with
    | none=>exact XE e2 (Ent.fE h1 hb).1
    | some u=>exact x.h b u (by rw[eM (apart j e hj q1 b hb)];exact e2)
   ·exact(x.old b (by rw[eM (apart j e hj q1 b hb)];exact(Ent.fE h1 hb).1)).trans (Ent.fE h1 hb).2
 ·obtain⟨rfl,rfl,_⟩ | ⟨hj,q1⟩:=set_at q
  ·exact h0 b (hfp b w)
  ·exact E.nw j e b q1 w
 ·obtain⟨rfl,rfl,_⟩ | ⟨hj,q1⟩:=set_at q
  ·obtain⟨rfl,rfl,_⟩ | ⟨hk,Y2⟩:=set_at q'
   ·rfl
   ·exact XE (hfp b w) (apart k e' hk Y2 b w')
  ·obtain⟨rfl,rfl,_⟩ | ⟨hk,Y2⟩:=set_at q'
   ·exact XE (hfp b w') (apart j e hj q1 b w)
   ·exact E.ds _ _ _ _ b q1 Y2 w w'
structure LK (P:Type):Type 1 where
 bx:Rz->P->oK
 fp:∀l s,(bx l s).fp=l
 at_:∀{K H R v l s},(bx l s).R K H R v->∃a t,l=a::t/\v= .ref a
abbrev ya (R:Hp)(l:Rz):Prop:=∀b∈l,R b=none
theorem Ci {P:Type}{B:LK P}{a:Addr}{s:P}{o:Option V}(h:(Ent.ob (B.bx (a::l) s)).ok K H R o):o∣.ref a/\(B.bx (a::l) s).R K H R (.ref a)/\ya R (a::l):=by
 let⟨⟨v,e,hv⟩,hR⟩:=h;let⟨a',t,el,ev⟩:=B.at_ hv;cases el
 subst ev;exact⟨e,hv,λb hb=>hR b (by rw[B.fp];exact hb)⟩
theorem Dy {P:Type}{B:LK P}{a:Addr}{s:P}(h:(B.bx (a::l) s).R K H R (.ref a))(hR:ya R (a::l)):(Ent.ob (B.bx (a::l) s)).ok K H R (some (.ref a)):=
 ⟨⟨_,rfl,h⟩,λc hc=>hR c (by rw[B.fp] at hc;exact hc)⟩
theorem Bo {P:Type}{B:LK P}{a:Addr}{st:P}{N:Rx}(s:au R H)(hR:ya R (a::l))(hB:(B.bx (a::l) st).R K H R (.ref a))(p:mm K R vs ps)(hl:ps.length+1<=N.length):
 ar K (L2.start N (.ref a::vs)) (gp H (a::l)) R H R (.ob (B.bx (a::l) st)::fY ps (N.length-1)):=by
 obtain⟨n0,N',rfl⟩:∃n0 N',N=n0::N':=by cases N with
  | nil=>exact XE hl `d
  | cons n N'=>exact⟨n,N',rfl⟩
 let Zj:ps.length<=N'.length:= ~~~hl
 let E0:=jW (N:=N') s p Zj;let es:L2.start (n0::N') (.ref a::vs)=some (.ref a)::L2.start N' vs:=by unfold L2.start;simp
 rw[es];let Yi:∀(i:Nat)(e:Ent)(o:Option V),(fY ps N'.length)[i]?∣e->e.fp o=[]:=λi e o q=>by
  unfold fY at q;obtain z | z:=Sl.mp (Sg q)
  ·let⟨p,_,rfl⟩:=Sv.mp z;rfl
  ·let⟨_,rfl⟩:=Ud.mp z;rfl
 refine⟨⟨qU,au.refl _,s,λ_ _=>rfl⟩,λi e q=>?_,λi e c q w=>?_,λi j e e' c q q' w w'=>?_,?_⟩
 ·cases i with
  | zero=>simp at q;subst q;exact Dy hB hR
  | succ i=>simp at q;simpa using E0.ent i e q
 ·cases i with
  | zero=>
    simp at q;subst q;let w:c∈(B.bx (a::l) st).fp:=w;rw[B.fp] at w;exact kQ w
  | succ i=>simp at q;rw[Yi i e _ q] at w;cases w
 ·cases i with
  | succ i=>simp at q;rw[Yi i e _ q] at w;cases w
  | zero=>
    cases j with
    | zero=>rfl
    | succ j=>simp at q';rw[Yi j e' _ q'] at w';cases w'
 ·have:=E0.len;simp[this]
structure bM (K:Xh)(C:Addr)(ns:Rx):Prop where
 cl:mT K C
 no:∀f∈ns,lA K C f
end Fc
namespace Fc.DP
open PySem PySem.Spec
variable {prog:Ve}{w:World}{A:Vg}{E:`s}
section
variable {h:Heap}{g:Array Wj}{d:Drawn}{t:Nat}{os:OsState}{a:Addr}{o:Obj}
end
variable {K:Type}
section
variable  [DecidableEq K]{knd:KeyKind prog w K}{R:Result->Va->Prop}{I:Addr}{fp wr:Rz}{G:Array Wj->Array Wj->Prop}{n:Nat}{P:Nat->Value->Prop}{St:Nat->Va->Prop}
end
section
variable  [DecidableEq K]{knd:KeyKind prog w K}{s:Va}
end
end Fc.DP
namespace Fc
open PySem PySem.Spec PySem.W PySem.Calls L2
open PyProof.Rows hiding St
variable {X:Cx}{N:Ga->Prop}{T:RT}
section
variable {Z Γ1 Γ2 Γ3:Ga}{α β γ δ:Type}
end
variable {pos:Pos}{xs:Rx}
section
variable {Z Γ1 Γ2 Γ3:Ga}{α β γ δ:Type}
variable {x y:Str}
theorem nA:decide (V.str x=V.str y)=decide (x=y):=by
 by_cases h:x=y
 ·subst h;simp
 ·rw[XM h,XM λz=>h (by injection z)]
theorem cu:iU X .Eq aq aq x y (decide (x=y)):=⟨_,GB,λR H v u Q _ e1 e2 q=>by
 cases e1;cases e2
 exact⟨rfl,by rw[nA];exact q⟩⟩
theorem vD:iU X .NotEq aq aq x y (!decide (x=y)):=⟨_,AU,λR H v u Q _ e1 e2 q=>by
 cases e1;cases e2
 exact⟨rfl,by rw[nA];exact q⟩⟩
theorem rJ {n:Str}{t:Tok}(hm:X.mg x∣.str n t)(hg:Gl X x:=by rfl)(hd:YJ x:=by decide):EV X (.Name x pos) Z aq n Z:=
 λ_ _ _ _ _ E _ q=>eS (jI (v:=.str n) hg hm ⟨t,rfl⟩ hd) (q (.str n) _ _ E `S rfl)
noncomputable def xH:Rep Rx:=⟨λK R v xs=>∃a,v= .ref a/\dY K R a (xs.map V.str),λs ⟨a,e,h⟩=>⟨a,e,by
 obtain h | h:=h
 ·exact .inl (h.imp (λq=>s _ _ q) λ⟨o,q⟩=>⟨o,s _ _ q⟩)
 ·exact .inr h⟩⟩
theorem nT (x:Str):∀xs:Rx,Gp (.str x) (xs.map V.str)=decide (x∈xs)
 | []=>rfl
 | y::r=>by
   let h:=nT x r;unfold Gp at h ⊢;rw[SK,Uj,h];let e:sv (V.str y) (V.str x)=decide (x=y):=by
    show(y==x)=_;by_cases h:x=y
    ·subst h;simp
    ·rw[XM h];exact beq_eq_false_iff_ne.mpr (UT h)
   rw[e];by_cases h1:x=y<;>simp[h1]
theorem l9:∀xs:Rx,(xs.map V.str).all kF=true
 | []=>rfl
 | _::r=>by rw[SK,all_cons,l9 r];rfl
theorem lR :iU X .In aq xH x xs (decide (x∈xs)):=⟨_,uQ,λR H v u Q s e1 e2 q=>by
 cases e1
 let⟨a,rfl,h⟩:=e2;exact⟨a,_,rfl,.inr (h.imp (λh=>h.imp (λq=>s _ _ q) λ⟨o,q⟩=>⟨o,s _ _ q⟩) id),rfl,l9 xs,by rw[XF RH,nT];exact q⟩⟩
noncomputable def tW (K:Xh)(mg:Rt)(x:Str)(xs:Rx):Prop:=∃a o XT n,mg x∣.ref a/\K.lookup a∣o/\o.cls= .type "tuple"/\o.data= .seq XT n/\XT.size<=U9/\Vals (xs.map V.str) XT.toList
theorem iK (hm:tW X.K X.mg x xs)(hg:Gl X x:=by rfl)(hd:YJ x:=by decide):EV X (.Name x pos) Z xH xs Z:=by
 let⟨a,o,XT,n,h1,h2⟩:=hm;exact λ_ _ _ _ _ E _ q=>eS (jI (v:=.ref a) hg h1 rfl hd) (q (.ref a) _ _ E `S ⟨a,rfl,.inr ⟨o,XT,n,h2⟩⟩)
end
noncomputable def nH (P:Ve)(w:World)(K:Xh)(mg:Rt)(x:Str)(D:List (Str×Rx)):Prop:=
 ∃a o vs,mg x∣.ref a/\K.lookup a∣o/\o.IsDictOf (cE P w) vs/\(a==Vr)=false/\
  PySem.Paired (λ(d:Str×Rx)(p:Key×Value)=>p.1=Sum.inr d.1/\∃b o XT n,p.2= .ref b/\K.lookup b∣o/\o.cls= .type "tuple"/\o.data= .seq XT n/\XT.size<=U9/\Vals (d.2.map V.str) XT.toList) D vs
noncomputable def cM:List (Str×Rx)->Str->Option Rx
 | [],_=>none
 | (k,v)::r,x=>if k=x then some v else cM r x
theorem vw {K:Xh}{x:Str}:∀{D:List (Str×Rx)}{vs:List (Key×Value)},PySem.Paired (λ(d:Str×Rx)(p:Key×Value)=>p.1=Sum.inr d.1/\∃b o XT n,p.2= .ref b/\K.lookup b∣o/\o.cls= .type "tuple"/\o.data= .seq XT n/\XT.size<=U9/\Vals (d.2.map V.str) XT.toList) D vs->
 (cM D x=none/\Vw vs (Sum.inr x:Key)=none)∨∃ys b,cM D x∣ys/\Vw vs (Sum.inr x:Key)∣.ref b/\∃o XT n,K.lookup b∣o/\o.cls= .type "tuple"/\o.data= .seq XT n/\XT.size<=U9/\Vals (ys.map V.str) XT.toList
 | _,_,.nil=>.inl ⟨rfl,rfl⟩
 | _,_,.cons (a:=d) (b:=p) h t=>by
   let⟨k,v⟩:=d;let⟨q,u⟩:=p;let⟨e1,b,o,XT,n,e2,h3⟩:=h;let e1:q=Sum.inr k:=e1;let e2:u=Xa b:=e2;subst e1;subst e2;rw[cM];unfold Vw;rw[Tz];by_cases e:k=x
   ·subst e;rw[XG rfl];exact .inr ⟨v,b,rfl,`d,o,XT,n,h3⟩
   ·rw[XF e];have:decide ((Sum.inr k:Key)=Sum.inr x)=false:=XM λz=>e (Sum.inr.inj z);simp only[this];exact vw t
section
variable {Z Γ1 Γ2 Γ3:Ga}{α β γ δ:Type}
theorem Cb {e:Expr}{x:Str}{p1:Pos}{D:List (Str×Rx)}{k:Str}(hD:nH X.prog X.w X.K X.mg x D)(he:EV X e Z aq k Γ1)(hg:Gl X x:=by rfl)(hd:YJ x:=by decide):TV X (.Compare e [.NotIn] [.Name x p1] pos) Z (!(cM D k).isSome) Γ1:=by
 intro σ H0 R0 H R E Q q;let⟨a,o,vs,hm,hk,hdo,hs,hp⟩:=hD;let pc:PC X .NotIn e `h (λσ H Q=>fU X e σ H λy H1=>y= .str k/\Q (.bl (!(cM D k).isSome)) H1):=by
  intro XR s σ H Q I h;refine a8 (h XR s I) λiv s1 ⟨y,H1,I1,ry,ey,q1⟩=>a8 (jI (v:=.ref a) hg hm rfl hd XR s1 σ H1 (λv H2=>v= .ref a/\H2=H1) I1 ⟨rfl,rfl⟩) λu s2 ⟨y2,H2,I2,ry2,e3,e4⟩=>?_;subst ey;subst e3;subst e4;obtain rfl:u=Xa a:=ry2;let dd:s2.heap.DictOf (cE X.prog X.w) a vs:=WY.mpr ⟨o,I2.gu a o hk,hdo⟩;refine wpAny_notIn_of (kC (k:=Sum.inr k) ry) hs dd.mapOf ?_;obtain⟨h1,h2⟩ | ⟨ys,b,h1,h2,_⟩:=vw (x:=k) hp
  ·rw[h2];rw[h1] at q1;exact⟨.bl _,_,I2.tok _,rfl,q1⟩
  ·rw[h2];rw[h1] at q1;exact⟨.bl _,_,I2.tok _,rfl,q1⟩
 refine tS (m8 pc (by with_unfolding_all rfl)) (he σ H0 R0 H R E _ λv H1 R1 E1 s1 e1=>⟨e1,_,rfl,q H1 R1 E1 s1⟩)
end
end Fc
namespace Fc.ZT
open PySem PySem.Spec PyProof.Rows
variable {prog:Ve}{w:World}{A:Vg}{E:`s}{s:Va}{XT:Array Value}{Q:`s}
structure Dr (prog:Ve)(w:World)(A:Vg)(i l:Addr)(XT:Array Value)(St:Nat->Heap->Prop):Prop where
 up:∀{k:Nat}{h h':Heap},St k h->(∀b,b=i∨b=l->∀o,h.get? b∣o->h'.get? b∣o)->St k h'
 there:∀{k:Nat}{h:Heap},St k h->i<h.objs.size
 item:∀{k:Nat}{x:`aK}{s:Va}{Q:`s}{E:`s},St k s.heap->XT[k]?∣x->(∀h',St (k+1) h'->WW i s.heap h'->Q x {s with heap:=h'})->wpAny `t A (Ww (.ref i)) Q E s
 done:∀{k:Nat}{s:Va}{Q:`s}{E:`s},St k s.heap->XT[k]?=none->(∀h' e,WZ i s.heap h'->(∃o,h'.get? e∣o/\o.cls= .type "StopIteration")->E (.ref e) {s with heap:=h'})->wpAny `t A (Ww (.ref i)) Q E s
theorem Fv {i l:Addr}(hh:A.handled=none)(X3:i≠l):Dr prog w A i l XT (λk h=>h.IsTupleIter i l k/\h.IsTuple l XT) where
 up:=λ⟨⟨o,ho,r⟩,⟨o',Ze,r'⟩⟩ hk=>⟨⟨o,hk _ `aT o ho,r⟩,⟨o',hk _ (.inr rfl) o' Ze,r'⟩⟩
 there:=λ⟨⟨o,ho,_⟩,_⟩=>WT ho
 item:=λ{k x s Q E} ⟨hit,ht⟩ hx hQ=>by
  let⟨o,ho,hc,hd⟩:=id hit;let⟨ol,hol,_,nl,hdl⟩:=id ht;unfold Ww;refine Vb (Vs (name:=W8 "__next__") hit.typeIs WK
   (VF WK hit.typeIs F.entry_tuple_iterator_next ?_ (F.args_tuple_iterator_next_1 _)))
  show wpAny _ _ (field (.ref i) 0 >>=_) _ _ s;refine Vb (Vn ho hd (x:=.ref l) rfl ?_);refine wpAny_ite ?_;rw[XF (show¬((Xa l==Xb)=true) from RH)];show wpAny _ _ (field (.ref i) 1 >>=_) _ _ s;refine Vb (Vn ho hd (x:=.int k 0) rfl ?_);show wpAny _ _ (seqItems? (.ref l) >>=_) _ _ s;refine Vb (Vz hol hdl ?_);simp only[RX,hx];let hs:=WW.update s.heap i (λo=>o.mapFields λa=>a.setIfInBounds 1 (Wf (k+1)));refine Vb (wpAny_setField ho hd `d (Vd ⟨x,rfl,Vd (hQ _ ⟨?_,ht.extBut (WW.update ..).extBut (UT X3)⟩ (WW.update ..))⟩));exact⟨_,WX _ ho (Obj.isFreed_of_fields (Obj.data_mapFields hd _)),(Obj.cls_mapFields ..).trans hc,by rw[Obj.data_mapFields hd];simp[Wf]⟩
 done:=λ{k s Q E} ⟨hit,ht⟩ hx hE=>by
  let⟨o,ho,hc,hd⟩:=id hit;let⟨ol,hol,_,nl,hdl⟩:=id ht;unfold Ww;refine Vb (Vs (name:=W8 "__next__") hit.typeIs WK
   (VF WK hit.typeIs F.entry_tuple_iterator_next ?_ (F.args_tuple_iterator_next_1 _)))
  show wpAny _ _ (field (.ref i) 0 >>=_) _ _ s;refine Vb (Vn ho hd (x:=.ref l) rfl ?_);refine wpAny_ite ?_;rw[XF (show¬((Xa l==Xb)=true) from RH)];show wpAny _ _ (field (.ref i) 1 >>=_) _ _ s;refine Vb (Vn ho hd (x:=.int k 0) rfl ?_);show wpAny _ _ (seqItems? (.ref l) >>=_) _ _ s;refine Vb (Vz hol hdl ?_);simp only[RX,hx];refine Vb (VX (Vb (wpAny_setField ho hd `d ?_)));show wpAny _ _ (newExc (.type "StopIteration") [] >>=_) _ _ _;refine Vb ?_;simp only[newExc,newTuple];refine Vb (Vv ?_ (by size_fits));refine Vb (m:=firstArgMember _ _) (wpAny_of_eq (a:=Xb) (by first | rfl | (simp only[firstArgMember];rfl)) ?_);refine Vv ?_ (by size_fits);simp only[raiseNew];refine Vb (wpAny_handled ?_)
  first | rw[show A.in1.handled=none from hh] | rw[hh]
  refine Vb (Vd (wpAny_throw ?_));exact hE _ _ (((WW.update ..).extBut.push _).push _) ⟨_,WU _ rfl,rfl⟩
section
variable {z TI TO i1 i2 l1 l2:Addr}{k1 k2:Nat}{xs ys:Array Value}{x y a b:`aK}{S1 S2:Nat->Heap->Prop}
theorem up1 {i l c:Addr}{St:Nat->Heap->Prop}(d:Dr prog w A i l XT St){k:Nat}{h h':Heap}(hs:St k h)(e:WZ c h h')(h1:i≠c)(h2:l≠c):St k h':=d.up hs λb hb o q=>e b o (by rcases hb with rfl | rfl<;>assumption) q
theorem Jy (D:Wm z TI TO i1 i2 l1 l2)(d1:Dr prog w A i1 l1 xs S1)(d2:Dr prog w A i2 l2 ys S2)(hz:IsZip s.heap z TI TO .none)(Zn:Vt s.heap TI (.ref i1) (.ref i2))(Zr:Vt s.heap TO a b)(h1:S1 k1 s.heap)(h2:S2 k2 s.heap)(hx:xs[k1]?∣x)(hy:ys[k2]?∣y)(hQ:∀h',IsZip h' z TI TO (Wf ⇑s)->Vt h' TO x y->S1 (k1+1) h'->S2 (k2+1) h'->Vt h' ⇑s x y->`as->Q (.ref ⇑s) {s with heap:=h'}):
 wpAny `t A (Builtin.«zip.__next__» ⟨[.ref z],[]⟩) (λfin s'=>∃v,fin= .done (.ret v)/\Q v s') E s:=by
 show wpAny _ _ (field (.ref z) 2 >>=_) _ _ _;refine Vb (Vn hz rfl (x:=.bool false) rfl ?_);show wpAny _ _ (field (.ref z) 3 >>=_) _ _ _;refine Vb (Vn hz rfl (x:=.ref TI) rfl (Vb (Vz Zn rfl ?_)));show wpAny _ _ (Wx (.ref z) >>=_) _ _ _;refine Vb ?_;unfold Wx;refine Vb (Vn hz rfl (x:=.none) rfl (Vd ?_));simp only[if_true];refine Vb (VX (Vb (Vn hz rfl (x:=.ref TO) rfl (Vb (VB hz `d λha hza Z2=>?_)))));replace hza:IsZip ha z TI TO .ellipsis:=hza;refine Vb ?_;simp only[List.zipIdx_cons,List.zipIdx_nil,Us,forIn_nil];refine Vb (Vb (V4 ?_));show wpAny _ _ (Ww (.ref i1) >>=_) _ _ _;let g1:S1 k1 ha:=up1 d1 h1 Z2.extBut D.i1z D.l1z;let g2:S2 k2 ha:=up1 d2 h2 Z2.extBut D.i2z D.l2z;refine Vb (d1.item g1 hx λhb n1 Y3=>Vd ?_);let tb:Vt hb TO a b:=Y3.extBut _ _ D.TOi1 (Z2.extBut _ _ D.TOz Zr);refine Vb (Vz tb rfl (Vb (VY tb λhc tc ZP=>?_)));replace tc:Vt hc TO x b:=tc;refine Vb (wpAny_letGo (Vd ?_));refine Vb (Vb (V4 ?_));show wpAny _ _ (Ww (.ref i2) >>=_) _ _ _;let g2c:S2 k2 hc:=up1 d2 (up1 d2 g2 Y3.extBut D.i12.symm D.l2i1) ZP.extBut D.TOi2.symm D.l2TO;refine Vb (d2.item g2c hy λhd n2 hsd=>Vd ?_);let td:Vt hd TO x b:=hsd.extBut _ _ D.TOi2 tc;refine Vb (Vz td rfl (Vb (VY td λhe te hse=>?_)));replace te:Vt he TO x y:=te;refine Vb (wpAny_letGo (Vd (Vd ?_)));refine Vb (Vz te rfl (Vb (wpAny_newTuple ?_)));let hsz:he.objs.size=⇑s:=by rw[hse.1,hsd.1,ZP.1,Y3.1,Z2.1]
 let ze:IsZip he z TI TO .ellipsis:=hse.extBut _ _ D.TOz.symm (hsd.extBut _ _ D.i2z.symm (ZP.extBut _ _ D.TOz.symm (Y3.extBut _ _ D.i1z.symm hza)));let ke:∀c o,c≠z->c≠TO->c≠i1->c≠i2->s.heap.get? c∣o->he.get? c∣o:=λc o c1 c2 c3 c4 e=>
  hse.extBut _ _ c2 (hsd.extBut _ _ c4 (ZP.extBut _ _ c2 (Y3.extBut _ _ c3 (Z2.extBut _ _ c1 e))))
 let m1:S1 (k1+1) he:=up1 d1 (up1 d1 (up1 d1 n1 ZP.extBut D.TOi1.symm D.l1TO) hsd.extBut D.i12 D.l1i2) hse.extBut D.TOi1.symm D.l1TO;let m2:S2 (k2+1) he:=up1 d2 n2 hse.extBut D.TOi2.symm D.l2TO;let hzlt:z<he.objs.size:=WT ze;show wpAny _ _ (Builtin.SmallTypes.ownedTupleHandOut (.ref z) (.ref he.objs.size) >>=_) _ _ _;refine Vb ?_;unfold Builtin.SmallTypes.ownedTupleHandOut;let zf:IsZip (he.push {cls:=.type "tuple",data:=.seq #[x,y]}) z TI TO .ellipsis:=WR _ ze;refine Vb (VB zf `d λhg zg hsg=>?_);replace zg:IsZip hg z TI TO (Wf he.objs.size):=zg;refine VB zg `d λhj zj hsj=>?_;replace zj:IsZip hj z TI TO (Wf he.objs.size):=zj;let up:∀c o,c≠z->he.get? c∣o->hj.get? c∣o:=λc o c1 e=>hsj.extBut _ _ c1 (hsg.extBut _ _ c1 (WR _ e));let tj:Vt hj he.objs.size x y:=hsj.extBut _ _ (UJ hzlt) (hsg.extBut _ _ (UJ hzlt) (WU _ rfl));rw[hsz] at zj tj;refine Vd ⟨_,rfl,?_⟩;show Q (.ref he.objs.size) _;rw[hsz];exact hQ hj zj (up _ _ D.TOz te) (d1.up m1 λc hc o e=>up c o (hc.elim (λq=>by rw[q];exact D.i1z) λq=>by rw[q];exact D.l1z) e) (d2.up m2 λc hc o e=>up c o (hc.elim (λq=>by rw[q];exact D.i2z) λq=>by rw[q];exact D.l2z) e) tj λc o c1 c2 c3 c4 e=>up c o c1 (ke c o c1 c2 c3 c4 e)
theorem oW {Q:PySem.Fin->Va->Prop}(D:Wm z TI TO i1 i2 l1 l2)(d1:Dr prog w A i1 l1 xs S1)(d2:Dr prog w A i2 l2 ys S2)(hz:IsZip s.heap z TI TO .none)(Zn:Vt s.heap TI (.ref i1) (.ref i2))(Zr:Vt s.heap TO a b)(h1:S1 k1 s.heap)(h2:S2 k2 s.heap)(YQ:xs[k1]?=none∨ys[k2]?=none)(hE:∀h' e,`as->(∃o,h'.get? e∣o/\o.cls= .type "StopIteration")->E (.ref e) {s with heap:=h'}):
 wpAny `t A (Builtin.«zip.__next__» ⟨[.ref z],[]⟩) Q E s:=by
 show wpAny _ _ (field (.ref z) 2 >>=_) _ _ _;refine Vb (Vn hz rfl (x:=.bool false) rfl ?_);show wpAny _ _ (field (.ref z) 3 >>=_) _ _ _;refine Vb (Vn hz rfl (x:=.ref TI) rfl (Vb (Vz Zn rfl ?_)));show wpAny _ _ (Wx (.ref z) >>=_) _ _ _;refine Vb ?_;unfold Wx;refine Vb (Vn hz rfl (x:=.none) rfl (Vd ?_));simp only[if_true];refine Vb (VX (Vb (Vn hz rfl (x:=.ref TO) rfl (Vb (VB hz `d λha hza Z2=>?_)))));replace hza:IsZip ha z TI TO .ellipsis:=hza;refine Vb ?_;simp only[List.zipIdx_cons,List.zipIdx_nil,Us,forIn_nil];refine Vb (Vb (V4 ?_));show wpAny _ _ (Ww (.ref i1) >>=_) _ _ _;let g1:S1 k1 ha:=up1 d1 h1 Z2.extBut D.i1z D.l1z;let g2:S2 k2 ha:=up1 d2 h2 Z2.extBut D.i2z D.l2z;cases hx:xs[k1]? with
 | none=>
   refine Vb (d1.done g1 hx λhb e Y3 he=>?_);let⟨oe,hoe,hce⟩:=he;let zb:IsZip hb z TI TO .ellipsis:=Y3 _ _ D.i1z.symm hza;let hez:e≠z:=λq=>by subst q;rw[zb] at hoe;cases hoe;simp at hce
   exact VB zb `d λhc _ ZP=>hE hc e (λc o c1 _ c3 _ q=>ZP.extBut _ _ c1 (Y3 _ _ c3 (Z2.extBut _ _ c1 q))) ⟨oe,ZP.extBut _ _ hez hoe,hce⟩
 | some x=>
   let hy:ys[k2]?=none:=by obtain q | q:=YQ;rw[hx] at q;cases q;exact q
   refine Vb (d1.item g1 hx λhb n1 Y3=>Vd ?_);let tb:Vt hb TO a b:=Y3.extBut _ _ D.TOi1 (Z2.extBut _ _ D.TOz Zr);refine Vb (Vz tb rfl (Vb (VY tb λhc tc ZP=>?_)));refine Vb (wpAny_letGo (Vd ?_));refine Vb (Vb (V4 ?_));show wpAny _ _ (Ww (.ref i2) >>=_) _ _ _;let g2c:S2 k2 hc:=up1 d2 (up1 d2 g2 Y3.extBut D.i12.symm D.l2i1) ZP.extBut D.TOi2.symm D.l2TO;refine Vb (d2.done g2c hy λhd e hsd he=>?_);let⟨oe,hoe,hce⟩:=he;let zd:IsZip hd z TI TO .ellipsis:=hsd _ _ D.i2z.symm (ZP.extBut _ _ D.TOz.symm (Y3.extBut _ _ D.i1z.symm hza));let hez:e≠z:=λq=>by subst q;rw[zd] at hoe;cases hoe;simp at hce
   exact VB zd `d λhe _ hse=>hE he e (λc o c1 c2 c3 c4 q=>hse.extBut _ _ c1 (hsd _ _ c4 (ZP.extBut _ _ c2 (Y3.extBut _ _ c3 (Z2.extBut _ _ c1 q))))) ⟨oe,hse.extBut _ _ hez hoe,hce⟩
theorem HQ {Q:Ry->Va->Prop}(D:Wm z TI TO i1 i2 l1 l2)(d1:Dr prog w A.in1 i1 l1 xs S1)(d2:Dr prog w A.in1 i2 l2 ys S2)(hz:IsZip s.heap z TI TO .none)(Zn:Vt s.heap TI (.ref i1) (.ref i2))(Zr:Vt s.heap TO a b)(h1:S1 k1 s.heap)(h2:S2 k2 s.heap)(hx:xs[k1]?∣x)(hy:ys[k2]?∣y)(hQ:∀h',IsZip h' z TI TO (Wf ⇑s)->Vt h' TO x y->S1 (k1+1) h'->S2 (k2+1) h'->Vt h' ⇑s x y->`as->Q (some (.ref ⇑s)) {s with heap:=h'}):
 wpAny `t A (V7 (.ref z)) Q E s:=by
 let hT:s.TypeIs (.ref z) "zip":=⟨_,hz,rfl⟩;unfold V7;exact Vb (wpAny_attempt (Vs (name:=W8 "__next__") hT WL (VF WL hT F.entry_zip_next (Jy D d1 d2 hz Zn Zr h1 h2 hx hy λh' a1 a2 a3 a4 a5 a6=>Vd (hQ h' a1 a2 a3 a4 a5 a6)) (F.args_zip_next_1 _))))
theorem MA {Q:Ry->Va->Prop}(D:Wm z TI TO i1 i2 l1 l2)(d1:Dr prog w A.in1 i1 l1 xs S1)(d2:Dr prog w A.in1 i2 l2 ys S2)(hz:IsZip s.heap z TI TO .none)(Zn:Vt s.heap TI (.ref i1) (.ref i2))(Zr:Vt s.heap TO a b)(h1:S1 k1 s.heap)(h2:S2 k2 s.heap)(YQ:xs[k1]?=none∨ys[k2]?=none)(hQ:∀h',`as->Q none {s with heap:=h'}):wpAny `t A (V7 (.ref z)) Q E s:=by
 let hT:s.TypeIs (.ref z) "zip":=⟨_,hz,rfl⟩;unfold V7;refine Vb (wpAny_attempt (Vs (name:=W8 "__next__") hT WL (VF WL hT F.entry_zip_next (oW D d1 d2 hz Zn Zr h1 h2 YQ λh' e hk he=>?_) (F.args_zip_next_1 _))));let⟨o,ho,hc⟩:=he;exact Vb (wpAny_isInstance (T:="StopIteration") (b:=true) ⟨o,ho,hc⟩ isSubtype_stop (Vd (hQ _ hk)))
end
theorem IH {i l:Addr}(hh:A.handled=none)(X3:i≠l):Dr prog w A i l XT (λk h=>h.IsListIter i l k/\h.IsList l XT) where
 up:=λ⟨⟨o,ho,r⟩,⟨o',Ze,r'⟩⟩ hk=>⟨⟨o,hk _ `aT o ho,r⟩,⟨o',hk _ (.inr rfl) o' Ze,r'⟩⟩
 there:=λ⟨⟨o,ho,_⟩,_⟩=>WT ho
 item:=λ{k x s Q E} ⟨hit,ht⟩ hx hQ=>wpAny_nextOf_list_item hit ht hx λh' h1 h2=>hQ h' ⟨h1,ht.extBut h2.extBut (UT X3)⟩ h2
 done:=λ{k s Q E} ⟨hit,ht⟩ hx hE=>wpAny_nextOf_list_end hh hit ht hx λh' e h1 h2=>hE h' e h1 h2
abbrev mH (c:String)(l:Addr):Obj:={cls:=.type c,data:=.fields #[.ref l,.int 0 0]}
def wM (c:String)(h:Heap)(a l:Addr)(i:Nat):Prop:=∃o,h.get? a∣o/\o.cls= .type c/\o.data= .fields #[.ref l,.int i 0]
structure Kd (prog:Ve)(w:World)(it:String)(Is:Heap->Addr->Array Value->Prop):Prop where
 nm:it="list_iterator"∨it="tuple_iterator"
 cl:∀{h:Heap}{a:Addr}{XT:Array Value},Is h a XT->∃o,h.get? a∣o/\(o.cls= .type "list"∨o.cls= .type "tuple")
 up:∀{h:Heap}{a:Addr}{XT:Array Value}(o:Obj),Is h a XT->Is (h.push o) a XT
 dr:∀{A:Vg}{i l:Addr}{XT:Array Value},A.handled=none->i≠l->Dr prog w A i l XT (λk h=>wM it h i l k/\Is h l XT)
 iter:∀{A:Vg}{E:`s}{s:Va}{l:Addr}{XT:Array Value}{Q:`s},Is s.heap l XT->Q (.ref ⇑s) {s with heap:=s.heap.push (mH it l)}->wpAny `t A (pyIter (.ref l)) Q E s
theorem QO :Kd prog w "list_iterator" Heap.IsList:=⟨.inl rfl,λ⟨o,ho,hc,_⟩=>⟨o,ho,.inl hc⟩,λo h=>h.push o,λhh hn=>IH hh hn,λh q=>VG h q⟩
theorem QG :Kd prog w "tuple_iterator" Heap.IsTuple:=⟨.inr rfl,λ⟨o,ho,hc,_⟩=>⟨o,ho,.inr hc⟩,λo ⟨o',ho,r⟩=>⟨o',WR _ ho,r⟩,λhh hn=>Fv hh hn,λh q=>wpAny_pyIter_tuple h q⟩
section
variable {i1 i2:String}{S1 S2:Heap->Addr->Array Value->Prop}
theorem Kd.apart {h:Heap}{l c:Addr}{o:Obj}(k:Kd prog w i1 S1)(p:S1 h l XT)(e:h.get? c∣o)(hc:o.cls= .type "zip"∨o.cls= .type "list_iterator"∨o.cls= .type "tuple_iterator"):l≠c:=λz=>by
 let⟨u,e',c'⟩:=k.cl p;rw[z,e] at e';cases e'
 rcases hc with q | q | q<;>rw[q] at c'<;>simp at c'
theorem BE {l1 l2:Addr}{xs ys:Array Value}(k1:∀prog w,Kd prog w i1 S1)(k2:∀prog w,Kd prog w i2 S2)(hl1:S1 s.heap l1 xs)(hl2:S2 s.heap l2 ys)(h:∀h',IsZip h' (⇑s+4) (⇑s+2) (⇑s+3) .none->Vt h' (⇑s+2) (.ref ⇑s) (.ref (⇑s+1))->Vt h' (⇑s+3) .none .none->wM i1 h' ⇑s l1 0->wM i2 h' (⇑s+1) l2 0->
  (∀c o,s.heap.get? c∣o->h'.get? c∣o)->Q (.ref (⇑s+4)) {s with heap:=h'}):wpAny `t A (call (.type "zip") [.ref l1,.ref l2]) Q E s:=by
 let nz:Meets (Builtin.«zip.__new__» ⟨[.type "zip",.ref l1,.ref l2],[]⟩) (λ_ R s=>S1 s.heap l1 xs/\S2 s.heap l2 ys/\R (.ok (.ret (.ref (⇑s+4)))) {s with heap:=((((s.heap.push (mH i1 l1)).push (mH i2 l2)).push {cls:=.type "tuple",data:=.seq #[.ref ⇑s,.ref (⇑s+1)]}).push {cls:=.type "tuple",data:=.seq #[.none,.none]}).push {cls:=.type "zip",data:=.fields #[.none,.bool false,.bool false,.ref (⇑s+2),.ref (⇑s+3)]}}):=
  .of_wp λprog w A R s h=>by
   let⟨hp,g,d,tk,os⟩:=s;let⟨hl1,hl2,h⟩:=h;let Yl:isSubtype (.type "zip") (.type "zip")=pure true:=by rw[isSubtype_type];kernel_rfl
   let hL1:S1 (Va.heap ⟨hp,g,d,tk,os⟩) l1 xs:=hl1;let hL2:S2 (Va.heap ⟨hp.push (mH i1 l1),g,d,tk,os⟩) l2 ys:=(k2 prog w).up _ hl2
   wp_walk using(k1 prog w).iter hL1,(k2 prog w).iter hL2
   refine⟨_,rfl,?_⟩;simp only[WV];exact h
 refine callType_new F.called_zip `c (F.typeCall_zip_2 _ _) (F.newCall_zip_2 _ _) (λobj=>F.args_object_init_3 obj _ _) F.entry_zip_new nz ⟨hl1,hl2,?_⟩;let at_:∀(h:Heap)(o:Obj)(n:Nat),h.objs.size=n->o.isFreed=false->(h.push o).get? n∣o:=λh o n e f=>by subst e;exact WU _ f
 let g5:=at_ ((((s.heap.push (mH i1 l1)).push (mH i2 l2)).push {cls:=.type "tuple",data:=.seq #[.ref ⇑s,.ref (⇑s+1)]}).push {cls:=.type "tuple",data:=.seq #[.none,.none]}) {cls:=.type "zip",data:=.fields #[.none,.bool false,.bool false,.ref (⇑s+2),.ref (⇑s+3)]} (⇑s+4) (by simp[WV]) rfl;let g4:=at_ (((s.heap.push (mH i1 l1)).push (mH i2 l2)).push {cls:=.type "tuple",data:=.seq #[.ref ⇑s,.ref (⇑s+1)]}) {cls:=.type "tuple",data:=.seq #[.none,.none]} (⇑s+3) (by simp[WV]) rfl;let g3:=at_ ((s.heap.push (mH i1 l1)).push (mH i2 l2)) {cls:=.type "tuple",data:=.seq #[.ref ⇑s,.ref (⇑s+1)]} (⇑s+2) (by simp[WV]) rfl;let g2:=at_ (s.heap.push (mH i1 l1)) (mH i2 l2) (⇑s+1) (by simp[WV]) rfl;let g1:=at_ s.heap (mH i1 l1) ⇑s rfl rfl;let p:=@WR;exact⟨⟨_,g5,rfl⟩,h _ g5 (p _ (p _ g3)) (p _ g4) ⟨_,p _ (p _ (p _ (p _ g1))),rfl,rfl⟩ ⟨_,p _ (p _ (p _ g2)),rfl,rfl⟩ λc o x=>p _ (p _ (p _ (p _ (p _ x))))⟩
end
end Fc.ZT
namespace Fc
open PySem PySem.Spec PySem.W PySem.Calls L2
open PyProof.Rows hiding St
variable {i:Nat}{K:Xh}{es:RE}{tp:Pos}{R:Hp}{v:V}{xs:`aQ}{pos:Pos}
section
variable {X:Cx}{Z Γ1 Γ2 Γ3:Ga}{α β γ δ:Type}{N:Ga->Prop}{T:RT}
structure FE (z TI TO i1 i2:Addr):Prop where
 TIz:TI≠z
 TOz:TO≠z
 i1z:i1≠z
 i2z:i2≠z
 TITO:TI≠TO
 TIi1:TI≠i1
 TIi2:TI≠i2
 TOi1:TO≠i1
 TOi2:TO≠i2
 i12:i1≠i2
theorem ZK {a b:Nat}(h:a<b∨b<a): @Ne Addr a b:=h.elim UB UJ
theorem QP (n:Nat):FE (n+4) (n+2) (n+3) n (n+1):=⟨ZK `a,ZK `a,ZK `a,ZK `a,ZK `a,ZK `a,ZK `a,ZK `a,ZK `a,ZK `a⟩
structure Ky where
 it:String
 Is:Heap->Addr->Array Value->Prop
 Sq:Xh->Hp->Addr->List V->Prop
 kd:∀prog w,ZT.Kd prog w it Is
 get:∀{X:Cx}{XR:Ru}{σ:St}{H:Hp}{s:Va}{a:Addr}{xs:`P},Inv X XR σ H s->Sq X.K H a xs->∃XT,Vals xs XT/\Is s.heap a XT.toArray
 inj:∀{X:Cx}{XR:Ru}{σ:St}{H:Hp}{s:Va}{a:Addr}{xs ys:`P},Inv X XR σ H s->Sq X.K H a xs->Sq X.K H a ys->xs=ys
def GQ:Ky:=⟨_,_,bw,λ_ _=>ZT.QO,λI h=>by let⟨XT,r,p,_⟩:=I.list h;exact⟨XT,r,p.isList⟩,λI h h'=>I.oa h h'⟩
def BF:Ky:=⟨_,_,dY,λ_ _=>ZT.QG,λI h=>by let⟨XT,r,p,_⟩:=I.tuple h;exact⟨XT,r,p⟩,λI h h'=>I.u5 h h'⟩
variable {k1 k2:Ky}
def Pb (k1 k2:Ky)(K:Xh)(a b:Addr):It:=
 ⟨λi H=>∃xs ys x y,k1.Sq K H a xs/\k2.Sq K H b ys/\xs[i]?∣x/\ys[i]?∣y,
  λi H v H'=>∃p x y,H p=none/\v= .ref p/\H'=upd H p (.tup [x,y])/\(∀xs,k1.Sq K H a xs->xs[i]?∣x)/\∀ys,k2.Sq K H b ys->ys[i]?∣y,
  λi H=>∃xs ys,k1.Sq K H a xs/\k2.Sq K H b ys/\(xs.length<=i∨ys.length<=i)⟩
def Qr (k1 k2:Ky)(z TI TO i1 i2 a b:Addr)(i:Nat)(h:Heap):Prop:=
 IsZip h z TI TO .none/\Vt h TI (.ref i1) (.ref i2)/\(∃u v,Vt h TO u v)/\ZT.wM k1.it h i1 a i/\ZT.wM k2.it h i2 b i/\a≠TO/\b≠TO
theorem O9 {P:Ve}{w:World}{h:Heap}{z TI TO i1 i2 a b:Addr}{xs ys:Array Value}(F:FE z TI TO i1 i2)(st:Qr k1 k2 z TI TO i1 i2 a b i h)(pa:k1.Is h a xs)(pb:k2.Is h b ys):Wm z TI TO i1 i2 a b:=by
 let⟨hz,_,_,⟨o1,e1,c1,_⟩,⟨o2,e2,c2,_⟩,n1,n2⟩:=st;let q1:o1.cls= .type "list_iterator"∨o1.cls= .type "tuple_iterator":=(k1.kd P w).nm.imp (λe=>by rw[c1,e]) (λe=>by rw[c1,e]);let q2:o2.cls= .type "list_iterator"∨o2.cls= .type "tuple_iterator":=(k2.kd P w).nm.imp (λe=>by rw[c2,e]) (λe=>by rw[c2,e]);exact⟨F.TIz,F.TOz,F.i1z,F.i2z,F.TITO,F.TIi1,F.TIi2,F.TOi1,F.TOi2,F.i12,
  (k1.kd P w).apart pa hz `aT,n1,(k1.kd P w).apart pa e1 (.inr q1),(k1.kd P w).apart pa e2 (.inr q2),
  (k2.kd P w).apart pb hz `aT,n2,(k2.kd P w).apart pb e1 (.inr q1),(k2.kd P w).apart pb e2 (.inr q2)⟩
theorem Fx {P:Ve}{w:World}{k:Nat}(a b z TI TO i1 i2:Addr)(F:FE z TI TO i1 i2):Turn P w K (.Tuple es k tp) (Pb k1 k2 K a b) [z,TI,TO,i1,i2] z (Qr k1 k2 z TI TO i1 i2 a b) where
 mem:=`d
 obj:=λi h st c hc=>by
  let⟨hz,Zn,⟨u,v,Zr⟩,⟨o1,e1,c1,d1⟩,⟨o2,e2,c2,d2⟩,_⟩:=st;simp only[Sj,S4,or_false] at hc;obtain rfl | rfl | rfl | rfl | rfl:=hc
  ·exact⟨_,hz,λv q=>by cases q⟩
  ·exact⟨_,Zn,λv q=>by cases q⟩
  ·exact⟨_,Zr,λv q=>by cases q⟩
  ·exact⟨o1,e1,λv q=>by rw[d1] at q;cases q⟩
  ·exact⟨o2,e2,λv q=>by rw[d2] at q;cases q⟩
 keep:=λi h h' st kk=>by
  let⟨hz,Zn,⟨u,v,Zr⟩,h1,h2,n⟩:=st;exact⟨kk z `d _ hz,kk TI `d _ Zn,⟨u,v,kk TO `d _ Zr⟩,h1.imp λo q=>⟨kk i1 `d o q.1,q.2⟩,h2.imp λo q=>⟨kk i2 `d o q.1,q.2⟩,n⟩
 item:=by
  intro X hP hw hK hc i XR s σ H E I hf st hg;subst hP hw hK;let⟨xs,ys,x,y,hq,YY,hx,hy⟩:=hg;let⟨XT,r,pl⟩:=k1.get I hq;let⟨its',r',ZV⟩:=k2.get I YY;let⟨u,hu,rx⟩:=r.get hx;let⟨u',Z1,ry⟩:=r'.get hy;let D:=O9 (P:=X.prog) (w:=X.w) F st pl ZV;let hh:=I.ok.hd hc;let⟨hz0,Zn,⟨c,d,Zr⟩,h1,h2,n⟩:=st;let hn:H ⇑s=none:=I.XX.fresh (Uw _);refine ZT.HQ D ((k1.kd _ _).dr (A:=X.A.in1) hh (UT D.l1i1)) ((k2.kd _ _).dr (A:=X.A.in1) hh (UT D.l2i2)) hz0 Zn Zr ⟨h1,pl⟩ ⟨h2,ZV⟩ (x:=u) (y:=u') (~~~hu) (~~~Z1) λh' a1 a2 a3 a4 a5 hk=>?_;refine⟨_,rfl,?_⟩;refine wpAny_letOwnedTupleGo_zip (s:={s with heap:=h'}) a1 λh3 hz3 hs3=>?_;let lt:∀{c o},s.heap.get? c∣o->c≠⇑s:=λe=>UB (WT e);let hk2:∀b o,b∉[z,TI,TO,i1,i2]->s.heap.get? b∣o->h3.get? b∣o:=λb o hb q=>by
   simp only[Sj,S4,or_false,not_or] at hb;exact hs3.extBut b o hb.1 (hk b o hb.1 hb.2.2.1 hb.2.2.2.1 hb.2.2.2.2 q)
  let I1:Inv X XR σ H {s with heap:=h3,toks:=s.toks}:=pF I hk2 hf;let hT2:h3.get? ⇑s=some {cls:=.type "tuple",data:=.seq #[u,u']}:=hs3.extBut _ _ (UT (lt hz0)) a5;let I2:Inv X XR σ (upd H ⇑s (.tup [x,y])) {s with heap:=h3,toks:=s.toks}:=
   adopt I1 (I.j8 (Uw _) hn) (I.sz) ⟨by show 2<=U9;decide,[u,u'],.cons rx (.cons ry .nil),⟨_,hT2,rfl,_,rfl⟩⟩
  refine⟨.ref ⇑s,_,I2,rfl,⟨⇑s,x,y,hn,rfl,rfl,λzs hzs=>?_,λzs hzs=>?_⟩,⟨hz3,?_,⟨_,_,hs3.extBut _ _ F.TOz a2⟩,a3.1.imp λo q=>⟨hs3.extBut _ _ F.i1z q.1,q.2⟩,a4.1.imp λo q=>⟨hs3.extBut _ _ F.i2z q.1,q.2⟩,n⟩,λb hb=>?_⟩
  ·rw[k1.inj I hzs hq];exact hx
  ·rw[k2.inj I hzs YY];exact hy
  ·exact hs3.extBut _ _ F.TIz (hk _ _ F.TIz F.TITO F.TIi1 F.TIi2 Zn)
  ·let YA:b≠⇑s:=by
    simp only[Sj,S4,or_false] at hb;obtain rfl | rfl | rfl | rfl | rfl:=hb
    ·exact lt hz0
    ·exact lt Zn
    ·exact lt Zr
    ·let⟨_,e,_⟩:=h1;exact lt e
    ·let⟨_,e,_⟩:=h2;exact lt e
   rw[aF YA];exact(hf b hb).1
 done:=by
  intro X hP hw hK hc i XR s σ H E I hf st hg;subst hP hw hK;let⟨xs,ys,hq,YY,hx⟩:=hg;let⟨XT,r,pl⟩:=k1.get I hq;let⟨its',r',ZV⟩:=k2.get I YY;let D:=O9 (P:=X.prog) (w:=X.w) F st pl ZV;let hh:=I.ok.hd hc;let⟨hz0,Zn,⟨c,d,Zr⟩,h1,h2,n⟩:=st;let l1:=r.length;let l2:=r'.length;refine ZT.MA D ((k1.kd _ _).dr (A:=X.A.in1) hh (UT D.l1i1)) ((k2.kd _ _).dr (A:=X.A.in1) hh (UT D.l2i2)) hz0 Zn Zr ⟨h1,pl⟩ ⟨h2,ZV⟩ (hx.imp (λq=>by simp;cbv) λq=>by simp;cbv) λh' hk=>⟨rfl,?_⟩;refine pF (t':=s.toks) I (λb o hb q=>?_) hf;simp only[Sj,S4,or_false,not_or] at hb;exact hk b o hb.1 hb.2.2.1 hb.2.2.2.1 hb.2.2.2.2 q
 self:=λ_ _ _ _ _ st h=>wpAny_pyIter_zip st.1 h
theorem ni {xs:`u}{ys:List β}{q:α×β}(h:(xs.zip ys)[i]?∣q):xs[i]?∣q.1/\ys[i]?∣q.2:=by
 rw[TN] at h;exact h
structure xX (k:Ky)(K:Xh)(R:Hp)(v:V)(r:Rep α)(xs:`u):Prop where
 ex:∃a vs,v= .ref a/\(∀R' H,au R R'->au R' H->k.Sq K H a vs)/\vs.length=xs.length/\∀(i:Nat)(x:α),xs[i]?∣x->∃u,vs[i]?∣u/\r.R K R u x
theorem AH {r:Rep α}{xs:`u}(h:(ae r).R K R v xs):xX GQ K R v r xs:=by
 let⟨a,vs,rfl,hp,pp,_⟩:=h;exact⟨a,vs,rfl,λR' H s s'=>bw.of (s' _ _ (s _ _ hp)),pp.length,λi x hx=>fH pp hx⟩
theorem Nd {xs:Rx}(h:xH.R K R v xs):xX BF K R v aq xs:=by
 let⟨a,rfl,hq⟩:=h;exact⟨a,_,rfl,λR' H s s'=>hq.imp (λh=>h.imp (λq=>s' _ _ (s _ _ q)) λ⟨o,q⟩=>⟨o,s' _ _ (s _ _ q)⟩) id,by rw[R9],λi x hx=>⟨_,by rw[Sf,hx];rfl,rfl⟩⟩
theorem Hi (h:av.R K R v (.tup xs)):xX BF K R v av xs:=by
 let h:iR R v (.tup xs):=h;cases h with
 | @tup a vs _ hp pp=>exact⟨a,vs,rfl,λR' H s s'=>dY.of (s' _ _ (s _ _ hp)),pp.pair.length,λi x hx=>fH pp.pair hx⟩
def QD (k1 k2:Ky)(K:Xh)(ta:TA):TI:=λσ H R=>ta σ H λvs H1=>∃a b xs ys,vs=[.ref a,.ref b]/\k1.Sq K H1 a xs/\k2.Sq K H1 b ys/\R (Pb k1 k2 K a b) H1
theorem Kb {a b:Expr}{ta:TA}{p:Pos}{k:Nat}(hg:Gl X "zip")(hm:X.mg "zip"=none)(ha:PA X [a,b] ta)(hs:xW X a b)(Ys:fW X b):PI X (.Tuple es k tp) (.Call (.Name "zip" p) [a,b] [] pos) (QD k1 k2 X.K ta):=by
 intro XR s σ H R I h;refine Call_ (ji I hg hm boot_zip (U1 `V (by first | rw[dq,hs,Ys] | rw[hs,Ys]) (by rw[Ys];rfl)));let⟨l,l',xs,ys,e,hq,YY,q⟩:=q1;subst e;cases r1 with
 | cons r rr=>
   cases rr with
   | cons r' rr=>
     cases rr
     cases r
     cases r'
     let⟨XT,_,pl⟩:=k1.get I1 hq;let⟨its',_,ZV⟩:=k2.get I1 YY;let ll:l<⇑s1:=by let⟨o,e,_⟩:=(k1.kd X.prog X.w).cl pl;exact WT e
     let ll':l'<⇑s1:=by let⟨o,e,_⟩:=(k2.kd X.prog X.w).cl ZV;exact WT e
     refine ZT.BE k1.kd k2.kd pl ZV λh' a1 a2 a3 a4 a5 hk=>?_;refine wpAny_pyIter_zip a1 ?_;let I2:Inv X XR σ H1 {s1 with heap:=h'}:=I1.kept (t':=s1.toks) hk;let ff:∀b,⇑s1<=b->mB X XR H1 b:=λb hb=>I1.j8 hb (I1.XX.fresh hb);refine⟨⇑s1+4,[⇑s1+4,⇑s1+2,⇑s1+3,⇑s1,⇑s1+1],_,_,H1,rfl,I2,Fx (k1:=k1) (k2:=k2) l l' _ _ _ _ _ (QP _),⟨a1,a2,⟨_,_,a3⟩,a4,a5,UB (UA ll (UI _ 3)),UB (UA ll' (UI _ 3))⟩,λb hb=>?_,q⟩;simp only[Sj,S4,or_false] at hb;obtain rfl | rfl | rfl | rfl | rfl:=hb
     ·exact ff _ (UI _ 4)
     ·exact ff _ (UI _ 2)
     ·exact ff _ (UI _ 3)
     ·exact ff _ (Uw _)
     ·exact ff _ (UI _ 1)
theorem tX {a b:Expr}{p:Pos}{k:Nat}{q1:Rep γ}{q2:Rep δ}{x1:γ}{x2:δ}{r:Rep α}{r':Rep β}{xs:`u}{ys:List β}(hm:X.mg "zip"=none)(ha:EV X a Z q1 x1 Γ1)(hb:EV X b Γ1 q2 x2 Γ2)(f1:∀{R:Hp}{v:V},q1.R X.K R v x1->xX k1 X.K R v r xs)(f2:∀{R:Hp}{v:V},q2.R X.K R v x2->xX k2 X.K R v r' ys)(hz:∀{R:Hp}{v v':V},q1.R X.K R v x1->q2.R X.K R v' x2->xs.length<=U9∨ys.length<=U9)(hs:xW X a b:=by rfl)(Ys:fW X b:=by rfl)(hg:Gl X "zip":=by rfl):
 IV X (.Tuple es k tp) (.Call (.Name "zip" p) [a,b] [] pos) Z (cQ r r') (xs.zip ys) Γ2:=by
 refine⟨_,Kb (k1:=k1) (k2:=k2) hg hm (aI aN (aI aN br Ys) (by first | rw[dq,hs,Ys] | rw[hs,Ys])) hs Ys,λσ H0 R0 H R E Rq q=>ha σ H0 R0 H R E _ λv H1 R1 E1 s1 e1=>hb σ H0 R0 H1 R1 E1 _ λv' H2 R2 E2 s2 e2=>?_⟩;let e1:=q1.mono (K:=X.K) s2 e1;let z:(xs.zip ys).length<=U9:=by
  rw[Ts];exact(hz e1 e2).elim (Ux (UK _ _)) (Ux (UO _ _))
 let⟨a,vs,rfl,sa,la,pa⟩:=f1 e1;let⟨b,Yr,rfl,sb,lb,pb⟩:=f2 e2;refine⟨a,b,vs,Yr,rfl,sa _ _ `S E2.sub,sb _ _ `S E2.sub,q _ H2 R2 E2 `E z λH' R' sR sH i=>⟨λy hy=>?_,λhi=>?_⟩⟩
 ·let hq:=sa _ _ sR sH;let YY:=sb _ _ sR sH;let⟨e1,e2⟩:=ni hy;let⟨v,hv,hr⟩:=pa _ _ e1;let⟨v',hv',YW⟩:=pb _ _ e2;refine⟨⟨vs,Yr,v,v',hq,YY,hv,hv'⟩,λv2 H3 hyl=>?_⟩;let⟨p,x,x',hpn,rfl,rfl,hy,hy'⟩:=hyl;let t1:=hy _ hq;let t2:=hy' _ YY;rw[hv] at t1;rw[hv'] at t2;cases t1
  cases t2
  let s3:au R' (upd R' p (.tup [v,v'])):=au.fresh (sH.free hpn) _;exact⟨upd R' p (.tup [v,v']),Ext.fresh sH hpn _,p,_,_,rfl,aD,r.mono s3 (r.mono sR hr),r'.mono s3 (r'.mono sR YW)⟩
 ·refine⟨vs,Yr,sa _ _ sR sH,sb _ _ sR sH,?_⟩;rw[Ts] at hi;cbv
theorem BU {a b:Expr}{p:Pos}{k:Nat}{r:Rep α}{r':Rep β}{xs:`u}{ys:List β}(hm:X.mg "zip"=none)(ha:EV X a Z (ae r) xs Γ1)(hb:EV X b Γ1 (ae r') ys Γ2)(hs:xW X a b:=by rfl)(Ys:fW X b:=by rfl)(hg:Gl X "zip":=by rfl):
 IV X (.Tuple es k tp) (.Call (.Name "zip" p) [a,b] [] pos) Z (cQ r r') (xs.zip ys) Γ2:=tX (k1:=GQ) (k2:=GQ) hm ha hb AH AH (λ⟨_,_,_,_,_,z⟩ _=>.inl z) hs Ys hg
theorem EF {a b:Expr}{p:Pos}{k:Nat}{ys:`aQ}(hm:X.mg "zip"=none)(ha:EV X a Z av (.tup xs) Γ1)(hb:EV X b Γ1 av (.tup ys) Γ2)(hz:xs.length<=U9)(hs:xW X a b:=by rfl)(Ys:fW X b:=by rfl)(hg:Gl X "zip":=by rfl):
 IV X (.Tuple es k tp) (.Call (.Name "zip" p) [a,b] [] pos) Z (cQ av av) (xs.zip ys) Γ2:=tX (k1:=BF) (k2:=BF) hm ha hb Hi Hi (λ_ _=>.inl hz) hs Ys hg
theorem Jg {a b:Expr}{p:Pos}{k:Nat}{ys:Rx}{r:Rep α}{xs:`u}(hm:X.mg "zip"=none)(ha:EV X a Z xH ys Γ1)(hb:EV X b Γ1 (ae r) xs Γ2)(hs:xW X a b:=by rfl)(Ys:fW X b:=by rfl)(hg:Gl X "zip":=by rfl):
 IV X (.Tuple es k tp) (.Call (.Name "zip" p) [a,b] [] pos) Z (cQ aq r) (ys.zip xs) Γ2:=tX (k1:=BF) (k2:=GQ) hm ha hb Nd AH (λ_ ⟨_,_,_,_,_,z⟩=>.inr z) hs Ys hg
end
end Fc
namespace HT
open PySem PySem.Spec PyProof.Rows
section
variable {prog:Ve}{w:World}{A:Vg}{E:`s}{s:Va}
theorem qh {t sl:Addr}{items:Array Value}{vl vu:`aK}{lo hi:Option Int}{Q:`s}(ht:IsTup s.heap t items)(hs:s.heap.IsSliceOf sl vl vu .none)(pl:VU vl lo)(pu:VU vu hi)(hw:X7 items.size 0 lo=0/\X7 items.size items.size hi=items.size)(h:Q (.ref t) s):wpAny `t A (VO (.ref t) (.ref sl)) Q E s:=by
 let⟨os,hos,hcs,hds⟩:=id hs;let hTs:s.TypeIs (.ref sl) "slice":=⟨os,hos,hcs⟩;unfold VO
 try with_reducible refine Vq ?_
 first | refine Vb (Vd ?_) | skip
 refine Vb (wpAny_sequenceKey ht.typeIs `c ?_);refine Vb (Vs (name:=W8 "__getitem__") ht.typeIs U2
  (VF U2 ht.typeIs entry_tuple_getitem ?_ (args_tuple_getitem _ _)))
 show wpAny _ _ (Builtin.Tuple.tupleItemsOf (.ref t) >>=_) _ _ s;refine Vb (tupleItemsOf_ ht ?_);refine Vb (wpAny_typeOf hTs ?_);rw[XG `c];refine Vb (lB hs pl pu ?_);let hyes:`Q=true:=by
  rw[hw.1,hw.2];simp
 show wpAny _ _ (if(((X7 items.size 0 lo:Nat):Int)==0&&(1:Int)==1&&`aD==items.size)=true then _ else _) _ _ s;rw[XG hyes];refine Vb ?_;unfold Builtin.Tuple.tupleIsExact;refine Vb (wpAny_typeOf ht.typeIs (Vd ?_));rw[XG `c];exact Vb (VX (Vd ⟨_,rfl,Vd h⟩))
end
end HT
namespace Fc
open PySem PySem.Spec PySem.W PySem.Calls L2
open PyProof.Rows hiding St
variable {X:Cx}{Z Γ1 Γ2 Γ3:Ga}{α β γ δ:Type}{N:Ga->Prop}{T:RT}{pos p2:Pos}{xs:`aQ}{b:Expr}{x y:Str}{H:Hp}
section
variable {a:Expr}
def QL (K:Xh):V->Option Int->Option Int->Hp->VK->Prop:=λx lo hi H Q=>∃a xs,x= .ref a/\dY K H a xs/\
 (HT.X7 xs.length 0 lo=0/\HT.X7 xs.length xs.length hi=xs.length)/\Q x H
theorem K3:B3 X (QL X.K):=by
 intro XR s σ H x v vl vu lo hi sl Q I rx hs pl pu h;let⟨a,xs,rfl,hx,hw,q⟩:=h;cases rx
 let⟨XT,r,ht,hz⟩:=I.tuple hx;let hlen:XT.toArray.size=xs.length:=by rw[Ss];exact r.length.symm
 refine⟨"tuple",_,U2.lookup,ht.typeIs,?_⟩;exact HT.qh ht hs pl pu (by rw[hlen];exact hw) ⟨.ref a,H,I,rfl,q⟩
theorem Mv {lo hi:Option Expr}{l h:Option Int}(ha:EV X a Z av (.tup xs) Z)(hl:OV X lo Z l)(hh:OV X hi Z h)(hw:HT.X7 xs.length 0 l=0/\HT.X7 xs.length xs.length h=xs.length):EV X (.Subscript a (.Slice lo hi none p2) pos) Z av (.tup xs) Z:=by
 intro σ H0 R0 H R E Q q;let⟨tl,pl,kl⟩:=hl;let⟨th,ph,kh⟩:=hh;refine eS (lI K3 aN pl ph) `H;cases av.mono (K:=X.K) (s2.trans s3) e1 with
 | @tup a' Yr _ hp pp=>
   exact⟨_,_,rfl,dY.of (E3.sub _ _ hp),by rw[pp.pair.length];exact hw,q _ _ _ E3 (s1.trans (s2.trans s3)) (.tup hp pp)⟩
theorem JB {lo hi:Option Expr}{l h:Option Int}(ha:EV X a Z av (.tup xs) Z)(hl:OV X lo Z l)(hh:OV X hi Z h):EV X (.Subscript a (.Slice lo hi none p2) pos) Z av (.tup (cut xs l h)) Z:=by
 by_cases hw:HT.X7 xs.length 0 l=0/\HT.X7 xs.length xs.length h=xs.length
 ·let e:cut xs l h=xs:=by
   unfold cut;rw[hw.1,hw.2];simp
  rw[e];exact Mv ha hl hh hw
 ·exact K9 ha hl hh hw
theorem uo (ha:EV X a Z aq x Γ1)(hb:EV X b Γ1 aq y Γ2)(hz:x.length+y.length<=U9):EV X (.BinOp a .Add b pos) Z aq (x++y) Γ2:=kI A5 ha hb λR v u H Q e1 e2 q=>⟨x,y,e1,e2,hz,q _ rfl⟩
theorem Jl {p:Pos}(hm:X.mg "len"=none)(ha:EV X a Z aq x Γ1)(hz:x.length<=U9)(hs:fW X a:=by rfl)(hg:Gl X "len":=by rfl):EV X `aZ Z ag (x.length:Int) Γ1:=by
 intro σ H0 R0 H R E Q q;refine eS (eO xY hg hm Vy `bh `c `c hs) `A;cases e1
 exact⟨x,rfl,hz,q _ H1 R1 E1 s1 rfl⟩
theorem Jr {p:Addr}{a b:HO}:upd (upd H p a) p b=upd H p b:=by
 funext c;by_cases h:c=p
 ·subst h;rw[aD,aD]
 ·rw[aF h,aF h,aF h]
end
variable {st:Stmt}
def G5 (i j:Int):Prop:=0<j/\j<=1000000000000000000
theorem Em:fm X (VE .FloorDiv) (rI G5 λi j=>.int (i/j)):=zw λi j _ _ _ _ _ hc q=>by
 let h1:(0:Int)<j:=hc.1;let h2:j<=1000000000000000000:=hc.2;exact floordiv_int `a (by rw[Int.fdiv_eq_ediv_of_nonneg i `a];exact q) (.inl (PyProof.noPylong_of_log2 (UA ((Nat.log2_lt `a).mpr (show j.natAbs<2 ^ 60 by cbv)) `c)))
theorem bD {N1:Ga->Prop}{rest:List Stmt}(h1:W1 X st Z N1 T)(h2:∀Γ',N1 Γ'->WS X rest Γ' N T):WS X (st::rest) Z N T:=ai λσ H0 R0 H R E D dn dr=>h1 σ H0 R0 H R E D (λσ' H' R' Γ' E' s' n=>dn σ' H' R' Γ' E' s' (h2 Γ' n)) dr
theorem qP {a:Expr}{x y:Int}(ha:EV X a Z ag x Γ1)(hb:EV X b Γ1 ag y Γ2)(h:G5 x y):EV X (.BinOp a .FloorDiv b pos) Z ag (x/y) Γ2:=kI Em ha hb λR v u H Q e1 e2 q=>⟨x,y,e1,e2,h,q _ rfl⟩
theorem GU {x y:Int}(h0:0<=x)(h1:x<2 ^ 63):Wl x y:=.of_left (V3 `a `a)
def mE (x:Str)(i:Nat):Str:=⟨#[x.cps.getD i 0]⟩
theorem Dx {a:Expr}{i:Int}(ha:EV X a Z aq x Γ1)(hb:EV X b Γ1 ag i Γ2)(h0:0<=i)(h1:i<(x.length:Int))(hz:x.length<=U9)(hs:dP b:=by exact λ_ _=>rfl):EV X (.Subscript a b pos) Z aq (mE x i.toNat) Γ2:=by
 intro σ H0 R0 H R E Q q;refine eS (iy Mz aN aN hs) `l;cases e1
 cases e2
 refine⟨x,i,x.cps.getD i.toNat 0,rfl,rfl,hz,?_,q _ H2 R2 E2 `E rfl⟩;let hl:x.cps.toList.length=x.length:=by simp[Str.length]
 rw[gb h0 `a,R7 `a];have:i.toNat<x.cps.size:=by have:x.length=x.cps.size:=rfl;cbv
 simp[Array.getD,this]
variable {es:RE}{p1:Pos}{σ:St}{H0 R0 R:Hp}{r:Rep α}
theorem nv {K:Xh}{R:Hp}:∀{vs:`P}{xs:Rx},PySem.Paired (aq.R K R) vs xs->vs=xs.map V.str
 | _,_,.nil=>rfl
 | _,_,.cons h t=>by rw[SK,← nv t];exact congrArg (· ::_) h
theorem wx {xs:Rx}:iU X .In aq (ae aq) x xs (decide (x∈xs)):=⟨_,uQ,λR H v u Q s e1 e2 q=>by
 cases e1
 let⟨a,vs,rfl,hq,p,_⟩:=e2;let e:=nv p;subst e;exact⟨a,_,rfl,.inl (bw.of (s _ _ hq)),rfl,l9 xs,by rw[XF RH,nT];exact q⟩⟩
theorem A4 {S:mf α}{k:Nat}{p:Pos}{ps:List Pk}{xs:`u}{TM:List α->RT}{Q:VK}(i:Nat)(C:`aJ)(hr:bG k X.A)(ha:HA X es Z ps Γ1)(hΓ:`aB)(hΓ1:Γ1[i]?∣.mu r xs)(hS:S X.K xs ps TM)(E:`aU)(q:∀a H1 R1 v H' R' xs',(σ[i]?).join∣.ref a->ar X.K σ H0 R0 H1 R1 Γ1->ar X.K σ H0 R0 H' R' (Γ1.set i (.mu r xs'))->au R R'->TM xs' (del H1 a) v H' R'->Q v H')(hg:Gl X x)(Yo:(x==("__debug__":Str))=false)(he:Vf (.Name y p1::es) X.env=(false,eval (.Name y p1) X.env)::Vf es X.env)(Yb:fc X pos es)(hN:At X i y):fU X (.Call `aq (.Name y p1::es) [] pos) σ H Q:=by
 let⟨f,fd,pn,F,hm,hk,hb⟩:=C.ex;let⟨a,vs,ea,_,_,_⟩:=E.ent i _ hΓ;refine eS (iZ F hr hg hm hk hb .nil kx (aI (aV hN) lU he) Yo he Yb) ⟨.ref a,at_of ea,ha σ H0 R0 H R E _ λus H1 R1 E1 s1 p1=>?_⟩;let⟨a',ws,Yq,hp,hR,pp⟩:=E1.ent i _ hΓ1;rw[ea] at Yq;cases Yq
 let h0:H0 a=none:=E1.new i _ a hΓ1 rfl ea;refine⟨R1,a,ws,xs,us,ps,TM,by rw[Sw],E1.sub,hR,hp,pp,p1,hS,λv H' R' YT xs' xx h1 h2 pq t=>q a H1 R1 v H' R' xs' ea E1 ?_ (s1.trans xx.r) t⟩;let apart:∀(j:Nat)(e:Ent),j≠i->Γ1[j]?∣e->a∉e.fp (σ[j]?).join:=λj e hj qj w=>hj (E1.ds j i e _ a qj hΓ1 w (cq.mpr ea));let E2:ar X.K σ H0 R0 H1 R1 (Γ1.set i .no):=E1.tell hΓ1 trivial λb w=>by cases w
 let E3:=E2.GZ (a:=a) (λj e qj w=>by
  obtain⟨rfl,rfl,_⟩ | ⟨hj,q1⟩:=set_at qj
  ·cases w
  ·exact apart j e hj q1 w) h0 xx
 let hl:i<Γ1.length:=(R6.mp hΓ1).1;let E4:=E3.ma (i:=i) (e0:=.no) (en:=.mu r xs') (Sh hl) (by rw[ea];exact⟨a,YT,rfl,h1,h2,pq⟩) λb w=>by
  let eb:b=a:=by rw[cq.mp w] at ea;cases ea;rfl
  subst eb;exact⟨h0,λj e hj qj=>apart j e hj (by rwa [SF (UT hj)] at qj)⟩
 rw[Ti] at E4;exact E4
variable {a:Addr}{as:Rz}{xss:List (List α)}{K:Xh}{j:Nat}{H':Hp}{ws:`P}{e:Expr}{ap cp:Pos}
section
variable {b:Addr}{xs:`u}
def gJ (K:Xh)(r:Rep α)(H R:Hp)(as:Rz)(xss:List (List α)):Prop:=as.length=xss.length/\∀(i:Nat)(b:Addr)(xs:`u),as[i]?∣b->xss[i]?∣xs->∃ws,H b∣.lst ws/\PySem.Paired (r.R K R) ws xs
theorem gJ.one (h:gJ K r H R as xss)(hb:b∈as):∃ws,H b∣.lst ws:=by
 let⟨i,hi,rfl⟩:=T6.mp hb;let⟨ws,h1,_⟩:=h.2 i _ _ (R7 hi) (R7 (by rw[← h.1];exact hi));exact⟨ws,h1⟩
theorem gJ.loc {R':Hp}(h:gJ K r H R as xss)(e:∀a∈as,H' a=H a)(s:au R R'):gJ K r H' R' as xss:=
 ⟨h.1,λi b xs h1 h2=>by
   let⟨ws,q1,q2⟩:=h.2 i b xs h1 h2;exact⟨ws,(e b (Sg h1)).trans q1,Paired.map (λ_ _=>r.mono s) q2⟩⟩
theorem gJ.put (h:gJ K r H R as xss)(nd:as.Nodup)(hb:as[j]?∣b)(hp:PySem.Paired (r.R K R) ws xs):gJ K r (upd H b (.lst ws)) R as (xss.set j xs):=by
 refine⟨by rw[SR];exact h.1,λi c q h1 h2=>?_⟩;by_cases hij:i=j
 ·subst hij;rw[hb] at h1;cases h1
  let hl:i<xss.length:=by rw[← h.1];exact(R6.mp hb).1
  rw[Sh hl] at h2;cases h2
  exact⟨ws,aD,hp⟩
 ·rw[SF (UT hij)] at h2;have:c≠b:=λz=>by
   subst z;let l1:=(R6.mp h1);let l2:=(R6.mp hb);exact hij ((Ua (h₀:=l1.1) (h₁:=l2.1) nd).mp (l1.2.trans l2.2.symm))
  rw[aF this];exact h.2 i c q h1 h2
theorem gJ.snoc (h:gJ K r H R as xss)(hb:H b∣.lst ws)(hp:PySem.Paired (r.R K R) ws xs):gJ K r H R (as++[b]) (xss++[xs]):=by
 refine⟨by rw[Sd,Sd,h.1];rfl,λi c q h1 h2=>?_⟩;obtain hl | hl:=UD i as.length
 ·rw[SD hl] at h1;rw[SD (by rw[← h.1];exact hl)] at h2;exact h.2 i c q h1 h2
 ·rw[SG hl] at h1;rw[SG (by rw[← h.1];exact hl)] at h2;let e:i-as.length=0:=by
   have:=(R6.mp h1).1;simp at this;cbv
  rw[e] at h1;rw[← h.1,e] at h2;simp at h1 h2;rw[← h1,← h2];exact⟨ws,hb,hp⟩
noncomputable def fN (r:Rep α)(a:Addr)(as:Rz)(xss:List (List α)):oK where
 fp:=a::as
 R:=λK H R v=>v= .ref a/\H a∣(.lst (as.map .ref))/\gJ K r H R as xss/\(a::as).Nodup
 loc:=λhH hR ⟨e,h1,h2,h3⟩=>⟨e,(hH a Se).trans h1,h2.loc (λb hb=>hH b (Sb _ hb)) hR,h3⟩
 has:=λ⟨e,h1,h2,h3⟩ b hb=>by
  obtain rfl | hb:=Sj.mp hb
  ·rw[h1];exact UW _
  ·let⟨r,hr⟩:=h2.one hb;rw[hr];exact UW _
theorem D3 {k:Int}(hk:fL as.length k∣j)(hb:as[j]?∣b):bX (as.map V.ref) k∣.ref b:=by
 unfold bX;rw[R9,hk];show(as.map V.ref)[j]?=_;rw[Sf,hb];rfl
theorem DS (i:Nat){b:Expr}{k:Int}{Q:VK}(hb:EV X b Z ag k Z)(hΓ:`aC)(hk:fL xss.length k∣j)(E:`aU)(q:∀c H' R',ar X.K σ H0 R0 H' R' Z->au R R'->as[j]?∣c->Q (.ref c) H')(hN:At X i x)(hsx:dP b):fU X `ag σ H Q:=by
 let⟨⟨v,ea,rfl,ha,hr,_⟩,hR⟩:=E.ent i _ hΓ;refine eS (iy gT (aV hN) aN hsx) ⟨.ref a,at_of ea,hb σ H0 R0 H R E _ λu H2 R2 E2 s2 e2=>?_⟩;let⟨⟨v,ea2,e3,ha2,hr2,nd⟩,ZI⟩:=E2.ent i _ hΓ;let hl:j<as.length:=by rw[hr2.1];exact(uD hk).2.1
 exact⟨a,_,k,.ref as[j],rfl,e2,bw.of ha2,D3 (by rw[hr2.1];exact hk) (R7 hl),q _ H2 R2 E2 s2 (R7 hl)⟩
theorem AI (i:Nat){b:Expr}{k:Int}{y:α}(hb:EV X b Z ag k Z)(he:EV X e Z r y Z)(hΓ:`aC)(hk:fL xss.length k∣j)(hx:xss[j]?∣xs)(hz:xs.length<U9)(h:N (Z.set i (.ob (fN r a as (xss.set j (xs++[y]))))))(hN:`o)(hsx:dP b:=by exact λ_ _=>rfl)(Yn:Vh (.Call (.Attribute `ag "append" ap) [e] [] cp) none pos.line X.env=pure false:=by rfl)(X0:fh X `ag "append":=by rfl)(Yf:l7 X cp [e]:=by rfl)(XZ:`Z=true:=by rfl)(hs:dq X e []:=by rfl):W1 X (.Expr (.Call (.Attribute `ag "append" ap) [e] [] cp) pos) Z N T:=λσ H0 R0 H R E D dn dr=>by
 refine sS (dQ (gR WG WH WI gL aN `bh X0 Yf XZ hs rfl) Yn) ?_;refine DS i hb hΓ hk E (λc H1 R1 E1 s1 hc=>?_) hN hsx;let⟨⟨v,ea1,rfl,ha1,hr1,nd1⟩,hR1⟩:=E1.ent i _ hΓ;let⟨ws1,q1,q2⟩:=hr1.2 j c xs hc hx;refine⟨.inl ⟨rfl,_,bw.of q1⟩,he σ H0 R0 H1 R1 E1 _ λu H2 R2 E2 s2 e2=>?_⟩;let⟨⟨v,ea2,rfl,ha2,hr2,nd2⟩,ZI⟩:=E2.ent i _ hΓ;let⟨ws2,q1,q2⟩:=hr2.2 j c xs hc hx;let⟨n1,n2⟩:=Sz.mp nd2;let cm:c∈as:=Sg hc;refine⟨c,ws2,u,rfl,rfl,q1,by rw[q2.length];exact hz,?_⟩;refine dn σ _ R2 _ (E2.lu (en:=.ob (fN r a as (xss.set j (xs++[y])))) hΓ (Sb _ cm) ⟨⟨.ref a,ea2,rfl,?_,hr2.put n2 hc (dS q2 (.cons e2 .nil)),nd2⟩,ZI⟩ λc w=>.inl w) `E h;rw[aF (show a≠c from λz=>n1 (z▸cm))];exact ha2
theorem Bj (i:Nat){ys:`u}(he:ba X e Z r ys Γ1)(hΓ:`aC)(hΓ1:Γ1[i]?∣(.ob (fN r a as xss)))(hz:xss.length<U9)(h:∀b,N (Γ1.set i (.ob (fN r a (as++[b]) (xss++[ys])))))(hN:`o)(Yn:Vh `y none pos.line X.env=pure false:=by rfl)(X0:fh X `h "append":=by rfl)(Yf:l7 X cp [e]:=by rfl)(XZ:`Z=true:=by rfl)(hs:dq X e []:=by rfl):W1 X (.Expr `y pos) Z N T:=λσ H0 R0 H R E D dn dr=>by
 let⟨⟨v,ea,rfl,ha,hr,_⟩,hR⟩:=E.ent i _ hΓ;refine sS (dQ `ac Yn) ?_;refine⟨.ref a,at_of ea,.inl ⟨rfl,_,bw.of ha⟩,he σ H0 R0 H R E _ λb vs H2 R2 E2 s2 hb hRb h0b offb pp _=>?_⟩;let⟨⟨v,ea2,rfl,ha2,hr2,nd2⟩,ZI⟩:=E2.ent i _ hΓ1;let⟨n1,n2⟩:=Sz.mp nd2;let hl:as.length=xss.length:=hr2.1;let bne:b∉a::as:=λz=>offb i _ hΓ1 z;let bna:b≠a:=λz=>bne (z▸Se);refine⟨a,_,.ref b,rfl,rfl,ha2,by rw[R9,hl];exact hz,?_⟩;refine dn σ _ R2 _ (E2.lu (en:=.ob (fN r a (as++[b]) (xss++[ys]))) hΓ1 Se ⟨⟨.ref a,ea2,rfl,?_,?_,?_⟩,λc hc=>?_⟩ λc w=>?_) s2 (h b)
 ·rw[aD,So];rfl
 ·refine(hr2.snoc hb pp).loc (λc hc=>aF λz=>?_) `S;rw[z] at hc;obtain q | q:=Sl.mp hc
  ·exact n1 q
  ·exact bna (Sa.mp q).symm
 ·refine Sz.mpr ⟨λz=>?_,iW n2 λz=>bne (Sb _ z)⟩;obtain q | q:=Sl.mp z
  ·exact n1 q
  ·exact bna (Sa.mp q).symm
 ·obtain rfl | hc:=Sj.mp hc
  ·exact ZI _ Se
  ·obtain q | q:=Sl.mp hc
   ·exact ZI _ (Sb _ q)
   ·rw[Sa.mp q];exact hRb
 ·obtain rfl | w:=Sj.mp w
  ·exact .inl Se
  ·obtain q | q:=Sl.mp w
   ·exact .inl (Sb _ q)
   ·rw[Sa.mp q];exact .inr ⟨h0b,offb⟩
noncomputable def PZ (K:Xh)(r:Rep α)(P:List (List α)->Prop):RT:=λH0 v H' R'=>∃a as xss,v= .ref a/\(∀b∈a::as,H0 b=none/\R' b=none)/\H' a∣(.lst (as.map .ref))/\gJ K r H' R' as xss/\(a::as).Nodup/\P xss
theorem Ml (i:Nat){P:List (List α)->Prop}(hΓ:`aC)(h:P xss)(hN:`o):W1 X (.Return (some `h) pos) Z N (PZ X.K r P):=λσ H0 R0 H R E D dn dr=>by
 let⟨⟨v,ea,rfl,ha,hr,nd⟩,hR⟩:=E.ent i _ hΓ;exact sS (h9 (aV hN)) ⟨.ref a,at_of ea,dr _ H R E.ext ⟨a,as,xss,rfl,λb hb=>⟨E.nw i _ b hΓ hb,hR b hb⟩,ha,hr,nd,h⟩⟩
noncomputable def mr (R H:Hp)(l:Rz):Hp:=λb=>if b∈l then H b else R b
theorem HK (i:Nat){P:List (List α)->Prop}(hΓ:`aC)(hz:xss.length<=U9)(hzi:∀xs∈xss,xs.length<=U9)(h:P xss)(hN:`o):W1 X (.Return (some `h) pos) Z N (Dt X.K (ae r) P):=λσ H0 R0 H R E D dn dr=>by
 let⟨⟨v,ea,rfl,ha,hr,nd⟩,hR⟩:=E.ent i _ hΓ;let⟨n1,n2⟩:=Sz.mp nd;let sR:au R (mr R H as):=λb o q=>by
  unfold mr;split
  ·rename_i hb;rw[hR b (Sb _ hb)] at q;cases q
  ·exact q
 let sH:au (mr R H as) H:=λb o q=>by
  unfold mr at q;split at q
  ·exact q
  ·exact E.sub b o q
 let pr:PySem.Paired ((ae r).R X.K (mr R H as)) (as.map .ref) xss:=by
  let key:∀(bs:Rz)(Yv:List (List α)),(∀b∈bs,b∈as)->gJ X.K r H R bs Yv->(∀xs∈Yv,xs.length<=U9)->PySem.Paired ((ae r).R X.K (mr R H as)) (bs.map .ref) Yv:=by
   intro bs
   induction bs with
   | nil=>intro Yv _ h _;cases Yv with
     | nil=>exact .nil
     | cons _ _=>exact XE h.1 `d
   | cons b bs ih=>intro Yv hm h hz;cases Yv with
     | nil=>exact XE h.1 `d
     | cons ys Yv=>
       let⟨ws,q1,q2⟩:=h.2 0 b ys rfl rfl;refine .cons ⟨b,ws,rfl,?_,Paired.map (λ_ _=>r.mono sR) q2,hz ys Se⟩ (ih Yv (λc hc=>hm c (Sb _ hc)) ⟨by simpa using h.1,λi c xs h1 h2=>h.2 (i+1) c xs (~~~h1) (~~~h2)⟩ λxs hx=>hz xs (Sb _ hx));unfold mr;rw[XG (hm b Se)];exact q1
  exact key as xss (λ_ h=>h) hr hzi
 refine sS (h9 (aV hN)) ⟨.ref a,at_of ea,dr _ H (mr R H as) ⟨E.ext.h,E.ext.r.trans sR,sH,λb hb=>?_⟩ ⟨a,_,xss,rfl,E.nw i _ a hΓ Se,ha,?_,pr,hz,h⟩⟩
 ·unfold mr;rw[XF λz=>hb (E.nw i _ b hΓ (Sb _ z))];exact E.ext.old b hb
 ·unfold mr;rw[XF n1];exact hR a Se
end
variable {i:Nat}{YG:List Stmt}
theorem tR {a:Expr}{Zg:Pos}{m n:Int}(hml:X.mg "list"=none)(hmr:X.mg "range"=none)(ha:HA X [a,b] Z [⟨ag,m⟩,⟨ag,n⟩] Γ1)(hm: -1000000<=m/\m<=1000000)(hn: -1000000<=n/\n<=1000000)(hs:Vf [a,b] X.env=(false,eval a X.env)::Vf [b] X.env:=by rfl)(Yb:fc X Zg [b]:=by rfl)(Ys:Vf [.Call (.Name "range" p2) [a,b] [] Zg] X.env=[(false,eval (.Call (.Name "range" p2) [a,b] [] Zg) X.env)]:=by rfl)(hc:X.calm=true:=by rfl)(hg:Gl X "list":=by rfl)(hgr:Gl X "range":=by rfl):ba X (.Call (.Name "list" p1) [.Call (.Name "range" p2) [a,b] [] Zg] [] pos) Z ag (ups m (n-m).toNat) Γ1:=by
 intro σ H0 R0 H R E Q q;refine eS (iT (oJ hc) hg hml U0 (aI (iT uk hgr hmr U7 lU `c `c hs Yb) br Ys) `c `c Ys) (ha σ H0 R0 H R E _ λvs H1 R1 E1 s1 e1=>?_);let e:vs=[.int m,.int n]:=by
  cases e1 with
  | cons a1 t=>cases t with
    | cons a2 t=>cases t;cases a1;cases a2;rfl
 subst e;refine⟨m,n,rfl,λp hp=>⟨p,m,n,rfl,aD,hm.1,hm.2,hn.1,hn.2,λd hd=>?_⟩⟩;let E2:=E1.grow (Ext.d8 E1.sub hp (.Z8 m n));exact q d _ _ R1 (E2.grow (Ext.d8 E2.sub hd _)) s1 aD (E2.sub.free hd) (E2.ext.h.free hd) (E2.off hd) (paired_ints _) (by rw[bp];exact Ux (show(n-m).toNat<=2000000 by cbv) `c)
theorem ar.Km {B:oK}(E:`C)(hΓ:Z[i]?∣.ob B):ar K σ H0 R0 H (λb=>if b∈B.fp then H b else R b) (Z.set i .no)/\au R (λb=>if b∈B.fp then H b else R b):=by
 let h0:∀b∈B.fp,H0 b=none:=λb hb=>E.nw i _ b hΓ hb;let hR:∀b∈B.fp,R b=none:=(E.ent i _ hΓ).2;let sR:au R (λb=>if b∈B.fp then H b else R b):=λb o q=>by
  show(if b∈B.fp then H b else R b)∣o;rw[XF λw=>by rw[hR b w] at q;cases q];exact q
 refine⟨⟨⟨E.ext.h,E.ext.r.trans sR,λb o q=>?_,λb hb=>?_⟩,λj e q=>?_,λj e b q w=>?_,λj k e e' b q q' w w'=>?_,by rw[SR];exact E.len⟩,sR⟩
 ·let q:(if b∈B.fp then H b else R b)∣o:=q;by_cases hb:b∈B.fp
  ·rw[XG hb] at q;exact q
  ·rw[XF hb] at q;exact E.sub b o q
 ·show(if b∈B.fp then H b else R b)=_;rw[XF λw=>hb (h0 b w)];exact E.ext.old b hb
 ·obtain⟨rfl,rfl,_⟩ | ⟨hj,q1⟩:=set_at q
  ·trivial
  ·let h1:=E.ent j e q1;refine h1.loc (λb hb=>rfl) sR λb hb=>?_;show(if b∈B.fp then H b else R b)=none;rw[XF (show¬b∈B.fp from λw=>hj (E.ds j i e _ b q1 hΓ hb w))];exact(Ent.fE h1 hb).2
 ·obtain⟨rfl,rfl,_⟩ | ⟨hj,q1⟩:=set_at q
  ·cases w
  ·exact E.nw j e b q1 w
 ·obtain⟨rfl,rfl,_⟩ | ⟨hj,q1⟩:=set_at q
  ·cases w
  ·obtain⟨rfl,rfl,_⟩ | ⟨hk,Y2⟩:=set_at q'
   ·cases w'
   ·exact E.ds _ _ _ _ b q1 Y2 w w'
theorem gJ.pair {K:Xh}{r:Rep α}{H R R':Hp}(sR:au R R'):∀{bs:Rz}{Yv:List (List α)},(∀b∈bs,R' b=H b)->gJ K r H R bs Yv->(∀xs∈Yv,xs.length<=U9)->PySem.Paired ((ae r).R K R') (bs.map .ref) Yv
 | [],[],_,_,_=>.nil
 | [],_::_,_,h,_=>XE h.1 `d
 | _::_,[],_,h,_=>XE h.1 `d
 | b::bs,ys::Yv,hm,h,hz=>by
   let⟨ws,q1,q2⟩:=h.2 0 b ys rfl rfl;exact .cons ⟨b,ws,rfl,(hm b Se).trans q1,Paired.map (λ_ _=>r.mono sR) q2,hz ys Se⟩ (gJ.pair sR (λc hc=>hm c (Sb _ hc)) ⟨by simpa using h.1,λi c xs h1 h2=>h.2 (i+1) c xs (~~~h1) (~~~h2)⟩ λxs hx=>hz xs (Sb _ hx))
theorem WS.nK (i:Nat)(hΓ:`aC)(hz:xss.length<=U9)(hzi:∀xs∈xss,xs.length<=U9)(h:WS X YG (Z.set i (.im (ae (ae r)) xss)) N T):WS X YG Z N T:=λσ H0 R0 H R E D dn dr=>by
 let⟨⟨v,ea,rfl,ha,hr,nd⟩,hR⟩:=E.ent i _ hΓ;let⟨E1,sR⟩:=E.Km hΓ;let hl:i<Z.length:=(R6.mp hΓ).1;let E2:=E1.tell (i:=i) (e0:=.no) (en:=.im (ae (ae r)) xss) (Sh hl) ⟨.ref a,ea,a,_,rfl,(XG Se).trans ha,gJ.pair sR (λb hb=>XG (Sb _ hb)) hr hzi,hz⟩ λb w=>by cases w
 rw[Ti] at E2;exact h σ H0 R0 H _ E2 D (λσ2 H2 R2 Γ2 E3 s2=>dn σ2 H2 R2 Γ2 E3 (sR.trans s2)) dr
mutual
inductive c7 (H:Hp):V->PV->Rz->Prop
 | str (x:Str):c7 H (.str x) (.str x) []
 | int (n:Int):c7 H (.int n) (.int n) []
 | lst {a:Addr} {vs:`P} {xs:`aQ} {fp:Rz}:H a∣.lst vs->bB H vs xs fp->xs.length<=U9->c7 H (.ref a) (.lst xs) (a::fp)
inductive bB (H:Hp):List V->List PV->Rz->Prop
 | nil:bB H [] [] []
 | cons {v:V} {x:PV} {f:Rz} {vs:`P} {xs:`aQ} {g:Rz}:c7 H v x f->bB H vs xs g->bB H (v::vs) (x::xs) (f++g)
end
mutual
theorem c7.rZ {H:Hp}:∀{v:V}{x:PV}{fp:Rz},c7 H v x fp->iR H v x
 | _,_,_,.str x=>.str x
 | _,_,_,.int n=>.int n
 | _,_,_,.lst h t z=>.lst h t.rZ z
theorem bB.rZ {H:Hp}:∀{vs:`P}{xs:`aQ}{fp:Rz},bB H vs xs fp->eV H vs xs
 | _,_,_,.nil=>.nil
 | _,_,_,.cons h t=>.cons h.rZ t.rZ
end
mutual
theorem c7.loc {H H':Hp}:∀{v:V}{x:PV}{fp:Rz},c7 H v x fp->(∀a∈fp,H' a=H a)->c7 H' v x fp
 | _,_,_,.str x,_=>.str x
 | _,_,_,.int n,_=>.int n
 | _,_,_,.lst h t z,k=>.lst ((k _ Se).trans h) (t.loc λa ha=>k a (Sb _ ha)) z
theorem bB.loc {H H':Hp}:∀{vs:`P}{xs:`aQ}{fp:Rz},bB H vs xs fp->(∀a∈fp,H' a=H a)->bB H' vs xs fp
 | _,_,_,.nil,_=>.nil
 | _,_,_,.cons h t,k=>.cons (h.loc λa ha=>k a (Sn _ ha)) (t.loc λa ha=>k a (Sk _ ha))
end
mutual
theorem c7.has {H:Hp}:∀{v:V}{x:PV}{fp:Rz},c7 H v x fp->∀a∈fp,H a≠none
 | _,_,_,.str x,_,h=>by cases h
 | _,_,_,.int n,_,h=>by cases h
 | _,_,_,.lst q t z,a,h=>by
   obtain rfl | h:=Sj.mp h
   ·rw[q];simp
   ·exact t.has a h
theorem bB.has {H:Hp}:∀{vs:`P}{xs:`aQ}{fp:Rz},bB H vs xs fp->∀a∈fp,H a≠none
 | _,_,_,.nil,_,h=>by cases h
 | _,_,_,.cons q t,a,h=>(Sl.mp h).elim (q.has a) (t.has a)
end
noncomputable def FN:List PV->Bool
 | .lst _:: .int _::_=>true
 | _=>false
mutual
noncomputable def noMix:PV->Bool
 | .lst xs=> !FN xs&&hU xs
 | _=>true
noncomputable def hU:List PV->Bool
 | []=>true
 | x::xs=>noMix x&&hU xs
end
theorem C6 (h:noMix (.lst xs)=true):(∀a k r,xs≠ .lst a:: .int k::r)/\hU xs=true:=by
 rw[noMix,RJ] at h;refine⟨λa k r e=>?_,h.2⟩;subst e;exact XE h.1 (by simp[FN])
mutual
theorem c7.node {H:Hp}{a s:Addr}{k:Int}{rest:`P}(ha:H a∣(.lst (.ref s:: .int k::rest))):∀{v:V}{x:PV}{fp:Rz},c7 H v x fp->noMix x=true->a∉fp
 | _,_,_,.str x,_=>`d
 | _,_,_,.int n,_=>`d
 | _,_,_,.lst q t z,hx=>by
   let⟨h1,h2⟩:=C6 hx;intro h;obtain rfl | h:=Sj.mp h
   ·rw[ha] at q;cases q
    cases t with
    | cons p1 t=>cases t with
      | cons p2 t=>
        cases p1
        cases p2
        exact h1 _ _ _ rfl
   ·exact bB.node ha t h2 h
theorem bB.node {H:Hp}{a s:Addr}{k:Int}{rest:`P}(ha:H a∣(.lst (.ref s:: .int k::rest))):∀{vs:`P}{xs:`aQ}{fp:Rz},bB H vs xs fp->hU xs=true->a∉fp
 | _,_,_,.nil,_=>`d
 | _,_,_,.cons q t,hx=>by
   rw[hU,RJ] at hx;intro h;obtain h | h:=Sl.mp h
   ·exact c7.node ha q hx.1 h
   ·exact bB.node ha t hx.2 h
end
variable {vs:`P}{v:V}
theorem bB.len {fp:Rz}(h:bB H vs xs fp):vs.length=xs.length:=h.rZ.pair.length
theorem bB.app:∀{vs us:`P}{xs ys:`aQ}{f g:Rz},bB H vs xs f->bB H us ys g->bB H (vs++us) (xs++ys) (f++g)
 | _,_,_,_,_,_,.nil,t=>t
 | _,_,_,_,_,_,.cons h t,t'=>by
   rw[Tq,Tq,Su];exact .cons h (t.app t')
noncomputable def kA:PV->Bool
 | .str _=>true
 | .int _=>true
 | _=>false
theorem mQ {x:PV}(h:iR H v x)(hl:kA x=true):c7 H' v x []:=by
 cases h with
 | str x=>exact .str x
 | int n=>exact .int n
 | _=>cases hl
theorem zM {H H':Hp}:∀{vs:`P}{xs:`aQ},eV H vs xs->xs.all kA=true->bB H' vs xs []
 | _,_,.nil,_=>.nil
 | _,_,.cons h t,hl=>by
   rw[all_cons,RJ] at hl;exact .cons (f:=[]) (g:=[]) (mQ h hl.1) (zM t hl.2)
def iq (x:PV)(fp:Rz):oK where
 fp:=fp
 R:=λ_ H _ v=>c7 H v x fp/\fp.Nodup
 loc:=λh _ ⟨t,n⟩=>⟨t.loc h,n⟩
 has:=λ⟨t,_⟩=>t.has
def A1 (P:PV->Prop):RT:=λH0 v H' R'=>∃x fp,c7 H' v x fp/\fp.Nodup/\(∀a∈fp,H0 a=none/\R' a=none)/\P x
section
variable {x:PV}{y:PV}{z:PV}
def jZ (X:Cx)(e:Expr)(Z:Ga)(x:PV)(Γ':Ga):Prop:=
 ∀(σ:St)(H0 R0 H R:Hp),ar X.K σ H0 R0 H R Z->∀Q:VK,(∀v fp H' R',ar X.K σ H0 R0 H' R' Γ'->au R R'->c7 H' v x fp->fp.Nodup->(∀a∈fp,R' a=none/\H0 a=none/\Off a σ Γ')->Q v H')->fU X e σ H Q
theorem jZ.cast (h:jZ X e Z x Γ1)(e1:x=y):jZ X e Z y Γ1:=e1▸h
theorem ba.yq (h:ba X e Z av xs Γ1)(hl:xs.all kA=true):jZ X e Z (.lst xs) Γ1:=λσ H0 R0 H R E Q q=>
 h σ H0 R0 H R E Q λa vs H' R' E' s' ha hR h0 off p z=>q _ [a] H' R' E' s' (.lst ha (zM (.of p) hl) z) (Sz.mpr ⟨`d,TR⟩) λb hb=>by rw[Sa.mp hb];exact⟨hR,h0,off⟩
theorem su (i:Nat){x:Str}(he:jZ X e Z y Γ1)(h:∀fp,N (Γ1.set i (.ob (iq y fp))))(hN:X.N.Nodup:=by first | assumption | decide)(hi:X.N[i]?∣x:=by rfl)(hx:`aj)(hs:Vh e (some `h) pos.line X.env=pure false:=by rfl)(hf:autoParam (fM X x) YU):W1 X (.Assign [.Name x p1] e pos) Z N T:=λσ H0 R0 H R E D dn dr=>
 sS (jV hN hi hx aN hs hf) (he σ H0 R0 H R E _ λv fp H1 R1 E1 s1 t nd k=>dn _ H1 R1 _ (E1.setG (en:=.ob (iq y fp)) i ⟨⟨v,rfl,t,nd⟩,λa ha=>(k a ha).1⟩ (λa ha=>(k a ha).2.1) λa ha j e _ q w=>(k a ha).2.2 j e q w) s1 (h fp))
theorem jh (i:Nat){S:mf α}{x y:Str}{k:Nat}{p:Pos}{ps:List Pk}{xs st:`u}(C:`aJ)(hr:bG k X.A)(ha:HA X es (Z.set i (.mu r xs)) ps (Z.set i (.mu r xs)))(hΓ:Z[i]?∣(.ob (aO a r xs)))(hS:S X.K xs ps (λxs'=>A1 λw=>xs'=st/\w=z))(hfr:∀(R:Hp)(ws:`P),PySem.Paired (r.R X.K R) ws st->∃s k rest,ws= .ref s:: .int k::rest)(hmx:noMix z=true)(hg:Gl X x:=by rfl)(Yo:YJ x:=by decide)(he:Vf (.Name y p1::es) X.env=(false,eval (.Name y p1) X.env)::Vf es X.env:=by rfl)(Yb:fc X pos es:=by rfl)(hN:autoParam (At X i y) cb):
 jZ X (.Call `aq (.Name y p1::es) [] pos) Z z (Z.set i (.ob (aO a r st))):=λσ H0 R0 H R E Q q=>by
 let⟨ea,⟨vs,hva,pp⟩,hR⟩:=dk (E.ent i _ hΓ);let hl:i<Z.length:=(R6.mp hΓ).1;let E':ar X.K σ H0 R0 H R (Z.set i (.mu r xs)):=E.tell hΓ (by rw[ea];exact⟨a,vs,rfl,hva,hR,pp⟩) λb w=>by
  rw[ea] at w;exact w
 refine A4 i C hr ha (Sh hl) (Sh hl) hS E' (λa' H1 R1 v H' R' xs' Yq E1 E2 s' t=>?_) hg Yo he Yb hN;rw[ea] at Yq;cases Yq
 let⟨w,fp,t1,nd,k,rfl,rfl⟩:=t;rw[Ti] at E2;let⟨a2,ws,ea2,hp2,ZI,pp2⟩:=E2.ent i _ (Sh hl);rw[ea] at ea2;cases ea2
 let E3:ar X.K σ H0 R0 H' R' (Z.set i (.ob (aO a r xs'))):=by
  have:=E2.tell (i:=i) (en:=.ob (aO a r xs')) (Sh hl) (by rw[ea];exact⟨⟨_,rfl,rfl,ws,hp2,pp2⟩,λb hb=>by rw[Sa.mp hb];exact ZI⟩) (λb w=>by rw[ea];exact w);rwa [Ti] at this
 let ZK:∀b∈fp,b≠a:=λb hb e=>by
  subst e;let⟨s,k,rest,e1⟩:=hfr R' ws pp2;rw[e1] at hp2;exact c7.node hp2 t1 hmx hb
 refine q v fp H' R' E3 s' t1 nd λb hb=>?_;let hb1:H1 b=none:=by
  have:=(k b hb).1;unfold del at this;rwa [XF (ZK b hb)] at this
 refine⟨(k b hb).2,E1.ext.h.free hb1,λj e qj w=>?_⟩;obtain⟨rfl,rfl,_⟩ | ⟨hj,q1⟩:=set_at qj
 ·exact ZK b hb (Sa.mp w)
 ·exact E1.off hb1 j e (by rw[SF (UT hj)];exact q1) w
theorem ar.Av {fp:Rz}(E:`C)(hj:Z[j]?∣(.ob (iq x fp))):(∃v,(σ[j]?).join∣v/\c7 H v x fp)/\fp.Nodup/\ar K σ H0 R0 H R (Z.set j .no)/\∀a∈fp,R a=none/\H0 a=none/\Off a σ (Z.set j .no):=by
 let⟨⟨v,ev,t,nd⟩,hR⟩:=E.ent j _ hj;refine⟨⟨v,ev,t⟩,nd,E.tell (en:=.no) hj trivial (λb w=>by cases w),λa ha=>⟨hR a ha,E.nw j _ a hj ha,λk e q w=>?_⟩⟩;obtain⟨rfl,rfl,_⟩ | ⟨hk,q1⟩:=set_at q
 ·cases w
 ·exact hk (E.ds k j e _ a q1 hj w ha)
theorem zu (j:Nat){y:Str}{fp:Rz}(hΓ:Z[j]?∣(.ob (iq x fp)))(hN:autoParam (At X j y) cb):jZ X (.Name y pos) Z x (Z.set j .no):=λσ H0 R0 H R E Q q=>by
 let⟨⟨v,ev,t⟩,nd,E1,k⟩:=E.Av hΓ;exact eS (aV hN) ⟨v,at_of ev,q v fp H R E1 `S t nd k⟩
theorem c7.fresh {fp:Rz}{p:Addr}{o:HO}(h:c7 H v x fp)(hp:H p=none):c7 (upd H p o) v x fp/\p∉fp:=by
 let hn:p∉fp:=λw=>h.has p w hp;exact⟨h.loc λa ha=>aF λe=>hn (e▸ha),hn⟩
theorem Lv {a t:Expr}(ha:EV X a Z av x Γ1)(hb:EV X b Γ1 av y Γ2)(ht:jZ X t Γ2 z Γ3)(hx:kA x=true)(hy:kA y=true)(h1:Vf [a,b,t] X.env=(false,eval a X.env)::Vf [b,t] X.env:=by rfl)(h2:Vf [b,t] X.env=(false,eval b X.env)::Vf [t] X.env:=by rfl)(h3:dq X t []:=by rfl):jZ X (.List [a,b,t] pos) Z (.lst [x,y,z]) Γ3:=λσ H0 R0 H R E Q q=>by
 refine eS (sE (aI aN (aI aN (aI aN br h3) h2) h1)) (ha σ H0 R0 H R E _ λv1 H1 R1 E1 s1 e1=>hb σ H0 R0 H1 R1 E1 _ λv2 H2 R2 E2 s2 e2=>ht σ H0 R0 H2 R2 E2 _ λv3 fp H3 R3 E3 s3 t3 nd k=>⟨by show 3<=U9;decide,λp hp=>?_⟩);let⟨t4,hn⟩:=t3.fresh (o:=.lst [v1,v2,v3]) hp;refine q (.ref p) (p::fp) _ R3 (E3.grow (Ext.d8 E3.sub hp _)) (s1.trans (s2.trans s3)) ?_ (Sz.mpr ⟨hn,nd⟩) λc hc=>?_
 ·have:=bB.cons (mQ (H':=upd H3 p (.lst [v1,v2,v3])) e1 hx) (bB.cons (mQ (H':=upd H3 p (.lst [v1,v2,v3])) e2 hy) (bB.cons t4 .nil));rw[Sw,S8,S8] at this;exact .lst aD this (by show 3<=U9;decide)
 ·obtain rfl | hc:=Sj.mp hc
  ·exact⟨E3.sub.free hp,E3.ext.h.free hp,E3.off hp⟩
  ·exact k c hc
theorem J9 (j:Nat){a t:Expr}{n:Str}{u:PV}{f0:Rz}(ha:EV X a Z av x Γ1)(hb:EV X b Γ1 av y Γ2)(ht:jZ X t Γ2 z Γ3)(hj:Γ2[j]?∣(.ob (iq u f0)))(hj3:Γ3[j]?∣(.ob (iq u f0)))(hx:kA x=true)(hy:kA y=true)(hN:autoParam (At X j n) cb)(h1:Vf [a,b,.Name n p1,t] X.env=(false,eval a X.env)::Vf [b,.Name n p1,t] X.env:=by rfl)(h2:Vf [b,.Name n p1,t] X.env=(false,eval b X.env)::Vf [.Name n p1,t] X.env:=by rfl)(h3:Vf [.Name n p1,t] X.env=(false,eval (.Name n p1) X.env)::Vf [t] X.env:=by rfl)(h4:dq X t []:=by rfl):jZ X (.List [a,b,.Name n p1,t] pos) Z (.lst [x,y,u,z]) (Γ3.set j .no):=λσ H0 R0 H R E Q q=>by
 refine eS (sE (aI aN (aI aN (aI (aV hN) (aI aN br h4) h3) h2) h1)) (ha σ H0 R0 H R E _ λv1 H1 R1 E1 s1 e1=>hb σ H0 R0 H1 R1 E1 _ λv2 H2 R2 E2 s2 e2=>?_);let⟨⟨v0,ev0,_⟩,_⟩:=E2.Av hj;refine⟨v0,at_of ev0,ht σ H0 R0 H2 R2 E2 _ λv3 fp H3 R3 E3 s3 t3 nd k=>⟨by show 4<=U9;decide,λp hp=>?_⟩⟩;let⟨⟨v0',ev0',t0⟩,nd0,E4,k0⟩:=E3.Av hj3;rw[ev0] at ev0';cases ev0'
 let⟨t4,hn⟩:=t3.fresh (o:=.lst [v1,v2,v0,v3]) hp;let⟨t5,hn5⟩:=t0.fresh (o:=.lst [v1,v2,v0,v3]) hp;let dj:∀c∈f0,c∉fp:=λc hc w=>(k c w).2.2 j _ hj3 hc;refine q (.ref p) (p::(f0++fp)) _ R3 (E4.grow (Ext.d8 E4.sub hp _)) (s1.trans (s2.trans s3)) ?_ (Sz.mpr ⟨λw=>(Sl.mp w).elim hn5 hn,S0.mpr ⟨nd0,nd,λc hc d w e=>dj c hc (e▸w)⟩⟩) λc hc=>?_
 ·have:=bB.cons (mQ (H':=upd H3 p (.lst [v1,v2,v0,v3])) e1 hx) (bB.cons (mQ (H':=upd H3 p (.lst [v1,v2,v0,v3])) e2 hy) (bB.cons t5 (bB.cons t4 .nil)));rw[Sw,S8,S8] at this;exact .lst aD this (by show 4<=U9;decide)
 ·obtain rfl | hc:=Sj.mp hc
  ·exact⟨E4.sub.free hp,E4.ext.h.free hp,E4.off hp⟩
  ·obtain hc | hc:=Sl.mp hc
   ·exact k0 c hc
   ·refine⟨(k c hc).1,(k c hc).2.1,λi e qi w=>?_⟩;obtain⟨rfl,rfl,_⟩ | ⟨hi,q1⟩:=set_at qi
    ·cases w
    ·exact(k c hc).2.2 i e q1 w
theorem jB (i:Nat){xs:`u}{P:List α->PV->Prop}(he:jZ X e Z y Γ1)(hΓ1:Γ1[i]?∣(.ob (aO a r xs)))(h:P xs y):W1 X (.Return (some e) pos) Z N (wW X.K a r λxs'=>A1 (P xs')):=λσ H0 R0 H R E D dn dr=>
 sS (h9 aN) (he σ H0 R0 H R E _ λv fp H1 R1 E1 s1 t nd k=>by
  let⟨ea,⟨vs,ha,pp⟩,hR⟩:=dk (E1.ent i _ hΓ1);exact dr v H1 R1 E1.ext ⟨vs,xs,ha,hR,pp,y,fp,t,nd,λb hb=>⟨(k b hb).2.1,(k b hb).1⟩,h⟩)
theorem L3 (i:Nat){x:Str}{fp:Rz}(he:jZ X e Z z Γ1)(hΓ:Z[i]?∣(.ob (iq (.lst xs) fp)))(hΓ1:Γ1[i]?∣(.ob (iq (.lst xs) fp)))(hz:xs.length<U9)(h:∀fp',N (Γ1.set i (.ob (iq (.lst (xs++[z])) fp'))))(hN:`o)(Yn:Vh `y none pos.line X.env=pure false:=by rfl)(X0:fh X `h "append":=by rfl)(Yf:l7 X cp [e]:=by rfl)(XZ:`Z=true:=by rfl)(hs:dq X e []:=by rfl):W1 X (.Expr `y pos) Z N T:=λσ H0 R0 H R E D dn dr=>by
 let⟨⟨v0,ea,t0,_⟩,_⟩:=E.ent i _ hΓ;cases t0 with
 | @lst a vs0 _ f0 ha0 tt0 z0=>
 refine sS (dQ `ac Yn) ?_;refine⟨.ref a,at_of ea,.inl ⟨rfl,vs0,bw.of ha0⟩,he σ H0 R0 H R E _ λv fpz H1 R1 E1 s1 t nd k=>?_⟩;let⟨⟨v1,ea1,t1,nd1⟩,hR1⟩:=E1.ent i _ hΓ1;rw[ea] at ea1;cases ea1
 cases t1 with
 | @lst _ vs _ _ ha tt zz=>
 refine⟨a,vs,v,rfl,rfl,ha,by rw[tt.len];exact hz,?_⟩;let⟨na,nd2⟩:=Sz.mp nd1;let nz:a∉fpz:=λw=>(k a w).2.2 i _ hΓ1 Se;let dj:∀c∈f0,c∉fpz:=λc hc w=>(k c w).2.2 i _ hΓ1 (Sb _ hc);let tn:c7 (upd H1 a (.lst (vs++[v]))) (.ref a) (.lst (xs++[z])) (a::(f0++fpz)):=by
  have:=bB.app (tt.loc (H':=upd H1 a (.lst (vs++[v]))) λc hc=>aF λe=>na (e▸hc)) (bB.cons (t.loc (H':=upd H1 a (.lst (vs++[v]))) λc hc=>aF λe=>nz (e▸hc)) .nil);rw[Sw] at this;exact .lst aD this (by rw[Sd,SN];exact hz)
 refine dn σ _ R1 _ (E1.lu (en:=.ob (iq (.lst (xs++[z])) (a::(f0++fpz)))) hΓ1 (a:=a) Se ?_ λb hb=>?_) s1 (h _)
 ·rw[ea];refine⟨⟨_,rfl,tn,Sz.mpr ⟨λw=>(Sl.mp w).elim na nz,S0.mpr ⟨nd2,nd,λc hc d w e=>dj c hc (e▸w)⟩⟩⟩,λb hb=>?_⟩;obtain rfl | hb:=Sj.mp hb
  ·exact hR1 _ Se
  ·obtain hb | hb:=Sl.mp hb
   ·exact hR1 _ (Sb _ hb)
   ·exact(k b hb).1
 ·obtain rfl | hb:=Sj.mp hb
  ·exact .inl Se
  ·obtain hb | hb:=Sl.mp hb
   ·exact .inl (Sb _ hb)
   ·exact .inr ⟨(k b hb).2.1,(k b hb).2.2⟩
theorem En {fp:Rz}(hΓ:Z[i]?∣(.ob (iq x fp)))(σ:St)(H0 R0 H R:Hp)(E:`aU):ar X.K σ H H H H ((Z.map nY).set i (.im av x)):=by
 let⟨⟨v,ea,t,_⟩,_⟩:=E.ent i _ hΓ;exact E.YI.ma (i:=i) (e0:=.no) (by rw[Sf,hΓ];rfl) ⟨v,ea,t.rZ⟩ λb w=>by cases w
end
abbrev PT:=List PV×Addr×Rz
abbrev cP (p:PT):Rz:=p.2.1::p.2.2
abbrev eJ (ps:List PT):Rz:=ps.flatMap cP
structure ka (H:Hp)(a:Addr)(ps:List PT):Prop where
 hd:H a∣(.lst (ps.map λp=>.ref p.2.1))
 pt:∀(n:Nat)(p:PT),ps[n]?∣p->c7 H (.ref p.2.1) (.lst p.1) (cP p)/\(cP p).Nodup/\a∉cP p
 dj:∀(n m:Nat)(p q:PT),ps[n]?∣p->ps[m]?∣q->∀c∈cP p,c∈cP q->n=m
variable {ps:List PT}
theorem bQ {c:Addr}:c∈eJ ps↔∃(n:Nat)(p:PT),ps[n]?∣p/\c∈cP p:=by
 rw[T3];constructor
 ·rintro⟨p,hp,hc⟩;let⟨n,hn⟩:=Sr.mp hp;exact⟨n,p,hn,hc⟩
 ·rintro⟨n,p,hn,hc⟩;exact⟨p,Sg hn,hc⟩
def bC (a:Addr)(ps:List PT):oK where
 fp:=a::eJ ps
 R:=λ_ H _ v=>v= .ref a/\ka H a ps
 loc:=λh _ ⟨e,k⟩=>⟨e,(h _ Se).trans k.hd,λn p hn=>⟨(k.pt n p hn).1.loc λc hc=>h c (Sb _ (bQ.mpr ⟨n,p,hn,hc⟩)),(k.pt n p hn).2⟩,k.dj⟩
 has:=λ⟨e,k⟩ c hc=>by
  obtain rfl | hc:=Sj.mp hc
  ·rw[k.hd];simp
  ·let⟨n,p,hn,hc⟩:=bQ.mp hc;exact(k.pt n p hn).1.has c hc
variable {n:Nat}{ys:`aQ}{q0:PT}{tp:Pos}
theorem ar.GH {b:Addr}{ys':`aQ}{g g':Rz}(E:`C)(hΓ:`Y)(hn:ps[n]?∣(ys,b,g))(t:c7 (L2.upd H b (.lst ws)) (.ref b) (.lst ys') (b::g'))(nd:(b::g').Nodup)(hg:∀c∈g',c∈g∨(R c=none/\H0 c=none/\Off c σ Z)):ar K σ H0 R0 (L2.upd H b (.lst ws)) R (Z.set i (.ob (bC a (ps.set n (ys',b,g'))))):=by
 let⟨⟨v,ea,rfl,k⟩,hR⟩:=E.ent i _ hΓ;let nl:n<ps.length:=(R6.mp hn).1;let bm:b∈eJ ps:=bQ.mpr ⟨n,_,hn,Se⟩;let ab:a≠b:=λe=>(k.pt n _ hn).2.2 (by rw[e];exact Se);let sp:∀(m:Nat)(q:PT),(ps.set n (ys',b,g'))[m]?∣q->(m=n/\q=(ys',b,g'))∨(m≠n/\ps[m]?∣q):=λm q h=>by
  by_cases e:n=m
  ·subst e;rw[Sh nl] at h;exact .inl ⟨rfl,(Option.some.inj h).symm⟩
  ·rw[SF e] at h;exact .inr ⟨λz=>e z.symm,h⟩
 let old:∀c∈b::g',c∈eJ ps∨(R c=none/\H0 c=none/\Off c σ Z):=λc hc=>by
  obtain rfl | hc:=Sj.mp hc
  ·exact .inl bm
  ·exact(hg c hc).imp (λw=>bQ.mpr ⟨n,_,hn,Sb _ w⟩) id
 let offa:∀{c:Addr},Off c σ Z->c∉(a::eJ ps):=λh w=>h i _ hΓ w;let apart:∀(m:Nat)(q:PT),m≠n->ps[m]?∣q->∀c∈b::g',c∉cP q:=λm q hm hq c hc w=>by
  obtain rfl | hc:=Sj.mp hc
  ·exact hm (k.dj m n q _ hq hn _ w Se)
  ·obtain z | z:=hg c hc
   ·exact hm (k.dj m n q _ hq hn c w (Sb _ z))
   ·exact offa z.2.2 (Sb _ (bQ.mpr ⟨m,q,hq,w⟩))
 refine E.lu (en:=.ob (bC a (ps.set n (ys',b,g')))) hΓ (a:=b) (Sb _ bm) ⟨⟨.ref a,ea,rfl,?_,λm q hq=>?_,λm1 m2 q1 q2 h1 h2 c c1 c2=>?_⟩,λc hc=>?_⟩ λc hc=>?_
 ·rw[aF ab,k.hd];congr 2;refine S6 λm=>?_;rw[Sf,Sf];by_cases e:n=m
  ·subst e;rw[Sh nl,hn];rfl
  ·rw[SF e]
 ·obtain⟨_,rfl⟩ | ⟨hm,hq⟩:=sp m q hq
  ·refine⟨t,nd,λw=>?_⟩;obtain e | w:=Sj.mp w
   ·exact ab e
   ·obtain z | z:=hg a w
    ·exact(k.pt n _ hn).2.2 (Sb _ z)
    ·exact offa z.2.2 Se
  ·let⟨t1,t2,t3⟩:=k.pt m q hq;exact⟨t1.loc λc hc=>aF λe=>apart m q hm hq b Se (e▸hc),t2,t3⟩
 ·obtain⟨e1,rfl⟩ | ⟨hm1,h1⟩:=sp m1 q1 h1
  ·obtain⟨e2,rfl⟩ | ⟨ZM,h2⟩:=sp m2 q2 h2
   ·rw[e1,e2]
   ·exact XE c2 (apart m2 q2 ZM h2 c c1)
  ·obtain⟨e2,rfl⟩ | ⟨ZM,h2⟩:=sp m2 q2 h2
   ·exact XE c1 (apart m1 q1 hm1 h1 c c2)
   ·exact k.dj m1 m2 q1 q2 h1 h2 c c1 c2
 ·obtain rfl | hc:=Sj.mp hc
  ·exact hR _ Se
  ·let⟨m,q,hq,hc⟩:=bQ.mp hc;obtain⟨_,rfl⟩ | ⟨_,hq⟩:=sp m q hq
   ·obtain z | z:=old c hc
    ·exact hR _ (Sb _ z)
    ·exact z.1
   ·exact hR _ (Sb _ (bQ.mpr ⟨m,q,hq,hc⟩))
 ·obtain rfl | hc:=Sj.mp hc
  ·exact .inl Se
  ·let⟨m,q,hq,hc⟩:=bQ.mp hc;obtain⟨_,rfl⟩ | ⟨_,hq⟩:=sp m q hq
   ·exact(old c hc).imp (λw=>Sb _ w) λz=>z.2
   ·exact .inl (Sb _ (bQ.mpr ⟨m,q,hq,hc⟩))
theorem WS.M0 (i:Nat)(hΓ:Z[i]?∣(.mu r []))(h:∀a,WS X YG (Z.set i (.ob (bC a []))) N T):WS X YG Z N T:=λσ H0 R0 H R E D dn dr=>by
 let⟨a,vs,ea,ha,hR,pp⟩:=E.ent i _ hΓ;cases pp
 refine h a σ H0 R0 H R (E.tell hΓ (by rw[ea];exact⟨⟨_,rfl,rfl,ha,(λn p q=>by simp at q),(λn m p q h1=>by simp at h1)⟩,λb hb=>by rw[Sa.mp hb];exact hR⟩) λb w=>?_) D dn dr;have:b=a:=Sa.mp w;rw[this];exact cq.mpr ea
theorem IQ (i:Nat)(he:jZ X e Z (.lst ys) Γ1)(hΓ:`Y)(hΓ1:Γ1[i]?∣(.ob (bC a ps)))(hz:ps.length<U9)(h:∀b g,N (Γ1.set i (.ob (bC a (ps++[(ys,b,g)])))))(hN:`o)(Yn:Vh `y none pos.line X.env=pure false:=by rfl)(X0:fh X `h "append":=by rfl)(Yf:l7 X cp [e]:=by rfl)(XZ:`Z=true:=by rfl)(hs:dq X e []:=by rfl):W1 X (.Expr `y pos) Z N T:=λσ H0 R0 H R E D dn dr=>by
 let⟨⟨v0,ea,rfl,k0⟩,_⟩:=E.ent i _ hΓ;refine sS (dQ `ac Yn) ?_;refine⟨.ref a,at_of ea,.inl ⟨rfl,_,bw.of k0.hd⟩,he σ H0 R0 H R E _ λv fpz H1 R1 E1 s1 t nd kz=>?_⟩;let⟨⟨v1,ea1,rfl,k⟩,hR1⟩:=E1.ent i _ hΓ1;cases t with
 | @lst b vs _ g hb tt zz=>
 refine⟨a,_,.ref b,rfl,rfl,k.hd,by rw[R9];exact hz,?_⟩;let off:∀c∈b::g,c∉(a::eJ ps):=λc hc w=>(kz c hc).2.2 i _ hΓ1 w;let sp:∀(m:Nat)(q:PT),(ps++[(ys,b,g)])[m]?∣q->(m=ps.length/\q=(ys,b,g))∨(m<ps.length/\ps[m]?∣q):=λm q hq=>by
  obtain z | z:=UD m ps.length
  ·rw[SD z] at hq;exact .inr ⟨z,hq⟩
  ·rw[SG z] at hq;have:m-ps.length=0:=by
    have:=(R6.mp hq).1;rw[SN] at this;cbv
   rw[this] at hq;exact .inl ⟨`a,by simpa using hq.symm⟩
 let tb:c7 (upd H1 a (.lst ((ps.map λp=>V.ref p.2.1)++[.ref b]))) (.ref b) (.lst ys) (b::g):=(c7.lst hb tt zz).loc λc hc=>aF λe=>off c hc (by rw[e];exact Se);refine dn σ _ R1 _ (E1.lu (en:=.ob (bC a (ps++[(ys,b,g)]))) hΓ1 (a:=a) Se ⟨⟨.ref a,ea1,rfl,?_,λm q hq=>?_,λm1 m2 q1 q2 h1 h2 c c1 c2=>?_⟩,λc hc=>?_⟩ λc hc=>?_) s1 (h b g)
 ·rw[aD,So];rfl
 ·obtain⟨_,rfl⟩ | ⟨_,hq⟩:=sp m q hq
  ·exact⟨tb,nd,λw=>off a w Se⟩
  ·let⟨t1,t2,t3⟩:=k.pt m q hq;exact⟨t1.loc λc hc=>aF λe=>t3 (e▸hc),t2,t3⟩
 ·obtain⟨e1,rfl⟩ | ⟨_,h1⟩:=sp m1 q1 h1
  ·obtain⟨e2,rfl⟩ | ⟨_,h2⟩:=sp m2 q2 h2
   ·rw[e1,e2]
   ·exact XE (Sb _ (bQ.mpr ⟨m2,q2,h2,c2⟩)) (off c c1)
  ·obtain⟨e2,rfl⟩ | ⟨_,h2⟩:=sp m2 q2 h2
   ·exact XE (Sb _ (bQ.mpr ⟨m1,q1,h1,c1⟩)) (off c c2)
   ·exact k.dj m1 m2 q1 q2 h1 h2 c c1 c2
 ·obtain rfl | hc:=Sj.mp hc
  ·exact hR1 _ Se
  ·let⟨m,q,hq,hc⟩:=bQ.mp hc;obtain⟨_,rfl⟩ | ⟨_,hq⟩:=sp m q hq
   ·exact(kz c hc).1
   ·exact hR1 _ (Sb _ (bQ.mpr ⟨m,q,hq,hc⟩))
 ·obtain rfl | hc:=Sj.mp hc
  ·exact .inl Se
  ·let⟨m,q,hq,hc⟩:=bQ.mp hc;obtain⟨_,rfl⟩ | ⟨_,hq⟩:=sp m q hq
   ·exact .inr (kz c hc).2
   ·exact .inl (Sb _ (bQ.mpr ⟨m,q,hq,hc⟩))
theorem Cq (i j:Nat){p:Pos}{k:Int}{q:PT}(hb:EV X b Z ag k Γ1)(hΓ:`Y)(hΓ1:Γ1[i]?∣(.ob (bC a ps)))(hk:fL ps.length k∣n)(hq:ps[n]?∣q)(h:N (Γ1.set j (.im dJ q.2.1)))(hNx:`o)(hsx:dP b:=by exact λ_ _=>rfl)(hN:X.N.Nodup:=by first | assumption | decide)(hi:X.N[j]?∣y:=by rfl)(hx:`aw)(hs:Vh (.Subscript `aq b p2) (some (.Name y p1)) pos.line X.env=pure false:=by rfl)(hf:autoParam (fM X y) YU):
 W1 X (.Assign [.Name y p1] (.Subscript `aq b p2) pos) Z N T:=λσ H0 R0 H R E D dn dr=>by
 let⟨⟨v,ea,rfl,k0⟩,hR⟩:=E.ent i _ hΓ;refine sS (jV hN hi hx aN hs hf) (eS (iy gT (aV hNx) aN hsx) ⟨.ref a,at_of ea,hb σ H0 R0 H R E _ λu H2 R2 E2 s2 e2=>?_⟩);let⟨⟨v,ea2,rfl,k2⟩,ZI⟩:=E2.ent i _ hΓ1;refine⟨a,_,k,.ref q.2.1,rfl,e2,bw.of k2.hd,?_,?_⟩
 ·let e:(ps.map λp=>V.ref p.2.1)=(ps.map λp=>p.2.1).map V.ref:=by rw[Ta];rfl
  rw[e];exact D3 (by rw[R9];exact hk) (by rw[Sf,hq];rfl)
 exact dn _ H2 R2 _ (E2.set j (r:=dJ) (x:=q.2.1) rfl) s2 h
theorem Et (i j:Nat){p:Pos}(hm:X.mg "len"=none)(hΓ:`Y)(hj:Z[j]?∣.im dJ q0.2.1)(hq:ps[n]?∣q0)(hN:autoParam (At X j y) cb)(hs:fW X (.Name y p1):=by rfl)(hg:Gl X "len":=by rfl):EV X (.Call (.Name "len" p) [.Name y p1] [] pos) Z ag (q0.1.length:Int) Z:=λσ H0 R0 H R E Q q=>by
 let⟨⟨v,ea,rfl,k⟩,hR⟩:=E.ent i _ hΓ;let⟨v0,e0,Zh⟩:=E.ent j _ hj;cases Zh
 cases (k.pt n q0 hq).1 with
 | @lst _ vs _ _ hb tt zz=>
 refine eS (eO gM hg hm Vy (aI (aV hN) br hs) `c `c hs) ⟨.ref q0.2.1,at_of e0,_,_,rfl,.inl (bw.of hb),?_⟩;rw[tt.len];exact q _ H R E `S rfl
theorem bB.ins {H:Hp}{v:V}{y:PV}{fy:Rz}(h:c7 H v y fy):∀(k:Nat){vs:`P}{xs:`aQ}{f:Rz},bB H vs xs f->∃f1 f2,f=f1++f2/\bB H (cy k v vs) (cy k y xs) (f1++(fy++f2))
 | 0,vs,xs,f,t=>⟨[],f,rfl,(bB.cons h t:bB H (v::vs) (y::xs) (fy++f))⟩
 | k+1,_,_,_,.nil=>⟨[],[],rfl,(bB.cons h .nil:bB H [v] [y] (fy++[]))⟩
 | k+1,_,_,_,.cons (f:=f0) q t=>by
   let⟨f1,f2,e,t'⟩:=bB.ins h k t;refine⟨f0++f1,f2,by rw[e,Su],?_⟩;rw[Su];exact .cons q t'
theorem lS {α:Type}(y:α):∀(k:Nat)(xs:`u),(cy k y xs).length=xs.length+1
 | 0,xs=>rfl
 | k+1,[]=>rfl
 | k+1,x::xs=>by show(cy k y xs).length+1=_;rw[lS y k xs];rfl
theorem Ji (i j:Nat){e1 e2:Expr}{y:PV}{k:Int}(h1:EV X e1 Z ag k Γ1)(h2:jZ X e2 Γ1 y Γ2)(hΓ:`Y)(hj:Z[j]?∣.im dJ q0.2.1)(hq:ps[n]?∣q0)(hΓ2:Γ2[i]?∣(.ob (bC a ps)))(k0:0<=k)(k1:k<=(q0.1.length:Int))(hz:q0.1.length<U9)(h:∀g,N (Γ2.set i (.ob (bC a (ps.set n (cy k.toNat y q0.1,q0.2.1,g))))))(hN:autoParam (At X j x) cb)(Yn:Vh (.Call (.Attribute `h "insert" ap) [e1,e2] [] cp) none pos.line X.env=pure false:=by rfl)(X0:fh X `h "insert":=by rfl)(Yf:l7 X cp [e1,e2]:=by rfl)(XZ:`Z=true:=by rfl)(hs:Vf [e1,e2] X.env=(false,eval e1 X.env)::Vf [e2] X.env:=by rfl)(Ys:dq X e2 []:=by rfl)(Yb:fc X cp [e2]:=by rfl):
 W1 X (.Expr (.Call (.Attribute `h "insert" ap) [e1,e2] [] cp) pos) Z N T:=λσ H0 R0 H R E D dn dr=>by
 let⟨⟨v,ea,rfl,kk⟩,hR⟩:=E.ent i _ hΓ;let⟨v0,e0,Zh⟩:=E.ent j _ hj;cases Zh
 let⟨ys,b,g⟩:=q0;cases (kk.pt n _ hq).1 with
 | @lst _ vs0 _ _ hb0 tt0 zz0=>
 refine sS (dQ (gR WG PySem.F.slot_list_insert PySem.F.type_list_insert Bz (aV hN) (aI aN (aI aN br Ys) hs) X0 Yf XZ hs Yb) Yn) ?_;refine⟨.ref b,at_of e0,.inl ⟨rfl,_,bw.of hb0⟩,h1 σ H0 R0 H R E _ λv1 H1 R1 E1 s1 r1=>h2 σ H0 R0 H1 R1 E1 _ λv2 fy H2 R2 E2 s2 t2 ndy ky=>?_⟩;cases r1
 let⟨⟨v,ea2,rfl,k2⟩,ZI⟩:=E2.ent i _ hΓ2;let⟨tq,ndq,naq⟩:=k2.pt n _ hq;cases tq with
 | @lst _ vs _ _ hb tt zz=>
 let⟨nb,ndg⟩:=Sz.mp ndq;refine⟨b,vs,k,v2,rfl,rfl,hb,k0,by rw[tt.len];exact k1,by rw[tt.len];exact hz,?_⟩;let offy:∀c∈fy,c∉b::g:=λc hc w=>(ky c hc).2.2 i _ hΓ2 (Sb _ (bQ.mpr ⟨n,_,hq,w⟩));let⟨f1,f2,ef,ti⟩:=bB.ins (t2.loc (H':=upd H2 b (.lst (cy k.toNat v2 vs))) λc hc=>aF λe=>offy c hc (by rw[e];exact Se)) k.toNat (tt.loc (H':=upd H2 b (.lst (cy k.toNat v2 vs))) λc hc=>aF λe=>nb (e▸hc));let ef:g=f1++f2:=ef;let nd':(f1++(fy++f2)).Nodup:=by
  rw[ef] at ndg;let⟨n1,n2,n3⟩:=S0.mp ndg;refine S0.mpr ⟨n1,S0.mpr ⟨ndy,n2,λc hc d YY e=>offy c hc (by rw[e];exact Sb _ (by rw[ef];exact Sk _ YY))⟩,λc hc d YY e=>?_⟩;obtain YY | YY:=Sl.mp YY
  ·exact offy d YY (by rw[← e];exact Sb _ (by rw[ef];exact Sn _ hc))
  ·exact n3 c hc d YY e
 refine dn σ _ R2 _ (E2.GH hΓ2 hq (.lst aD ti (by rw[lS];exact hz)) (Sz.mpr ⟨λw=>?_,nd'⟩) λc hc=>?_) `E (h _)
 ·obtain w | w:=Sl.mp w
  ·exact nb (by show b∈g;rw[ef];exact Sn _ w)
  ·obtain w | w:=Sl.mp w
   ·exact offy b w Se
   ·exact nb (by show b∈g;rw[ef];exact Sk _ w)
 ·obtain w | w:=Sl.mp hc
  ·exact .inl (by rw[ef];exact Sn _ w)
  ·obtain w | w:=Sl.mp w
   ·exact .inr (ky c w)
   ·exact .inl (by rw[ef];exact Sk _ w)
theorem vZ {H:Hp}{K:Xh}:∀{ps:List PT},(∀p∈ps,c7 H (.ref p.2.1) (.lst p.1) (cP p))->PySem.Paired ((ae av).R K H) (ps.map λp=>V.ref p.2.1) (ps.map (·.1))
 | [],_=>.nil
 | p::ps,h=>.cons (by
    cases h p Se with
    | @lst _ vs _ _ hb tt zz=>exact⟨_,vs,rfl,hb,tt.rZ.pair,zz⟩) (vZ λq hq=>h q (Sb _ hq))
noncomputable def Ei (K:Xh)(r:Rep α)(P:α->List (List PV)->Prop):RT:=λH0 v H' R'=>∃p v1 a y ps,v= .ref p/\R' p∣(.tup [v1,.ref a])/\r.R K R' v1 y/\ka H' a ps/\(∀b∈a::eJ ps,H0 b=none/\R' b=none)/\P y (ps.map (·.1))
theorem IK (i:Nat){z:Str}{k:Nat}{y:α}{P:α->List (List PV)->Prop}(he:EV X e Z r y Γ1)(hΓ1:Γ1[i]?∣(.ob (bC a ps)))(h:P y (ps.map (·.1)))(hN:autoParam (At X i z) cb)(h1:Vf [e,.Name z p1] X.env=(false,eval e X.env)::Vf [.Name z p1] X.env:=by rfl)(h2:dq X (.Name z p1) []:=by rfl):W1 X (.Return (some (.Tuple [e,.Name z p1] k tp)) pos) Z N (Ei X.K r P):=λσ H0 R0 H R E D dn dr=>by
 refine sS (h9 (sr (aI aN (aI (aV hN) br h2) h1))) `K;let⟨⟨v0,ea,rfl,kk⟩,hR⟩:=E1.ent i _ hΓ1;refine⟨.ref a,at_of ea,by show 2<=U9;decide,λp hp=>?_⟩;let x:=Ext.fresh E1.sub hp (.tup [v,.ref a]);let E2:=E1.grow x;let nep:∀b∈a::eJ ps,b≠p:=λb hb e=>by
  have:=(bC a ps).has (K:=X.K) (R0:=R1) ⟨rfl,kk⟩ b hb;rw[e,hp] at this;exact this rfl
 refine dr _ _ _ E2.ext ⟨p,v,a,y,ps,rfl,aD,r.mono x.r e1,?_,λb hb=>⟨E1.nw i _ b hΓ1 hb,?_⟩,h⟩
 ·exact((bC a ps).loc (K:=X.K) (R0:=R1) (R':=R1) (λb hb=>aF (nep b hb)) `S ⟨rfl,kk⟩).2
 ·rw[aF (nep b hb)];exact hR b hb
theorem Jx (i1 i2:Nat){S:dh}{f x1 x2:Str}{k:Nat}{p:Pos}{ps:List Pk}{P:α->List (List PV)->Prop}(C:aE X.prog X.w X.K X.mg X.base f n (aR S X.K))(hr:bG n X.A)(ha:HA X (e::es) Z ps Γ1)(hS:S X.K ps (Ei X.K r P))(X3:i1≠i2)(h:∀a y qs,P y (qs.map (·.1))->N ((Γ1.set i1 (.im r y)).set i2 (.ob (bC a qs))))(hg:Gl X f:=by rfl)(Yo:YJ f:=by decide)(he:dq X e es:=by rfl)(Yb:fc X cp es:=by rfl)(hc:X.calm=true:=by rfl)(hN:X.N.Nodup:=by first | assumption | decide)(h1:X.N[i1]?∣x1:=by rfl)(l1:autoParam (Loc X.env.scope x1) YV)(f1:autoParam (fM X x1) YU)(h2:X.N[i2]?∣x2:=by rfl)(l2:autoParam (Loc X.env.scope x2) YV)(f2:autoParam (fM X x2) YU)(hs:VP [.Tuple [.Name x1 p1,.Name x2 p2] k tp] (.Call (.Name f p) (e::es) [] cp) pos.line X.env=pure false:=by rfl)(hw:VQ [.Tuple [.Name x1 p1,.Name x2 p2] k tp] (.Call (.Name f p) (e::es) [] cp) X.env=pure none:=by rfl)(ho:(Vp [.Tuple [.Name x1 p1,.Name x2 p2] k tp] X.env).map (·.2)=[VD (.Tuple [.Name x1 p1,.Name x2 p2] k tp) X.env]:=by rfl):W1 X (.Assign [.Tuple [.Name x1 p1,.Name x2 p2] k tp] (.Call (.Name f p) (e::es) [] cp) pos) Z N T:=λσ H0 R0 H R E D dn dr=>by
 refine sS (sD aN (wF hc (fb (fz hN h1 l1 f1) (fb (fz hN h2 l2 f2) pJ))) hs hw ho) ?_;refine lH C hr ha hS E (λH1 R1 v H' R' E1 s1 xx t=>?_) hg Yo he Yb;let⟨q,v1,a,y,qs,rfl,hq,r1,kk,fr,hP⟩:=t;let E2:=E1.grow xx;refine⟨q,_,rfl,dY.of (E2.sub _ _ hq),rfl,_,_,rfl,_,_,rfl,rfl,?_⟩;refine dn _ H' R' _ (ar.setG (E2.set i1 (r:=r) r1) i2 (en:=.ob (bC a qs)) ⟨⟨_,rfl,rfl,kk⟩,λb hb=>(fr b hb).2⟩ (λb hb=>E1.ext.h.free (fr b hb).1) λb hb j e hj qj w=>?_) (s1.trans xx.r) (h a y qs hP);obtain⟨rfl,rfl,_⟩ | ⟨hj1,q1⟩:=set_at qj
 ·cases w
 ·rw[SF (UT hj1)] at w;exact E1.off (fr b hb).1 j e q1 w
theorem yN:∀{ps:List PT},(eJ ps).Nodup->(∀(n:Nat)(p:PT),ps[n]?∣p->(cP p).Nodup)/\∀(n m:Nat)(p q:PT),ps[n]?∣p->ps[m]?∣q->∀c∈cP p,c∈cP q->n=m
 | [],_=>⟨λn p h=>by simp at h,λn m p q h=>by simp at h⟩
 | r::ps,h=>by
   rw[show eJ (r::ps)=cP r++eJ ps from Te] at h;let⟨h1,h2,h3⟩:=S0.mp h;let⟨i1,i2⟩:=yN h2;refine⟨λn p hn=>?_,λn m p q hn hm c hc hd=>?_⟩
   ·cases n with
    | zero=>have:r=p:= ~~~hn
            rw[← this];exact h1
    | succ n=>exact i1 n p (~~~hn)
   ·cases n with
    | zero=>
      let e1:r=p:= ~~~hn
      cases m with
      | zero=>rfl
      | succ m=>exact XE rfl (h3 c (e1▸hc) c (bQ.mpr ⟨m,q,by simpa using hm,hd⟩))
    | succ n=>cases m with
      | zero=>
        let e1:r=q:= ~~~hm
        exact XE rfl (h3 c (e1▸hd) c (bQ.mpr ⟨n,p,by simpa using hn,hc⟩))
      | succ m=>rw[i2 n m p q (~~~hn) (~~~hm) c hc hd]
theorem Ab:∀{ps:List PT},(∀(n:Nat)(p:PT),ps[n]?∣p->(cP p).Nodup)->(∀(n m:Nat)(p q:PT),ps[n]?∣p->ps[m]?∣q->∀c∈cP p,c∈cP q->n=m)->(eJ ps).Nodup
 | [],_,_=>TR
 | r::ps,h,k=>by
   rw[show eJ (r::ps)=cP r++eJ ps from Te];refine S0.mpr ⟨h 0 r rfl,Ab (λn p hn=>h (n+1) p (~~~hn)) λn m p q hn hm c hc hd=>?_,λc hc d hd e=>?_⟩
   ·have:=k (n+1) (m+1) p q (~~~hn) (~~~hm) c hc hd;cbv
   ·subst e;let⟨n,p,hn,hp⟩:=bQ.mp hd;exact XE (k 0 (n+1) r p rfl (~~~hn) c hc hp) `a
theorem bB.parts:∀{vs:`P}{xss:List (List PV)}{g:Rz},bB H vs (xss.map PV.lst) g->∃ps:List PT,vs=(ps.map λp=>.ref p.2.1)/\ps.map (·.1)=xss/\g=eJ ps/\∀p∈ps,c7 H (.ref p.2.1) (.lst p.1) (cP p)
 | _,[],_,.nil=>⟨[],rfl,rfl,rfl,λp h=>by cases h⟩
 | _,xs::xss,_,.cons q t=>by
   let⟨ps,h1,h2,h3,h4⟩:=bB.parts t;cases q with
   | @lst b vs _ f hb tt zz=>
   refine⟨(xs,b,f)::ps,by rw[h1];rfl,by rw[SK,h2],by rw[h3];rfl,λp hp=>?_⟩;obtain rfl | hp:=Sj.mp hp
   ·exact .lst hb tt zz
   ·exact h4 p hp
theorem zk {H:Hp}:∀{ps:List PT},(∀p∈ps,c7 H (.ref p.2.1) (.lst p.1) (cP p))->bB H (ps.map λp=>.ref p.2.1) ((ps.map (·.1)).map PV.lst) (eJ ps)
 | [],_=>.nil
 | p::ps,h=>bB.cons (h p Se) (zk λq hq=>h q (Sb _ hq))
theorem c7.pl {b:Addr}{xss:List (List PV)}{g:Rz}(h:c7 H (.ref b) (.lst (xss.map PV.lst)) (b::g))(nd:(b::g).Nodup):∃ps:List PT,ka H b ps/\ps.map (·.1)=xss/\g=eJ ps:=by
 cases h with
 | @lst _ vs _ _ hb tt zz=>
 let⟨ps,h1,h2,h3,h4⟩:=tt.parts;let⟨n1,n2⟩:=Sz.mp nd;rw[h3] at n1 n2;let⟨k1,k2⟩:=yN n2;exact⟨ps,⟨by rw[hb,h1],λn p hn=>⟨h4 p (Sg hn),k1 n p hn,λw=>n1 (bQ.mpr ⟨n,p,hn,w⟩)⟩,k2⟩,h2,h3⟩
theorem ka.tpv {b:Addr}(h:ka H b ps)(hz:ps.length<=U9):c7 H (.ref b) (.lst ((ps.map (·.1)).map PV.lst)) (b::eJ ps)/\(b::eJ ps).Nodup:=by
 refine⟨.lst h.hd (zk λp hp=>?_) (by rw[R9,R9];exact hz),Sz.mpr ⟨λw=>?_,Ab (λn p hn=>(h.pt n p hn).2.1) h.dj⟩⟩
 ·let⟨n,hn⟩:=Sr.mp hp;exact(h.pt n p hn).1
 ·let⟨n,p,hn,hp⟩:=bQ.mp w;exact(h.pt n p hn).2.2 hp
theorem bB.sub:∀{vs:`P}{xs:`aQ}{f:Rz}{m:Nat}{zs:`aQ},bB H vs xs f->xs[m]?∣.lst zs->∃b g f1 f2,vs[m]?∣.ref b/\f=f1++((b::g)++f2)/\c7 H (.ref b) (.lst zs) (b::g)/\∀(H':Hp)(zs':`aQ),(∀d∈f1++f2,H' d=H d)->c7 H' (.ref b) (.lst zs') (b::g)->bB H' vs (xs.set m (.lst zs')) f
 | _,_,_,m,zs,.nil,h=>by simp at h
 | _,_,_,0,zs,.cons (x:=x0) (f:=f) (g:=g) (vs:=vs) (xs:=xs) q t,h=>by
   let e:x0=PV.lst zs:= ~~~h
   subst e;cases q with
   | @lst b ws _ f hb tt zz=>
   refine⟨b,f,[],g,rfl,rfl,.lst hb tt zz,λH' zs' hk tn=>?_⟩;exact bB.cons tn (t.loc λd hd=>hk d hd)
 | _,_,_,m+1,zs,.cons (f:=f) (g:=g) (vs:=vs) (xs:=xs) q t,h=>by
   let⟨b,g',f1,f2,h1,h2,h3,h4⟩:=bB.sub (m:=m) t (~~~h);refine⟨b,g',f++f1,f2,by simpa using h1,by rw[h2,Su],h3,λH' zs' hk tn=>?_⟩;rw[Ue];exact bB.cons (q.loc λd hd=>hk d (Sn _ (Sn _ hd))) (h4 H' zs' (λd hd=>hk d (by
    obtain w | w:=Sl.mp hd
    ·exact Sn _ (Sk _ w)
    ·exact Sk _ w)) tn)
variable {D:Rz}{tg:Expr}
theorem ar.Oc {R':Hp}{l:Nat}{B B' C C':oK}(E:`C)(hil:i≠l)(hi:Z[i]?∣.ob B)(hl:Z[l]?∣.ob C)(hD:∀d∈D,d∈B.fp∨d∈C.fp)(x:Ext (gp H D) R H' R')(hB:(Ent.ob B').ok K H' R' (σ[i]?).join)(hC:(Ent.ob C').ok K H' R' (σ[l]?).join)(fB:∀b∈B'.fp,b∈B.fp)(fC:∀b∈C'.fp,b∈C.fp):ar K σ H0 R0 H' R' ((Z.set i (.ob B')).set l (.ob C')):=by
 let out:∀{b:Addr},H0 b≠none->b∉D:=λ{b} h e=>(hD b e).elim (λw=>h (E.nw i _ b hi w)) λw=>h (E.nw l _ b hl w);let apart:∀(j:Nat)(e:Ent),j≠i->j≠l->Z[j]?∣e->∀b∈e.fp (σ[j]?).join,b∉D:=λj e hj hj' qj b hb w=>(hD b w).elim (λz=>hj (E.ds j i e _ b qj hi hb z)) λz=>hj' (E.ds j l e _ b qj hl hb z);let key:∀(j:Nat)(e:Ent),((Z.set i (.ob B')).set l (.ob C'))[j]?∣e->(j=l/\e= .ob C')∨(j=i/\e= .ob B')∨(j≠i/\j≠l/\Z[j]?∣e):=λj e q=>by
  obtain⟨rfl,rfl,_⟩ | ⟨hj,q1⟩:=set_at q
  ·exact .inl ⟨rfl,rfl⟩
  ·obtain⟨rfl,rfl,_⟩ | ⟨hj',q2⟩:=set_at q1
   ·exact .inr (.inl ⟨rfl,rfl⟩)
   ·exact .inr (.inr ⟨hj',hj,q2⟩)
 let own:∀(j:Nat)(e:Ent),((Z.set i (.ob B')).set l (.ob C'))[j]?∣e->∃e0,Z[j]?∣e0/\∀b∈e.fp (σ[j]?).join,b∈e0.fp (σ[j]?).join:=λj e q=>by
  obtain⟨rfl,rfl⟩ | ⟨rfl,rfl⟩ | ⟨_,_,q1⟩:=key j e q
  ·exact⟨_,hl,fC⟩
  ·exact⟨_,hi,fB⟩
  ·exact⟨e,q1,λb hb=>hb⟩
 refine⟨⟨λb o q=>?_,E.ext.r.trans x.r,x.s,λb hb=>?_⟩,λj e q=>?_,λj e b q w=>?_,λj k e e' b q q' w w'=>?_,by rw[SR,SR];exact E.len⟩
 ·exact x.h b o (by rw[eM (out (by rw[q];exact UW _))];exact E.ext.h b o q)
 ·refine(x.old b ?_).trans (E.ext.old b hb);rw[eM (out hb)];exact au.some E.ext.h hb
 ·obtain⟨rfl,rfl⟩ | ⟨rfl,rfl⟩ | ⟨hj,hj',q1⟩:=key j e q
  ·exact hC
  ·exact hB
  ·let h1:=E.ent j e q1;refine h1.loc (λb hb=>?_) x.r λb hb=>?_
   ·cases e2:H b with
    | none=>exact XE e2 (Ent.fE h1 hb).1
    | some u=>exact x.h b u (by rw[eM (apart j e hj hj' q1 b hb)];exact e2)
   ·exact(x.old b (by rw[eM (apart j e hj hj' q1 b hb)];exact(Ent.fE h1 hb).1)).trans (Ent.fE h1 hb).2
 ·let⟨e0,q0,s0⟩:=own j e q;exact E.nw j e0 b q0 (s0 b w)
 ·let⟨e0,q0,s0⟩:=own j e q;let⟨e1,q1,s1⟩:=own k e' q';exact E.ds j k e0 e1 b q0 q1 (s0 b w) (s1 b w')
theorem As (i:Nat){body:List Stmt}{bf:Addr->Ga->Ga}(I:Nat->Ga->Prop)(hΓ:`Y)(hb:BG X tg dJ bf)(h0:I 0 Z)(hI:∀k Z,I k Z->∃qs:List PT,Z[i]?∣(.ob (bC a qs))/\qs.map (·.2)=ps.map (·.2))(YD:∀(k:Nat)(p:PT)(Z:Ga),ps[k]?∣p->I k Z->WS X body (bf p.2.1 Z) (I (k+1)) T)(YQ:∀Z:Ga,I ps.length Z->N Z)(hN:`o)(hc:X.calm=true:=by rfl)(hp:Wa `f X.A X.env X.xe:=by exact Wa.never)(hs:∀y,Vm `h X.env y=pure y:=by intro _;rfl):W1 X (.For tg `h body [] pos) Z N T:=λσ H0 R0 H R E D dn dr=>by
 let⟨⟨v,ea,rfl,k0⟩,hR⟩:=E.ent i _ hΓ;let roots:∀qs:List PT,qs.map (·.2)=ps.map (·.2)->(qs.map λp=>V.ref p.2.1)=ps.map λp=>V.ref p.2.1:=λqs h=>by
  have:=congrArg (List.map λz:Addr×Rz=>V.ref z.1) h;rwa [Ta,Ta] at this
 refine sS (BW hp hc (zO (aV hN)) O2 iC hs) ⟨.ref a,at_of ea,a,rfl,⟨_,bw.of k0.hd⟩,?_⟩;refine⟨λk m σ' H'=>m=ps.length-k/\k<=ps.length/\∃R' Γ',ar X.K σ' H0 R0 H' R' Γ'/\au R R'/\I k Γ',⟨_,rfl,Uy _,R,Z,E,au.refl _,h0⟩,?_⟩;rintro k m σ' H' ⟨rfl,hle,R',Γ',E',s',hIk⟩;let⟨qs,hy,hqs⟩:=hI k Γ' hIk;let⟨⟨v,Yq,rfl,k1⟩,_⟩:=E'.ent i _ hy;let YE:H' a∣(.lst (ps.map λp=>.ref p.2.1)):=by rw[k1.hd,roots qs hqs]
 by_cases YA:k<ps.length
 ·let hk:(ps.map λp=>V.ref p.2.1)[k]?∣(.ref ps[k].2.1):=by rw[Sf,R7 YA];rfl
  refine .inr ⟨⟨_,_,bw.of YE,hk⟩,λσ' H'=>k+1<=ps.length/\∃R' Γ',ar X.K σ' H0 R0 H' R' Γ'/\au R R'/\I (k+1) Γ',λσ2 H2 h=>⟨ps.length-(k+1),`a,rfl,h.1,h.2⟩,λv H2 hyl=>?_⟩;let⟨rfl,hyl⟩:=hyl;have:=hyl _ (bw.of YE);rw[hk] at this;cases this
  refine hb σ' H0 R0 H2 R' Γ' _ ps[k].2.1 E' rfl _ λσ2 E2=>?_;exact YD k ps[k] Γ' (R7 YA) hIk σ2 H0 R0 H2 R' E2 _ (λσ3 H3 R3 Γ3 E3 s3 h3=>⟨YA,R3,Γ3,E3,s'.trans s3,h3⟩) dr
 ·let e:k=ps.length:=`a
  subst e;exact .inl ⟨⟨_,bw.of YE,by rw[R9];exact Uw _⟩,dn σ' H' R' Γ' E' s' (YQ Γ' hIk)⟩
theorem bB.at_ {H:Hp}:∀{vs:`P}{xs:`aQ}{f:Rz}{m:Nat}{y:PV},bB H vs xs f->xs[m]?∣y->∃v g,vs[m]?∣v/\c7 H v y g
 | _,_,_,m,y,.nil,h=>by simp at h
 | _,_,_,0,y,.cons (x:=x0) q t,h=>by
   let e:x0=y:= ~~~h
   exact⟨_,_,rfl,e▸q⟩
 | _,_,_,m+1,y,.cons q t,h=>by
   let⟨v,g,h1,h2⟩:=bB.at_ (m:=m) t (~~~h);exact⟨v,g,by simpa using h1,h2⟩
theorem ox (i j:Nat){jc:Nat}{m:Nat}{y:PV}(hΓ:`Y)(hj:Z[j]?∣.im dJ q0.2.1)(hq:ps[n]?∣q0)(hy:q0.1[m]?∣y)(hl:kA y=true)(hN:autoParam (At X j x) cb)(hs:dP (.Constant (.int (m:Int)) jc p2):=by exact λ_ _=>rfl):EV X (.Subscript `h (.Constant (.int (m:Int)) jc p2) pos) Z av y Z:=λσ H0 R0 H R E Q q=>by
 let⟨⟨v,ea,rfl,k⟩,hR⟩:=E.ent i _ hΓ;let⟨v0,e0,Zh⟩:=E.ent j _ hj;cases Zh
 cases (k.pt n q0 hq).1 with
 | @lst _ vs _ _ hb tt zz=>
 let⟨w,g,hw,tw⟩:=tt.at_ hy;refine eS (iy gT (aV hN) (aN (e:=.Constant (.int (m:Int)) jc p2)) hs) ⟨.ref q0.2.1,at_of e0,(ev_int (i:=(m:Int)) (X:=X) (Z:=Z)) σ H0 R0 H R E _ λu H2 R2 E2 s2 e2=>?_⟩;let⟨⟨v,ea2,rfl,k2⟩,ZI⟩:=E2.ent i _ hΓ;cases (k2.pt n q0 hq).1 with
 | @lst _ vs2 _ _ hb2 tt2 zz2=>
 let⟨w2,g2,hw2,tw2⟩:=tt2.at_ hy;refine⟨q0.2.1,vs2,(m:Int),w2,rfl,e2,bw.of hb2,?_,?_⟩
 ·let ml:=(R6.mp hw2).1;rw[gb `a `a,show((m:Nat):Int).toNat=m by cbv];exact hw2
 ·refine q w2 H2 R2 E2 s2 ?_;cases tw2 with
  | str x=>exact .str x
  | int z=>exact .int z
  | lst _ _ _=>cases hl
theorem pQ (i j:Nat){y:PV}(he:EV X e Z av y Γ1)(hl:kA y=true)(hΓ:`Y)(hj:Z[j]?∣.im dJ q0.2.1)(hq:ps[n]?∣q0)(hΓ1:Γ1[i]?∣(.ob (bC a ps)))(hz:q0.1.length<U9)(h:N (Γ1.set i (.ob (bC a (ps.set n (q0.1++[y],q0.2.1,q0.2.2))))))(hN:autoParam (At X j x) cb)(Yn:Vh `y none pos.line X.env=pure false:=by rfl)(X0:fh X `h "append":=by rfl)(Yf:l7 X cp [e]:=by rfl)(XZ:`Z=true:=by rfl)(hs:dq X e []:=by rfl):W1 X (.Expr `y pos) Z N T:=λσ H0 R0 H R E D dn dr=>by
 let⟨⟨v,ea,rfl,k⟩,hR⟩:=E.ent i _ hΓ;let⟨v0,e0,Zh⟩:=E.ent j _ hj;cases Zh
 let⟨ys,b,g⟩:=q0;cases (k.pt n _ hq).1 with
 | @lst _ vs0 _ _ hb0 tt0 zz0=>
 refine sS (dQ `ac Yn) ?_;refine⟨.ref b,at_of e0,.inl ⟨rfl,vs0,bw.of hb0⟩,he σ H0 R0 H R E _ λu H1 R1 E1 s1 r1=>?_⟩;let⟨⟨v,ea1,rfl,k1⟩,hR1⟩:=E1.ent i _ hΓ1;let⟨tq,ndq,naq⟩:=k1.pt n _ hq;cases tq with
 | @lst _ vs _ _ hb tt zz=>
 let⟨nb,ndg⟩:=Sz.mp ndq;refine⟨b,vs,u,rfl,rfl,hb,by rw[tt.len];exact hz,?_⟩;refine dn σ _ R1 _ (E1.GH hΓ1 hq (ws:=vs++[u]) ?_ ndq λc hc=>.inl hc) s1 h;have:=bB.app (tt.loc (H':=L2.upd H1 b (.lst (vs++[u]))) λc hc=>aF λe=>nb (e▸hc)) (bB.cons (mQ (H':=L2.upd H1 b (.lst (vs++[u]))) r1 hl) .nil);rw[Sw,Sw] at this;exact .lst aD this (by rw[Sd,SN];exact hz)
theorem ka.put (k:ka H a ps)(hn:ps[n]?∣q0)(hH:∀d∈a::eJ ps,d∉cP q0->H' d=H d)(t:c7 H' (.ref q0.2.1) (.lst ys) (cP q0)):ka H' a (ps.set n (ys,q0.2.1,q0.2.2)):=by
 let nl:n<ps.length:=(R6.mp hn).1;let sp:∀(m:Nat)(q:PT),(ps.set n (ys,q0.2.1,q0.2.2))[m]?∣q->(m=n/\q=(ys,q0.2.1,q0.2.2))∨(m≠n/\ps[m]?∣q):=λm q h=>by
  by_cases e:n=m
  ·subst e;rw[Sh nl] at h;exact .inl ⟨rfl,(Option.some.inj h).symm⟩
  ·rw[SF e] at h;exact .inr ⟨λz=>e z.symm,h⟩
 let fpe:∀(m:Nat)(q:PT),(ps.set n (ys,q0.2.1,q0.2.2))[m]?∣q->∃q',ps[m]?∣q'/\cP q=cP q':=λm q h=>by
  obtain⟨rfl,rfl⟩ | ⟨_,h⟩:=sp m q h
  ·exact⟨q0,hn,rfl⟩
  ·exact⟨q,h,rfl⟩
 refine⟨?_,λm q hq=>?_,λm1 m2 q1 q2 h1 h2 c c1 c2=>?_⟩
 ·rw[hH a Se (k.pt n q0 hn).2.2,k.hd];congr 2;refine S6 λm=>?_;rw[Sf,Sf];by_cases e:n=m
  ·subst e;rw[Sh nl,hn];rfl
  ·rw[SF e]
 ·obtain⟨rfl,rfl⟩ | ⟨hm,hq⟩:=sp m q hq
  ·exact⟨t,(k.pt _ q0 hn).2⟩
  ·let⟨t1,t2,t3⟩:=k.pt m q hq;exact⟨t1.loc λc hc=>hH c (Sb _ (bQ.mpr ⟨m,q,hq,hc⟩)) λw=>hm (k.dj m n q q0 hq hn c hc w),t2,t3⟩
 ·let⟨p1,e1,f1⟩:=fpe m1 q1 h1;let⟨p2,e2,f2⟩:=fpe m2 q2 h2;exact k.dj m1 m2 p1 p2 e1 e2 c (f1▸c1) (f2▸c2)
theorem zW (hn:ps[n]?∣q0):∀b∈a::eJ (ps.set n (ys,q0.2.1,q0.2.2)),b∈a::eJ ps:=λb hb=>by
 obtain rfl | hb:=Sj.mp hb
 ·exact Se
 ·let⟨m,q,hq,hc⟩:=bQ.mp hb;refine Sb _ (bQ.mpr ?_);by_cases e:n=m
  ·subst e;rw[Sh (R6.mp hn).1] at hq;cases Option.some.inj hq
   exact⟨n,q0,hn,hc⟩
  ·rw[SF e] at hq;exact⟨m,q,hq,hc⟩
theorem Ext.keep {R':Hp}(x:Ext (gp H D) R H' R'){d:Addr}(hd:d∉D)(hn:H d≠none):H' d=H d:=by
 cases e:H d with
 | none=>exact XE e hn
 | some o=>exact x.h d o (by rw[eM hd];exact e)
def Rep.at_ {α:Type}(r:Rep α)(y:α):Rep Unit:=⟨λK R v _=>r.R K R v y,λs h=>r.mono s h⟩
abbrev lO:=List (Str×Rep Unit)
abbrev g7 (fs:lO)(K:Xh)(R:Hp)(vs:List (Str×V)):Prop:=PySem.Paired (λ(z:Str×V)(f:Str×Rep Unit)=>z.1=f.1/\f.2.R K R z.2 ()) vs fs
theorem g7.mono {fs:lO}{R':Hp}{vs:List (Str×V)}(s:au R R')(h:g7 fs K R vs):g7 fs K R' vs:=Paired.map (λ_ f ⟨a,b⟩=>⟨a,f.2.mono s b⟩) h
noncomputable def qN:lO->Str->Option (Rep Unit)
 | [],_=>none
 | (g,x)::r,f=>if g=f then some x else qN r f
theorem g7.get {f:Str}{r:Rep Unit}:∀{fs:lO}{vs:List (Str×V)},g7 fs K R vs->qN fs f∣r->∃v,vs.lookup f∣v/\r.R K R v ()
 | _,_,.nil,h=>by cases h
 | _,_,.cons (a:=z) (b:=p) h t,hg=>by
   let⟨g,x⟩:=p;let⟨g',v⟩:=z;let⟨e,hv⟩:=h;let e:g'=g:=e;subst e;rw[qN] at hg;rw[Tp];by_cases q:g'=f
   ·rw[XG q] at hg;cases hg;subst q
    exact⟨v,`d,hv⟩
   ·rw[XF q] at hg;rw[show(f==g')=false from beq_eq_false_iff_ne.mpr λz=>q z.symm];exact g7.get t hg
theorem g7.put {f:Str}{r:Rep Unit}{v:V}(hv:r.R K R v ()):∀{fs:lO}{vs:List (Str×V)},g7 fs K R vs->qN fs f=none->g7 (fs++[(f,r)]) K R (gE f v vs)
 | _,_,.nil,_=>.cons ⟨rfl,hv⟩ .nil
 | _,_,.cons (a:=z) (b:=p) h t,hg=>by
   let⟨g,x⟩:=p;let⟨g',u⟩:=z;let⟨e,hu⟩:=h;let e:g'=g:=e;subst e;rw[qN] at hg;rw[gE];by_cases q:g'=f
   ·rw[XG q] at hg;cases hg
   ·rw[XF q] at hg ⊢;exact .cons ⟨rfl,hu⟩ (g7.put hv t hg)
def jE (C:Addr):LK lO where
 bx l fs:=⟨l,λK H R v=>∃x dx vs,l=[x,dx]/\v= .ref x/\H x∣.ins C dx vs/\H dx∣.own x/\g7 fs K R vs/\x≠dx,λ{K H R0 H' R' v} e s ⟨x,dx,vs,el,ev,h1,h2,h3,nd⟩=>by
  subst el;exact⟨x,dx,vs,rfl,ev,(e x `d).trans h1,(e dx `d).trans h2,h3.mono s,nd⟩,λ{K H R0 v} ⟨x,dx,vs,el,ev,h1,h2,h3,nd⟩ a ha=>by
  subst el;obtain rfl | ha:=Sj.mp ha
  ·rw[h1];exact UW _
  ·rw[Sa.mp ha,h2];exact UW _⟩
 fp:=λ_ _=>rfl
 at_:=λ⟨x,dx,vs,el,ev,_⟩=>⟨x,[dx],el,ev⟩
variable {f C:Addr}{ns:Rx}{P:Ve}{w:World}{mg:Rt}{base:Heap}{fd:Vi}{rr:Rep α}{z:α}
theorem Dj {x dx:Addr}{fs:lO}{o:Option V}(h:(Ent.ob ((jE C).bx [x,dx] fs)).ok K H R o):o∣.ref x/\ya R [x,dx]/\∃vs,H x∣.ins C dx vs/\H dx∣.own x/\g7 fs K R vs/\x≠dx:=by
 let⟨e,hB,hR⟩:=Ci (B:=jE C) h;let⟨x',dx',vs,el,ev,h1,h2,h3,nd⟩:=hB;cases el
 exact⟨e,hR,vs,h1,h2,h3,nd⟩
theorem nX (i:Nat){m f:Str}{x dx:Addr}{fs:lO}{y:α}(hC:bM X.K C ns)(hf:f∈ns)(hΓ:Z[i]?∣(.ob ((jE C).bx [x,dx] fs)))(h:qN fs f∣r.at_ y)(hN:autoParam (At X i m) cb)(hb:fh X (.Name m p1) f:=by rfl):EV X (.Attribute (.Name m p1) f pos) Z r y Z:=λσ H0 R0 H R E Q q=>by
 let⟨ea,hR,vs,h1,h2,h3,nd⟩:=Dj (E.ent i _ hΓ);let⟨v,hl,hv'⟩:=h3.get h;exact eS (vY (aV hN) hb) ⟨.ref x,at_of ea,x,C,dx,vs,v,rfl,h1,hC.cl,hC.no f hf,hl,q v H R E `S hv'⟩
theorem ja (i:Nat){m f:Str}{x dx:Addr}{fs:lO}{y:α}(hC:bM X.K C ns)(hf:f∈ns)(he:EV X e Z r y Γ1)(hΓ1:Γ1[i]?∣(.ob ((jE C).bx [x,dx] fs)))(h:qN fs f=none)(hz:fs.length<1000)(hn:N (Γ1.set i (.ob ((jE C).bx [x,dx] (fs++[(f,r.at_ y)])))))(hN:autoParam (At X i m) cb)(Yn:Vh e (some (.Attribute (.Name m p1) f ap)) pos.line X.env=pure false:=by rfl):W1 X (.Assign [.Attribute (.Name m p1) f ap] e pos) Z N T:=λσ H0 R0 H R E D dn dr=>
 sS (LR (aV hN) aN Yn) (he σ H0 R0 H R E _ λv H1 R1 E1 s1 e1=>by
  let⟨ea,hR,vs,h1,h2,h3,nd⟩:=Dj (E1.ent i _ hΓ1);refine⟨.ref x,at_of ea,x,C,dx,vs,rfl,h1,hC.cl,hC.no f hf,by rw[h3.length];exact hz,?_⟩;refine dn σ _ R1 _ (E1.lu (en:=.ob ((jE C).bx [x,dx] (fs++[(f,r.at_ y)]))) hΓ1 (a:=x) (by show x∈[x,dx];simp) ?_ λb hb=>.inl hb) s1 hn;rw[ea];exact Dy (B:=jE C) ⟨x,dx,_,rfl,rfl,aD,by rw[aF (UT nd)];exact h2,g7.put (r:=r.at_ y) e1 h3 h,nd⟩ hR)
abbrev Dl:=Xh->Addr->List Pk->(lO->Prop)->Prop
def zI (S:Dl)(K:Xh):Sp:=λvs H Q _=>∃R x dx C Yr ps Pd,vs= .ref x::Yr/\au R H/\ya R [x,dx]/\((jE C).bx [x,dx] []).R K H R (.ref x)/\mm K R Yr ps/\S K C ps Pd/\
 ∀H' R' fs,Ext (gp H [x,dx]) R H' R'->((jE C).bx [x,dx] fs).R K H' R' (.ref x)->ya R' [x,dx]->Pd fs->Q .X4 H'
theorem BP {S:Dl}{qual:Str}{N ps:Rx}{k:Nat}(F:dO K x qual st f fd)(Sc:bF N ps (ao st))(len:∀C qs Pd,S K C qs Pd->qs.length+1=ps.length)(Yd:∀(XU:`aK)(A:Vg)(outer:List Env)(s:Va)(H:Hp)(E:XK)(C a dx:Addr)(qs:List Pk)(Pd:lO->Prop),bG k `ar->S K C qs Pd->
  WS (eU eI P w K mg base N qual (ao st) f XU A outer s H E).gW (bE st) (.ob ((jE C).bx [a,dx] [])::fY qs (N.length-1)) (λZ=>∃fs,Z[0]?∣(.ob ((jE C).bx [a,dx] fs))/\Pd fs) (λ_ _ _ _=>False)):eZ P w K mg base eI (k+1) f fd ps (zI S K):=by
 refine F.ok Sc (λvs H Q E h=>?_) `ae
 ·let⟨R,a,dx,C,Yr,qs,Pd,rfl,_,_,_,p,hS,_⟩:=h;rw[Si,p.length];exact len C qs Pd hS
 ·let⟨R,a,dx,C,Yr,qs,Pd,rfl,sR,hR,hB,p,hS,q⟩:=h;let hl:qs.length+1<=N.length:=by
   rw[len C qs Pd hS];have:=congrArg List.length Sc.pre;rw[Sx] at this;cbv
  refine⟨_,iC,Yd XU A outer s H E C a dx qs Pd hr hS (L2.start N (.ref a::Yr)) (gp H [a,dx]) R H R (Bo (B:=jE C) sR hR hB p hl) {nx:=λ_ H'=>Q .X4 H',rt:=Q} (λσ' H' R' Γ' E' _ ⟨fs,hΓ,t⟩=>?_) λv H' R' xx t=>t.elim⟩;let⟨ea,hB',Yu⟩:=Ci (B:=jE C) (E'.ent 0 _ hΓ);exact q H' R' fs E'.ext hB' Yu t
theorem Ai {S:Dl}{c:Str}{k:Nat}{p:Pos}{ps:List Pk}{Pd:lO->Prop}{pn:Rx}(M:Mk X.K C f)(F:eZ X.prog X.w X.K X.mg X.base eI k f fd pn (zI S X.K))(hr:bG (k+1) X.A)(hm:X.mg c∣.ref C)(hb:Binds X.K fd pn [])(ha:HA X (e::es) Z ps Γ1)(hS:S X.K C ps Pd)(hz:∀(fs:lO)(R:Hp)(x dx:Addr)(vs:List (Str×V)),Pd fs->g7 fs X.K R vs->R x∣.ins C dx vs->rr.R X.K R (.ref x) z)(hg:Gl X c:=by rfl)(Yo:YJ c:=by decide)(he:dq X e es:=by rfl)(Yb:fc X pos es:=by rfl):
 EV X (.Call (.Name c p) (e::es) [] pos) Z rr z Γ1:=λσ H0 R0 H R E Q q=>
 eS (HP M F hr hg hm hb .nil kx lU Yo he Yb) (ha σ H0 R0 H R E _ λvs H1 R1 E1 s1 p1 x dx hx hdx X3=>by
  let hd1:∀b,gp (upd (upd H1 dx (.own x)) x (.ins C dx [])) [x,dx] b=H1 b:=λb=>by
   by_cases hb:b∈[x,dx]
   ·rw[kQ hb];obtain rfl | hb:=Sj.mp hb
    ·exact hx.symm
    ·rw[Sa.mp hb];exact hdx.symm
   ·rw[eM hb];simp at hb;rw[aF hb.1,aF hb.2]
  let hR:ya R1 [x,dx]:=λb hb=>by
   obtain rfl | hb:=Sj.mp hb
   ·exact E1.sub.free hx
   ·rw[Sa.mp hb];exact E1.sub.free hdx
  refine⟨R1,x,dx,C,vs,ps,Pd,by rw[Sw],λb o q=>?_,hR,⟨x,dx,[],rfl,rfl,aD,by rw[aF X3,aD],.nil,UT X3⟩,p1,hS,λH' R' fs xx hB Yu hP=>⟨rfl,?_⟩⟩
  ·let b1:b≠x:=λe=>by rw[e,hR x `d] at q;cases q
   let b2:b≠dx:=λe=>by rw[e,hR dx `d] at q;cases q
   rw[aF b1,aF b2];exact E1.sub b o q
  ·rw[show gp (upd (upd H1 dx (.own x)) x (.ins C dx [])) [x,dx]=H1 from funext hd1] at xx;let⟨x',dx',ws,el,ev,h1,h2,h3,nd⟩:=hB;cases el
   let E2:=E1.grow xx;let E3:=E2.sG h2 (Yu dx `d) (E1.ext.h.free hdx) (E1.off hdx);let sd:au R' (upd R' dx (.own x)):=au.fresh (Yu dx `d) _;let hRx:upd R' dx (.own x) x=none:=by rw[aF nd];exact Yu x `d
   let E4:=E3.sG h1 hRx (E1.ext.h.free hx) (E1.off hx);let sx:=sd.trans (au.fresh hRx (.ins C dx ws));exact q (.ref x) H' _ E4 ((s1.trans xx.r).trans sx) (hz fs _ x dx ws hP (h3.mono sx) aD))
theorem kH {f:Str}{r:Rep β}{y:β}(hC:bM X.K C ns)(hf:f∈ns)(he:EV X e Z rr z Γ1)(hz:∀(K:Xh)(R:Hp)(v:V),rr.R K R v z->∃x dx vs u,v= .ref x/\R x∣.ins C dx vs/\vs.lookup f∣u/\r.R K R u y)(hb:fh X e f:=by rfl):EV X (.Attribute e f pos) Z r y Γ1:=λσ H0 R0 H R E Q q=>
 eS (vY aN hb) (he σ H0 R0 H R E _ λv H1 R1 E1 s1 e1=>by
  let⟨x,dx,vs,u,rfl,h1,h2,h3⟩:=hz _ _ _ e1;exact⟨x,C,dx,vs,u,rfl,E1.sub _ _ h1,hC.cl,hC.no f hf,h2,q u H1 R1 E1 s1 h3⟩)
variable {Q:`s}{prog:Ve}{A:Vg}{E:`s}{s:Va}
theorem vU:∀{ws:Rx}{XT:RC},Vals (ws.map V.str) XT->∃l:List (Str×Tok),XT=Wb l/\l.map (·.1)=ws
 | [],_,.nil=>⟨[],rfl,rfl⟩
 | w::ws,_,.cons h t=>by
   let⟨k,rfl⟩:=h;let⟨l,rfl,e⟩:=vU t;exact⟨(w,k)::l,rfl,by rw[SK,e]⟩
theorem xf:∀(l:List (Str×Tok)),Vals ((l.map (·.1)).map V.str) (Wb l)
 | []=>.nil
 | (w,k)::l=>.cons ⟨k,rfl⟩ (xf l)
theorem Ij:z7 X "str.join" (λx xs H Q=>∃(z:Str)(a:Addr)(ws:Rx),x= .str z/\xs=[.ref a]/\H a∣(.lst (ws.map V.str))/\JoinOk z ws=true/\Q (.str (Txt.join z ws)) H):=by
 intro XR s σ H x xs v us Q I rx r h;let⟨z,a,ws,rfl,rfl,hH,XX,q⟩:=h;let⟨t,rfl⟩:=rx;let⟨u,rfl,ru⟩:=r.one;cases ru
 let⟨hz,XT,n,r1,hl,e⟩:=I.nS hH;let⟨l,rfl,el⟩:=vU r1;exact PySem.SC.join ⟨_,e,rfl,_,rfl⟩ el XX λt' k=>⟨.str _,H,I.tok _,⟨_,rfl⟩,q⟩
theorem DT {t u:Tok}(hy:(y.length==0)=false)(hsz:x.length<=U9)(hsz2:(W9 x y).length<=U9)(hq:∀(l:List (Str×Tok))(k:Nat)(n:Nat),l.map (·.1)=W9 x y->Q (.ref ⇑s) {s with toks:=k,heap:=s.heap.push {cls:=.type "list",data:=.seq (Wb l).toArray n}}):
 wpAny `t A (call (.builtin "str.split") [.str x t,.str y u]) Q E s:=by
 cases h1:(decide (x.length<y.length) ||decide (Builtin.Str.strKind x<Builtin.Str.strKind y))
 ·cases hf:(Wy x y 0 x.length (x.length+1)).isEmpty
  ·let es:W9 x y=Builtin.Str.partsBetween x (Wy x y 0 x.length (x.length+1)) y.length:=(XF (ne_true_of_eq_false h1)).trans (XF (ne_true_of_eq_false hf));refine VI WQ (VW _ _ _) WN (WM _ _) (meets_str_split_sep x y t u h1 hy hf hsz (by rw[← es];exact hsz2)) ?_;show wants Q E _ {s with toks:=_,heap:=s.heap.push {cls:=.type "list",data:=.seq (strsFrom s.toks (Builtin.Str.partsBetween x (Wy x y 0 x.length (x.length+1)) y.length)).toArray}};rw[strsFrom_eq];exact hq (numbered s.toks _) _ _ ((numbered_texts _ _).trans es.symm)
  ·exact VI WQ (VW _ _ _) WN (WM _ _) (meets_str_split_not_found x y t u h1 hy hf)
    (hq [(x,t)] s.toks _ ((XF (ne_true_of_eq_false h1)).trans (XG hf)).symm)
 ·exact VI WQ (VW _ _ _) WN (WM _ _) (meets_str_split_cannot_occur x y t u h1)
   (hq [(x,t)] s.toks _ (XG h1).symm)
theorem FT:z7 X "str.split" (λx xs H Q=>∃z y:Str,x= .str z/\xs=[.str y]/\(y.length==0)=false/\z.length<=U9/\(W9 z y).length<=U9/\∀a,H a=none->Q (.ref a) (upd H a (.lst ((W9 z y).map V.str)))):=by
 intro XR s σ H x xs v us Q I rx r h;let⟨z,y,rfl,rfl,hy,hz,hz2,q⟩:=h;let⟨t,rfl⟩:=rx;let⟨u,rfl,ru⟩:=r.one;let⟨tu,rfl⟩:=ru;refine DT hy hz hz2 λl k n el=>?_;let I1:Inv X XR σ H {s with toks:=k,heap:=s.heap.push {cls:=.type "list",data:=.seq (Wb l).toArray n}}:=I.kept (t':=k) λb o e=>WR _ e;let hn:H ⇑s=none:=I.fresh;refine⟨.ref ⇑s,_,adopt (o:=.lst ((W9 z y).map V.str)) I1 (I.j8 (Uw _) hn) I.sz ⟨?_,Wb l,n,?_,WU _ rfl⟩,rfl,q _ hn⟩
 ·rw[R9];exact hz2
 ·rw[← el];exact xf l
theorem Jp {a:Expr}{ws:Rx}(ha:EV X a Z aq x Γ1)(he:EV X e Γ1 (ae aq) ws Γ2)(XX:JoinOk x ws=true)(X0:fh X a "join":=by rfl)(Yf:l7 X cp [e]:=by rfl)(XZ:`Z=true:=by rfl)(hs:dq X e []:=by rfl):EV X (.Call (.Attribute a "join" ap) [e] [] cp) Z aq (Txt.join x ws) Γ2:=by
 intro σ H0 R0 H R E Q q;refine eS (gR PySem.F.plainAttrs_str PySem.F.slot_str_join PySem.F.type_str_join Ij aN `bh X0 Yf XZ hs rfl) `A;cases e1
 refine⟨rfl,he σ H0 R0 H1 R1 E1 _ λu H2 R2 E2 s2 e2=>?_⟩;let⟨b,vs,rfl,hb,pp,hz⟩:=e2;let ev:=nv pp;subst ev;exact⟨x,b,ws,rfl,rfl,E2.sub _ _ hb,XX,q _ H2 R2 E2 `E rfl⟩
theorem qo {K:Xh}{R:Hp}:∀ws:Rx,PySem.Paired (aq.R K R) (ws.map V.str) ws
 | []=>.nil
 | _::r=>.cons rfl (qo r)
theorem Ce {a:Expr}(ha:EV X a Z aq x Γ1)(he:EV X e Γ1 aq y Γ2)(hy:(y.length==0)=false)(hz:x.length<=U9)(hz2:(W9 x y).length<=U9)(X0:fh X a "split":=by rfl)(Yf:l7 X cp [e]:=by rfl)(XZ:`Z=true:=by rfl)(hs:dq X e []:=by rfl):ba X (.Call (.Attribute a "split" ap) [e] [] cp) Z aq (W9 x y) Γ2:=by
 intro σ H0 R0 H R E Q q;refine eS (gR PySem.F.plainAttrs_str PySem.F.slot_str_split PySem.F.type_str_split FT aN `bh X0 Yf XZ hs rfl) `A;cases e1
 refine⟨rfl,he σ H0 R0 H1 R1 E1 _ λu H2 R2 E2 s2 e2=>?_⟩;cases e2
 exact⟨x,y,rfl,rfl,hy,hz,hz2,λd hd=>q d _ _ R2 (E2.grow (Ext.d8 E2.sub hd _)) `E aD (E2.sub.free hd) (E2.ext.h.free hd) (E2.off hd) (qo _) hz2⟩
variable {c:Nat}
theorem xp {c:Nat}:∀{a b x y:List Nat},c∉a->c∉b->a++c::x=b++c::y->a=b/\x=y
 | [],[],_,_,_,_,h=>⟨rfl,(List.cons.inj h).2⟩
 | [],d::b,_,_,_,hb,h=>XE (List.cons.inj h).1 (λe=>hb (e▸Se))
 | d::a,[],_,_,ha,_,h=>XE (List.cons.inj h).1 (λe=>ha (e▸Se))
 | d::a,e::b,x,y,ha,hb,h=>by
   let⟨h1,h2⟩:=List.cons.inj h;let⟨q1,q2⟩:=xp (λz=>ha (Sb _ z)) (λz=>hb (Sb _ z)) h2;exact⟨by rw[h1,q1],q2⟩
theorem xj {a b y:List Nat}(ha:c∉a)(h:a=b++c::y):False:=ha (by rw[h];exact Sk _ Se)
theorem yW (x y:Str):(x++y).cps.toList=x.cps.toList++y.cps.toList:=by show(x.cps++y.cps).toList=_;simp
theorem n5 (c:Nat)(x y:Str)(r:Rx):(W7 ⟨#[c]⟩ (x::y::r)).cps.toList=x.cps.toList++c::(W7 ⟨#[c]⟩ (y::r)).cps.toList:=by
 rw[W7,yW,yW];simp;intro h;cases h
theorem Al (h:x.cps.toList=y.cps.toList):x=y:=by
 cases x;cases y
 congr 1;exact Array.toList_inj.mp h
theorem wU {c:Nat}:∀{ws us:Rx},ws≠[]->us≠[]->(∀w∈ws,c∉w.cps.toList)->(∀u∈us,c∉u.cps.toList)->(W7 ⟨#[c]⟩ ws).cps.toList=(W7 ⟨#[c]⟩ us).cps.toList->ws=us
 | [],_,h,_,_,_,_=>XE rfl h
 | _,[],_,h,_,_,_=>XE rfl h
 | [x],[y],_,_,_,_,h=>by rw[show x=y from Al h]
 | [x],y::z::r,_,_,hx,_,h=>by
   rw[n5] at h;exact XE h λh=>xj (hx x Se) h
 | x::z::r,[y],_,_,_,hy,h=>by
   rw[n5] at h;exact XE h.symm λh=>xj (hy y Se) h
 | x::x2::r,y::y2::q,_,_,hx,hy,h=>by
   rw[n5,n5] at h;let⟨h1,h2⟩:=xp (hx x Se) (hy y Se) h;rw[Al h1,wU (List.cons_ne_nil _ _) (List.cons_ne_nil _ _) (λw hw=>hx w (Sb _ hw)) (λw hw=>hy w (Sb _ hw)) h2]
theorem Bn {ws:Rx}(h:ws≠[])(hf:∀w∈ws,c∉w.cps.toList):W9 (W7 ⟨#[c]⟩ ws) ⟨#[c]⟩=ws:=by
 refine wU (c:=c) (λe=>?_) h (StrLaws.split_free _ c) hf (by rw[StrLaws.join_split]);have:=split_pos (W7 ⟨#[c]⟩ ws) ⟨#[c]⟩;rw[e] at this;exact XE this `c
theorem F5:(" ":Str)=⟨#[32]⟩:=`b
theorem zt (x:Str)(ws:Rx):Txt.join x ws=W7 x ws:=StrLaws.glued_eq_join x ws
def Pu (x:Str):It:=⟨λi _=>i<x.cps.size,λi H v H'=>H'=H/\v= .str (mE x i),λi _=>x.cps.size<=i⟩
theorem ET (x:Str)(t:Tok)(it:Addr):Turn P w K tg (Pu x) [it] it (λi h=>h.IsStrIter it "str_ascii_iterator" x t i) where
 mem:=`d
 obj:=λi h st b hb=>by
  let e:b=it:= ~~~hb
  subst e;let⟨o,e,c,d⟩:=st;exact⟨o,e,λv z=>by rw[d] at z;cases z⟩
 keep:=λi h h' st k=>by
  let⟨o,e,r⟩:=st;exact⟨o,k it `d o e,r⟩
 item:=by
  intro X hP hw hK hc i XR s σ H E I hf st hg;subst hP hw hK;let⟨f0,f1,f2,f3,f4,f5⟩:=hf it `d;let W:=Walks.strAscii (prog:=X.prog) (w:=X.w) (I.ok.hd hc) it x t;refine W.item i s _ _ hg st λv h' tk hv Zq kk=>?_;let⟨c,u,hx,rfl⟩:=hv;let I1:Inv X XR σ H {s with heap:=h',toks:=tk}:=I.turned (λb o hb e=>kk b o (~~~hb) e) f0 f1 f3 f4 f5;let⟨o,e,cc,d⟩:=id Zq;let ZR:mE x i=⟨#[c]⟩:=by unfold mE;rw[show x.cps.getD i 0=c by rw[Array.getD_eq_getD_getElem?,hx];rfl]
  exact⟨_,rfl,pE (s:={s with heap:=h',toks:=tk}) e cc d `c ⟨.str (mE x i),H,I1,⟨u,by rw[ZR]⟩,⟨rfl,rfl⟩,Zq,λb hb=>(hf b hb).1⟩⟩
 done:=by
  intro X hP hw hK hc i XR s σ H E I hf st hg;subst hP hw hK;let⟨f0,f1,f2,f3,f4,f5⟩:=hf it `d;exact wpAny_pyNext_ascii_end (I.ok.hd hc) st (by have:x.cps.size<=i:=hg;simp[this]) λh' eb=>⟨rfl,I.turned (t':=s.toks) (λb o hb e=>eb b o hb e) f0 f1 f3 f4 f5⟩
 self:=λ_ _ _ _ _ st h=>wpAny_pyIter_striter_ascii st h
def Q2 (tl:TE):TI:=λσ H R=>tl σ H λx H1=>∃z:Str,x= .str z/\z.cps.all (· < 128)=true/\R (Pu z) H1
theorem JK {l:Expr}{tl:TE}(hl:PE X l tl):PI X tg l (Q2 tl):=by
 intro XR s σ H R I h;refine a8 (hl XR s σ H _ I h) λv s1 ⟨x,H1,I1,r1,q1⟩=>?_;let⟨z,e,ha,q⟩:=q1;subst e;let⟨t,rfl⟩:=r1;refine wpAny_pyIter_ascii ha ?_;refine⟨⇑s1,[⇑s1],_,_,H1,rfl,I1.kept (t':=s1.toks) λb o e=>WR _ e,ET z t _,⟨_,WU _ rfl,rfl,rfl⟩,λb hb=>?_,q⟩;let e:b=⇑s1:= ~~~hb
 subst e;exact I1.j8 (Uw _) (I1.XX.fresh (Uw _))
noncomputable def iF (x:Str):Rx:=(Sm x.cps.size).map (mE x)
theorem BK {a:Expr}(ha:EV X a Z aq x Γ1)(hx:x.cps.all (· < 128)=true)(hz:x.cps.size<=U9):IV X tg a Z aq (iF x) Γ1:=by
 refine⟨_,JK aN,λσ H0 R0 H R E Rq q=>ha σ H0 R0 H R E _ λv H1 R1 E1 s1 e1=>?_⟩;cases e1
 refine⟨x,rfl,hx,q _ H1 R1 E1 s1 (by unfold iF;rw[R9,SX];exact hz) λH' R' sR sH i=>⟨λy hy=>?_,λhi=>?_⟩⟩
 ·unfold iF at hy;rw[Sf] at hy;let⟨j,hj,rfl⟩:=UU.mp hy;let⟨hl,e⟩:=R6.mp hj;rw[SX] at hl;rw[List.getElem_range] at e;subst e;refine⟨hl,λv' H2 hy=>?_⟩;let⟨rfl,rfl⟩:=hy;exact⟨R',Ext.refl sH,rfl⟩
 ·unfold iF at hi;rw[R9,SX] at hi;exact hi
theorem oV {y:α}(he:EV X e Z r y Γ1)(h:N Γ1)(Yn:Vh e none pos.line X.env=pure false:=by rfl):W1 X (.Expr e pos) Z N T:=λσ H0 R0 H R E D dn dr=>
 sS (dQ aN Yn) (he σ H0 R0 H R E _ λv H1 R1 E1 s1 e1=>dn σ H1 R1 _ E1 s1 h)
theorem BM (i:Nat){a c:Int}(he:EV X e Z ag c Z)(hΓ:Z[i]?∣.im ag a)(h:N (Z.set i (.im ag (a+c))))(hN:X.N.Nodup:=by first | assumption | decide)(hi:X.N[i]?∣x:=by rfl)(hx:`aj)(hf:autoParam (fM X x) YU):
 W1 X (.AugAssign `h .Add e pos) Z N T:=λσ H0 R0 H R E D dn dr=>by
 let⟨v,ea,hr⟩:=E.ent i _ hΓ;cases (show v=V.int a from hr)
 refine sS (Lc hN hi hx aN KO hf) ⟨.int a,at_of ea,he σ H0 R0 H R E _ λu H2 R2 E2 s2 e2=>?_⟩;cases (show u=V.int c from e2)
 exact⟨a,c,rfl,rfl,dn _ H2 R2 _ (E2.set i (r:=ag) (x:=a+c) rfl) s2 h⟩
theorem Ht {r':Rep β}{xs:`u}{ys:List β}(hij:i≠j)(hΓ:`aB)(hj:Z[j]?∣.mu r' ys)(hz:xs.length<=U9)(hz':ys.length<=U9)(σ:St)(H0 R0 H R:Hp)(E:`aU):ar X.K σ H H H H (((Z.map nY).set i (.im (ae r) xs)).set j (.im (ae r') ys)):=by
 let⟨a,vs,ea,ha,hR,pp⟩:=E.ent i _ hΓ;let⟨b,ws,eb,hb,hRb,pq⟩:=E.ent j _ hj;let E1:=E.YI.ma (i:=i) (e0:=.no) (en:=.im (ae r) xs) (by rw[Sf,hΓ];rfl) ⟨.ref a,ea,a,vs,rfl,ha,Paired.map (λ_ _=>r.mono E.sub) pp,hz⟩ λb w=>by cases w
 exact E1.ma (i:=j) (e0:=.no) (by rw[SF hij,Sf,hj];rfl) ⟨.ref b,eb,b,ws,rfl,hb,Paired.map (λ_ _=>r'.mono E.sub) pq,hz'⟩ λb w=>by cases w
theorem D2:fm X (Vk .LtE) (λx y H Q=>∃i j,x= .str i/\y= .str j/\Q (.bl (!decide (j.cps.toList<i.cps.toList))) H):=by
 intro XR s σ H x y v u Q I rx ry h;let⟨i,j,rfl,rfl,q⟩:=h;let⟨t,rfl⟩:=rx;let⟨t',rfl⟩:=ry;exact PySem.P.le_str (bU I q rfl)
theorem Hj :iU X .LtE aq aq x y (!decide (y.cps.toList<x.cps.toList)):=⟨_,D2,λR H v u Q _ e1 e2 q=>by
 cases e1;cases e2
 exact⟨x,y,rfl,rfl,q⟩⟩
theorem Di {xs:Rx}:iU X .NotIn aq (ae aq) x xs (!decide (x∈xs)):=⟨_,xn,λR H v u Q s e1 e2 q=>by
 cases e1
 let⟨a,vs,rfl,hq,p,_⟩:=e2;let e:=nv p;subst e;exact⟨a,_,rfl,.inl (bw.of (s _ _ hq)),rfl,l9 xs,by rw[XG rfl,nT];exact q⟩⟩
theorem xM {xs:`u}(h:EV X e Z (ae r) xs Γ1)(he:∀whole,VL e X.env whole=(do let v ← whole;VR e.pos;Vu [v] (truthy v)):=by intro _;rfl):TV X e Z (!xs.isEmpty) Γ1:=by
 intro σ H0 R0 H R E Q q;refine tS (yt aN he) (h σ H0 R0 H R E _ λv H1 R1 E1 s1 e1=>?_);let⟨a,vs,rfl,ha,pp,_⟩:=e1;refine⟨!xs.isEmpty,.inl ⟨vs,bw.of (E1.sub _ _ ha),?_⟩,q H1 R1 E1 s1⟩;cases pp<;>rfl
theorem wG {α:Type}(l:`u):∀m,m<=l.length->(Sm m).filterMap (l[·]?)=l.take m
 | 0,_=>rfl
 | m+1,h=>by
   rw[TB,List.filterMap_append,wG l m `a,SS];simp[R7 (show m<l.length by cbv)]
def iD (x:Str):Str:=⟨(x.cps.toList.take 7).toArray⟩
theorem Rr:∀n,n<=8->Builtin.Str.strSliceIndices none (some 7) 1 n=Sm (min n 7):=by
 intro n hn;have:∀j:Fin 9,Builtin.Str.strSliceIndices none (some 7) 1 j.val=Sm (min j.val 7):=`b
 exact this ⟨n,`a⟩
theorem OI (hx:x.length<=8):((Sm (min x.length 7)).filterMap (x.cps[·]?)).toArray=(x.cps.toList.take 7).toArray:=by
 let hl:x.cps.toList.length=x.length:=by simp[Str.length]
 let e:(Sm (min x.length 7)).filterMap (x.cps[·]?)=(Sm (min x.length 7)).filterMap (x.cps.toList[·]?):=by
  congr 1;funext i;simp
 rw[e,wG _ _ `a];congr 1;by_cases h:x.length<=7
 ·rw[Nat.min_eq_left h,← hl,SW,Tr `a]
 ·rw[Nat.min_eq_right `a]
def Q5:V->Option Int->Option Int->Hp->VK->Prop:=λx lo hi H Q=>∃z:Str,x= .str z/\lo=none/\hi∣7/\z.length<=8/\Q (.str (iD z)) H
theorem Rk :B3 X Q5:=by
 intro XR s σ H x v vl vu lo hi sl Q I rx hs pl pu h;let⟨z,rfl,rfl,rfl,hz,q⟩:=h;let⟨t,rfl⟩:=rx;cases pl
 cases pu with
 | int _ tu=>
   refine⟨"str",_,PySem.F.slot_str_getitem.lookup,VW _ _ _,wpAny_getItem_str_slice (l:=none) (u:=some (7,tu)) (st:=none) hs rfl ?_⟩;let e:slicePicked z none (some (7,tu)) none=Sm (min z.length 7):=Rr z.length hz;unfold sliceMade;rw[e,SX];split
   ·rename_i hh;let hl:min z.length 7=z.length:= ~~~hh
    let hp:iD z=z:=by
     unfold iD;rw[Tr (by simp[Str.length] at hl ⊢;cbv)]
    rw[hp] at q;exact⟨.str z,H,I,⟨t,rfl⟩,q⟩
   ·rw[OI hz];refine⟨?_,.str (iD z),H,I.tok _,⟨_,rfl⟩,q⟩;show(List.take 7 z.cps.toList).toArray.size<=U9;rw[Ss,Sx];exact Ux (UK _ _) `c
theorem KG {a:Expr}(ha:EV X a Z aq x Z)(hx:x.length<=8):EV X (.Subscript a (.Slice none (some (.Constant (.int 7) j p1)) none p2) pos) Z aq (iD x) Z:=by
 intro σ H0 R0 H R E Q q;let⟨tl,pl,kl⟩:=(ov_none:OV X none Z none);let⟨th,ph,kh⟩:=(ov_some ev_int:OV X (some (.Constant (.int 7) j p1)) Z (some 7));refine eS (lI Rk aN pl ph) `H;cases e1
 exact⟨x,rfl,rfl,rfl,hx,q _ _ _ E3 (s1.trans (s2.trans s3)) rfl⟩
theorem pG (i:Nat)(h:N (Z.set i (.di [])))(hN:X.N.Nodup:=by first | assumption | decide)(hi:X.N[i]?∣x:=by rfl)(hx:`aj)(hs:Vh (.Dict [] [] p2) (some `h) pos.line X.env=pure false:=by rfl)(hf:autoParam (fM X x) YU):
 W1 X (.Assign [.Name x p1] (.Dict [] [] p2) pos) Z N T:=λσ H0 R0 H R E D dn dr=>by
 refine sS (jV hN hi hx Fi hs hf) λp hp=>?_;let E1:=E.grow (Ext.d8 E.sub hp (.dK (cS [])));exact dn _ _ R _ (E1.yk (u:=.dK (cS [])) (en:=.di []) i ⟨p,rfl,aD,E.sub.free hp⟩ (E.ext.h.free hp) λj e _ q w=>E.off hp j e q w) `S h
theorem x9 {R:Hp}:∀{xs:Rx}{vs:`P},eV R vs (xs.map PV.str)->vs=xs.map V.str
 | [],_,.nil=>rfl
 | x::xs,_,.cons h t=>by cases h;rw[x9 t];rfl
theorem yS {k:Nat}{xs:Rx}(h:EA X es Z av (xs.map PV.str) Γ1)(hz:xs.length<=U9):EV X (.Tuple es k pos) Z xH xs Γ1:=
 EV.re (fP h (by rw[R9];exact hz)) λK R v e=>by
   cases e with
   | tup hp pp=>rw[x9 pp] at hp;exact⟨_,rfl,dY.of hp⟩
def Gd (lo:Int)(n:Nat):It:=⟨λi _=>i<n,λi H x H'=>H'=H/\x= .int (lo-i),λi _=>n<=i⟩
theorem CQ (it:Addr)(lo:Int)(n:Nat):Turn P w K tg (Gd lo n) [it] it (λi h=>Wc h it (lo+(i:Nat)*(-1)) ((n:Int)-(i:Nat)) (-1)) where
 mem:=`d
 obj:=λi h st b hb=>by
  let e:b=it:= ~~~hb
  subst e;exact⟨_,st,λv z=>by
   let z':Data.fields _=Data.cell v:=z;cases z'⟩
 keep:=λi h h' st k=>k it `d _ st
 item:=by
  intro X hP hw hK hc i XR s σ H E I hf st hg;subst hP hw hK;let⟨f0,f1,f2,f3,f4,f5⟩:=hf it `d;let W:=Walks.range (prog:=X.prog) (w:=X.w) (I.ok.hd hc) it lo (-1) n;refine W.item i s _ _ hg st λv h' tk hv Zq kk=>?_;let⟨t,rfl⟩:=hv;let I1:Inv X XR σ H {s with heap:=h',toks:=tk}:=I.turned (λb o hb e=>kk b o (~~~hb) e) f0 f1 f3 f4 f5;refine⟨_,rfl,pE (s:={s with heap:=h',toks:=tk}) (n:="range_iterator") Zq rfl rfl `c ⟨.int (lo-i),H,I1,⟨t,?_⟩,⟨rfl,rfl⟩,Zq,λb hb=>(hf b hb).1⟩⟩;rw[show lo+(i:Int)*(-1)=lo-(i:Int) by cbv]
 done:=by
  intro X hP hw hK hc i XR s σ H E I hf st hg;subst hP hw hK;let⟨f0,f1,f2,f3,f4,f5⟩:=hf it `d;exact wpAny_pyNext_range_end (I.ok.hd hc) st (by have:n<=i:=hg;cbv) λh' eb=>⟨rfl,I.turned (t':=s.toks) (λb o hb e=>eb b o hb e) f0 f1 f3 f4 f5⟩
 self:=λ_ _ _ _ _ st h=>wpAny_pyIter_rangeiter st h
theorem uT {a b:Int}:Wt a b (-1)=((a-b).toNat:Int):=by
 unfold Wt;rw[XF `c];split
 ·rw[show -(-1:Int)=1 by decide,Int.ediv_one];cbv
 ·cbv
theorem small_down {a b:Int}(ha: -(2 ^ 40)<=a)(YE:a<2 ^ 40)(hb: -(2 ^ 40)<=b)(Y0:b<2 ^ 40):Builtin.Range.small a b (-1)=true:=by
 unfold Builtin.Range.small;rw[uT];simp only[Builtin.Range.rangeFitsLong,RJ,RN,decide_eq_true_eq,beq_iff_eq,show¬(-1:Int)>0 by decide,if_false];cbv
variable {lo:Int}{ta:TA}{R1:Hp}
def Nn (ta:TA):TI:=λσ H R=>ta σ H λvs H1=>∃i j:Int,vs=[.int i,.int j,.int (-1)]/\(-(2 ^ 40)<=i/\i<2 ^ 40/\ -(2 ^ 40)<=j/\j<2 ^ 40)/\R (Gd i (i-j).toNat) H1
theorem IZ {XR:Ru}{R:It->Hp->Prop}{hi:Int}{t u v:Tok}{tk:Nat}(I:`j)(h1: -(2 ^ 40)<=lo)(h2:lo<2 ^ 40)(h3: -(2 ^ 40)<=hi)(h4:hi<2 ^ 40)(q:R (Gd lo (lo-hi).toNat) H):wpAny `f X.A (pyIter (.ref ⇑s)) (Kw X XR σ tg R) E {s with heap:=s.heap.push {cls:=.type "range",data:=.fields #[.int lo t,.int hi u,.int (-1) v]},toks:=tk}:=by
 refine wpAny_pyIter_range (IsRange.new ..) (small_down h1 h2 h3 h4) ?_;let I1:Inv X XR σ H {s with heap:=s.heap.push {cls:=.type "range",data:=.fields #[.int lo t,.int hi u,.int (-1) v]},toks:=tk}:=I.kept λb o e=>WR _ e;refine⟨(s.heap.push {cls:=.type "range",data:=.fields #[.int lo t,.int hi u,.int (-1) v]}).objs.size,[(s.heap.push {cls:=.type "range",data:=.fields #[.int lo t,.int hi u,.int (-1) v]}).objs.size],_,_,H,rfl,
  I1.kept (t':=tk) λb o e=>WR _ e,CQ _ lo (lo-hi).toNat,?_,λb hb=>?_,q⟩
 ·let e1:lo+((0:Nat):Int)*(-1)=lo:=`d
  let e2:(((lo-hi).toNat:Nat):Int)-((0:Nat):Int)=Wt lo hi (-1):=by rw[uT];simp
  show Wc _ _ (lo+((0:Nat):Int)*(-1)) ((((lo-hi).toNat:Nat):Int)-((0:Nat):Int)) (-1);rw[e1,e2];exact WU _ rfl
 ·let e:b=(s.heap.push {cls:=.type "range",data:=.fields #[.int lo t,.int hi u,.int (-1) v]}).objs.size:= ~~~hb
  subst e;exact I1.j8 (Uw _) (I1.XX.fresh (Uw _))
theorem Ct {a c:Expr}{p:Pos}(hg:Gl X "range")(hm:X.mg "range"=none)(ha:PA X [a,b,c] ta)(hs:Vf [a,b,c] X.env=(false,eval a X.env)::Vf [b,c] X.env:=by rfl)(Yb:fc X pos [b,c]:=by rfl):
 PI X tg (.Call (.Name "range" p) [a,b,c] [] pos) (Nn ta):=by
 intro XR s σ H R I h;refine Call_ (ji I hg hm U7 (U1 `V hs Yb));let⟨i,j,e,⟨q1,q2,q3,q4⟩,q⟩:=q1;subst e;cases r1 with
 | cons r rr=>
   cases rr with
   | cons r' rr=>
     cases rr with
     | cons r'' rr=>
       cases rr
       let⟨t,rfl⟩:=r;let⟨t',rfl⟩:=r';let⟨t'',rfl⟩:=r'';exact call_range_3 `c (IZ I1 q1 q2 q3 q4 q) (.inl (PyProof.noPylong_of_log2 `b))
noncomputable def downs (lo:Int)(n:Nat):Rv:=(Sm n).map λ(k:Nat)=>lo-(k:Int)
theorem jn (lo:Int)(n:Nat):(downs lo n).length=n:=by unfold downs;rw[R9,SX]
theorem vV {x:Int}(h:(downs lo n)[i]?∣x):i<n/\x=lo-(i:Int):=by
 let hi:i<n:=by have:=(R6.mp h).1;rwa [jn] at this
 refine⟨hi,?_⟩;unfold downs at h;rw[Sf,SY hi] at h;exact(Option.some.inj h).symm
theorem EH (lo:Int)(n:Nat):Src K (Gd lo n) R1 ag (downs lo n):=λH' R' sR sH i=>⟨λx hx=>by
 let⟨h1,rfl⟩:=vV hx;refine⟨h1,λv H2 hy=>?_⟩;let⟨rfl,rfl⟩:=hy;exact⟨R',Ext.refl sH,rfl⟩,λhi=>by rw[jn] at hi;exact hi⟩
theorem Dk {a c:Expr}{m n:Int}(hm:X.mg "range"=none)(ha:HA X [a,b,c] Z [⟨ag,m⟩,⟨ag,n⟩,⟨ag, -1⟩] Γ1)(hn: -1000000<=m/\m<=1000000/\ -1000000<=n/\n<=1000000)(hs:Vf [a,b,c] X.env=(false,eval a X.env)::Vf [b,c] X.env:=by rfl)(Yb:fc X p2 [b,c]:=by rfl)(hg:Gl X "range":=by rfl):IV X tg (.Call (.Name "range" p1) [a,b,c] [] p2) Z ag (downs m (m-n).toNat) Γ1:=by
 refine⟨_,Ct hg hm lU hs Yb,λσ H0 R0 H R E Rq q=>ha σ H0 R0 H R E _ λvs H1 R1 E1 s1 e1=>?_⟩;let e:vs=[.int m,.int n,.int (-1)]:=by
  cases e1 with
  | cons a1 t=>cases t with
    | cons a2 t=>cases t with
      | cons a3 t=>cases t;cases a1;cases a2;cases a3;rfl
 subst e;exact⟨m,n,rfl,⟨`a,`a,`a,`a⟩,q _ H1 R1 E1 s1 (by rw[jn];exact Ux (show(m-n).toNat<=2000000 by cbv) `c) (EH m (m-n).toNat)⟩
theorem ba.cst {xs ys:`u}(h:ba X e Z r xs Γ1)(q:xs=ys):ba X e Z r ys Γ1:=q▸h
theorem HY {f:Expr}{D:List (Str×Rx)}{k:Str}{zs:Rx}(hD:nH X.prog X.w X.K X.mg x D)(he:EV X e Z aq k Γ1)(hf:EV X f Γ1 xH zs Γ2)(hg:Gl X x:=by rfl)(hd:YJ x:=by decide)(m:M2 X `h "get" ap e f cp:=by exact⟨rfl,rfl,rfl,rfl⟩):EV X (.Call (.Attribute `h "get" ap) [e,f] [] cp) Z xH ((cM D k).getD zs) Γ2:=by
 intro σ H0 R0 H R E Q q;let⟨a,o,vs,hm,hk,hdo,hs,hp⟩:=hD;let pe:PE X (.Call (.Attribute `h "get" ap) [e,f] [] cp) (λσ H Q=>fU X e σ H λy H1=>y= .str k/\fU X f σ H1 λz H2=>(∀b,cM D k≠none->Vw vs (Sum.inr k:Key)∣.ref b->Q (.ref b) H2)/\(cM D k=none->Q z H2)):=by
  intro XR s σ H Q I h;refine wpAny_Call_method m.base m.few m.line PySem.F.plainAttrs_dict PySem.F.slot_dict_get PySem.F.type_dict_get (a8 (jI (v:=.ref a) hg hm rfl hd XR s σ H (λv H2=>v= .ref a/\H2=H) I ⟨rfl,rfl⟩) λu s1 ⟨x1,H1,I1,rx,e3,e4⟩=>?_);subst e3;subst e4;obtain rfl:u=Xa a:=rx;let dd:s1.heap.DictOf (cE X.prog X.w) a vs:=WY.mpr ⟨o,I1.gu a o hk,hdo⟩;refine⟨dd.typeIs,λb q=>?_,?_⟩
  ·cases q
   let⟨ob,_,_,h1,h2,_⟩:=dd;exact⟨ob,h1,h2.2.1⟩
  rw[m.trees];refine WA rfl (Calls.evalArgs_plain (WC (a8 (h XR s1 I1) λiv s2 ⟨y,H2,I2,ry,ey,q2⟩=>
   WC (a8 (q2 XR s2 I2) λfv s3 ⟨z,H3,I3,rz,q3,q4⟩=>Calls.spliced_nil ?_))))
  subst ey;let dd3:s3.heap.DictOf (cE X.prog X.w) a vs:=WY.mpr ⟨o,I3.gu a o hk,hdo⟩;refine call_meetsIn PySem.F.slot_dict_get dd3.typeIs PySem.F.entry_dict_get (PySem.F.args_dict_get_3 _ _ _) (meets_dict_get_default (cE X.prog X.w) a (kC (k:=Sum.inr k) ry) hs fv) ⟨_,dd3.mapOf,?_⟩;obtain⟨h1,h2⟩ | ⟨ys,b,h1,h2,_⟩:=vw (x:=k) hp
  ·rw[h2];exact⟨z,_,I3.tok _,rz,q4 h1⟩
  ·rw[h2];exact⟨.ref b,_,I3.tok _,rfl,q3 b (by rw[h1];exact UW _) h2⟩
 refine eS pe (he σ H0 R0 H R E _ λv H1 R1 E1 s1 e1=>⟨e1,hf σ H0 R0 H1 R1 E1 _ λv2 H2 R2 E2 s2 e2=>⟨λb hb hv=>?_,λhn=>?_⟩⟩)
 ·obtain⟨h1,h2⟩ | ⟨ys,b',h1,h2,o',XT,n,h3⟩:=vw (x:=k) hp
  ·exact XE h1 hb
  ·rw[hv] at h2;cases h2
   refine q _ H2 R2 E2 `E ?_;rw[h1];exact⟨b,rfl,.inr ⟨o',XT,n,h3⟩⟩
 ·refine q _ H2 R2 E2 `E ?_;rw[hn];exact e2
def O7 (K:Xh)(a:Addr)(n:Nat):It:=
 ⟨λi H=>∃xs,bw K H a xs/\xs.length=n/\i<n,λi H x H'=>H'=H/\∀xs,bw K H a xs->xs[n-1-i]?∣x,λi _=>n<=i⟩
theorem FV (a it:Addr)(n:Nat):Turn P w K tg (O7 K a n) [it] it (λi h=>i<=n/\h.IsRevIter it a ((n:Int)-1-(i:Int))) where
 mem:=`d
 obj:=λi h st b hb=>by
  let e:b=it:= ~~~hb
  subst e;let⟨_,o,e,c,d⟩:=st;exact⟨o,e,λv z=>by rw[d] at z;cases z⟩
 keep:=λi h h' st k=>⟨st.1,st.2.at λo e=>k it `d o e⟩
 item:=by
  intro X hP hw hK hc i XR s σ H E I hf st hg;subst hP hw hK;let⟨xs,hq,hl,hi⟩:=hg;let⟨XT,rv,p,hz⟩:=I.list hq;let hx:xs[n-1-i]?=some xs[n-1-i]:=R7 `a;let⟨u,hu,ru⟩:=rv.get hx;let⟨f0,f1,f2,f3,f4,f5⟩:=hf it `d;let Zs:s.heap.IsRevIter it a (((n-1-i:Nat)):Int):=by rw[show(((n-1-i:Nat)):Int)=(n:Int)-1-(i:Int) by cbv];exact st.2
  refine wpAny_pyNext_rev_item Zs p.isList (x:=u) (~~~hu) λh' Zq sb=>?_;let I1:Inv X XR σ H {s with heap:=h'}:=I.turned (t':=s.toks) (λb o hb e=>(sb.2 b hb).trans e) f0 f1 f3 f4 f5;let st2:h'.IsRevIter it a ((n:Int)-1-((i+1:Nat):Int)):=by rw[show(n:Int)-1-((i+1:Nat):Int)=(((n-1-i:Nat)):Int)-1 by cbv];exact Zq
  let⟨o,e,c,d⟩:=id st2;exact⟨u,rfl,pE (s:={s with heap:=h'}) e c d `c ⟨_,H,I1,ru,⟨rfl,λys hy=>by rw[I.oa hy hq];exact hx⟩,⟨`a,st2⟩,λb hb=>(hf b hb).1⟩⟩
 done:=by
  intro X hP hw hK hc i XR s σ H E I hf st hg;subst hP hw hK;let⟨f0,f1,f2,f3,f4,f5⟩:=hf it `d;let⟨Y5,st⟩:=st;let e:(n:Int)-1-(i:Int)= -1:=by have:n<=i:=hg;cbv
  rw[e] at st;exact wpAny_pyNext_rev_end (I.ok.hd hc) st λh' eb=>⟨rfl,I.turned (t':=s.toks) (λb o hb e=>eb b o hb e) f0 f1 f3 f4 f5⟩
 self:=λ_ _ _ _ _ st h=>wpAny_pyIter_revIter st.2 h
variable {ks:Rx}
def Rj (K:Xh)(ta:TA):TI:=λσ H R=>ta σ H λvs H1=>∃a xs,vs=[.ref a]/\bw K H1 a xs/\R (O7 K a xs.length) H1
theorem KY {a:Expr}{p:Pos}(hg:Gl X "reversed")(hm:X.mg "reversed"=none)(ha:PA X [a] ta)(hs:fW X a:=by rfl):PI X tg (.Call (.Name "reversed" p) [a] [] pos) (Rj X.K ta):=by
 intro XR s σ H R I h;refine Call_ (ji I hg hm PyProof.Rows.boot_reversed (U1 `V hs rfl));let⟨l,xs,e,hq,q⟩:=q1;subst e;cases r1 with
 | cons r rr=>
   cases rr
   cases r
   let⟨XT,rv,pl,hz⟩:=I1.list hq;let hl:=rv.length;refine call_reversed_list pl.isList ?_;let I2:Inv X XR σ H1 {s1 with heap:=s1.heap.push (revObj l ((XT.toArray.size:Int)-1))}:=I1.kept (t':=s1.toks) λb o e=>WR _ e;let it0:(s1.heap.push (revObj l ((XT.toArray.size:Int)-1))).IsRevIter ⇑s1 l ((xs.length:Int)-1-((0:Nat):Int)):=⟨_,WU _ rfl,rfl,by
    rw[show((xs.length:Int)-1-((0:Nat):Int))=((XT.toArray.size:Int)-1) by simp;cbv];rfl⟩
   refine wpAny_pyIter_revIter it0 ?_;refine⟨⇑s1,[⇑s1],_,_,H1,rfl,I2,FV l _ xs.length,⟨Uy _,it0⟩,λb hb=>?_,q⟩;let e:b=⇑s1:= ~~~hb
   subst e;exact I1.j8 (Uw _) (I1.XX.fresh (Uw _))
theorem JC {a:Expr}{p:Pos}{xs:`u}(hm:X.mg "reversed"=none)(ha:EV X a Z (ae r) xs Γ1)(hs:fW X a:=by rfl)(hg:Gl X "reversed":=by rfl):IV X tg (.Call (.Name "reversed" p) [a] [] pos) Z r xs.reverse Γ1:=by
 refine⟨_,KY hg hm `bh hs,λσ H0 R0 H R E Rq q=>ha σ H0 R0 H R E _ λv H1 R1 E1 s1 e1=>?_⟩;let⟨a,vs,rfl,hp,pp,z⟩:=e1;let hvl:=pp.length;refine⟨a,vs,rfl,bw.of (E1.sub _ _ hp),q _ H1 R1 E1 s1 (by rw[T8];exact z) λH' R' sR sH i=>⟨λx hx=>?_,λhi=>?_⟩⟩
 ·let hq:bw X.K H' a vs:=bw.of (sH _ _ (sR _ _ hp));let hi:i<xs.length:=by have:=(R6.mp hx).1;rwa [T8] at this
  rw[Uk hi] at hx;let⟨v,hv,hr⟩:=fH pp hx;refine⟨⟨vs,hq,rfl,`a⟩,λv' H2 hy=>?_⟩;let⟨rfl,hy⟩:=hy;have:=hy vs hq;rw[show vs.length-1-i=xs.length-1-i by cbv,hv] at this;cases this
  exact⟨R',Ext.refl sH,r.mono sR hr⟩
 ·rw[T8] at hi;show vs.length<=i;cbv
theorem DD (i:Nat){xs ys:`u}(he:EV X e Z (ae r) ys Γ1)(hΓ:`aB)(hΓ1:Γ1[i]?∣.mu r xs)(hz:xs.length+ys.length<=U9)(h:N (Γ1.set i (.mu r (xs++ys))))(hN:`o)(Yn:Vh (.Call (.Attribute `h "extend" ap) [e] [] cp) none pos.line X.env=pure false:=by rfl)(X0:fh X `h "extend":=by rfl)(Yf:l7 X cp [e]:=by rfl)(XZ:`Z=true:=by rfl)(hs:dq X e []:=by rfl):W1 X (.Expr (.Call (.Attribute `h "extend" ap) [e] [] cp) pos) Z N T:=λσ H0 R0 H R E D dn dr=>by
 let⟨a,vs,ea,ha,hR,pp⟩:=E.ent i _ hΓ;refine sS (dQ (gR WG PySem.F.slot_list_extend PySem.F.type_list_extend BL (aV hN) `bh X0 Yf XZ hs rfl) Yn) ?_;refine⟨.ref a,at_of ea,.inl ⟨rfl,vs,bw.of ha⟩,he σ H0 R0 H R E _ λu H1 R1 E1 s1 e1=>?_⟩;let⟨b,ws,rfl,hb,pw,hw⟩:=e1;let⟨a',Yr,Yq,YE,Yu,YM⟩:=E1.ent i _ hΓ1;rw[ea] at Yq;cases Yq
 refine⟨a,b,Yr,ws,rfl,rfl,YE,E1.sub _ _ hb,by rw[YM.length,pw.length];exact hz,?_⟩;exact dn σ _ R1 _ (E1.upd (en:=.mu r (xs++ys)) hΓ1 rfl ea Yu ⟨a,_,rfl,aD,Yu,dS YM pw⟩) s1 h
theorem Aa {d:Expr}{kvs:List (Int×V)}{k:Int}(hu:`be)(he:EV X e Z ag k Γ1)(hd:EV X d Γ1 nF kvs Γ2)(hm:Vx .NotIn d=false:=by first | exact sT _ | with_unfolding_all rfl):TV X (.Compare e [.NotIn] [d] pos) Z (!jk kvs k) Γ2:=by
 intro σ H0 R0 H R E Q q;refine tS (m8 (mh hu aN aN) hm) (he σ H0 R0 H R E _ λv H1 R1 E1 s1 e1=>hd σ H0 R0 H1 R1 E1 _ λu H2 R2 E2 s2 e2=>?_);cases e1
 let⟨p,rfl,hp⟩:=e2;refine⟨p,_,rfl,iE.k (k:=Sum.inl k) (E2.sub _ _ hp),_,rfl,?_⟩;rw[ng];exact q H2 R2 E2 `E
abbrev xq (ks:Rx):List (Key×V):=ks.map λk=>(Sum.inr k,V.bl true)
def rX (a:Addr)(ks:Rx):oK where
 fp:=[a]
 R:=λK H R v=>v= .ref a/\H a∣(.dK (xq ks))
 loc:=λhH hR ⟨e,h1⟩=>⟨e,(hH a `d).trans h1⟩
 has:=λ⟨e,h1⟩ b hb=>by rw[Sa.mp hb,h1];exact UW _
theorem WS.MQ (i:Nat)(hΓ:Z[i]?∣(.di []))(h:∀a,WS X YG (Z.set i (.ob (rX a []))) N T):WS X YG Z N T:=λσ H0 R0 H R E D dn dr=>by
 let⟨a,ea,ha,hR⟩:=E.ent i _ hΓ;refine h a σ H0 R0 H R (E.tell hΓ ⟨⟨.ref a,ea,rfl,ha⟩,λb hb=>?_⟩ λb w=>?_) D dn dr
 ·rw[Sa.mp hb];exact hR
 ·rw[show b=a from Sa.mp w];exact cq.mpr ea
theorem Ft (k:Str):∀ks:Rx,dw (xq ks) (Sum.inr k:Key)=if k∈ks then some (.bl true) else none
 | []=>rfl
 | x::ks=>by
   by_cases e:x=k
   ·show dw ((Sum.inr x,V.bl true)::xq ks) _=_;rw[ee (p:=((Sum.inr x:Key),V.bl true)) (by rw[e]),XG (by rw[e];exact Se)]
   ·show dw ((Sum.inr x,V.bl true)::xq ks) _=_;rw[dN (p:=((Sum.inr x:Key),V.bl true)) (λz=>e (Sum.inr.inj z)),Ft k ks];by_cases h:k∈ks
    ·rw[XG h,XG (Sb _ h)]
    ·rw[XF h,XF λz=>by obtain q | q:=Sj.mp z;exact e q.symm;exact h q]
theorem HH (i:Nat){ke ve:Expr}{k:Str}(hu:`be)(hk:EV X ke Z aq k Z)(hv:PE X ve (tC (.bl true)))(hΓ:Z[i]?∣(.ob (rX a ks)))(hn:k∉ks)(hz:ks.length<U9)(h:N (Z.set i (.ob (rX a (ks++[k])))))(hN:`o)(hs:Vh ve (some (.Subscript `h ke p2)) pos.line X.env=pure false:=by rfl):W1 X (.Assign [.Subscript `h ke p2] ve pos) Z N T:=λσ H0 R0 H R E D dn dr=>by
 refine sS (uB hu (aV hN) aN hv hs) ?_;let⟨⟨v,ea,rfl,ha⟩,hR⟩:=E.ent i _ hΓ;refine⟨.ref a,at_of ea,hk σ H0 R0 H R E _ λu H1 R1 E1 s1 e1=>?_⟩;let⟨⟨v,Yq,rfl,YE⟩,Yu⟩:=E1.ent i _ hΓ;cases e1
 refine⟨a,_,rfl,qF.k (k:=Sum.inr k) YE (by rw[R9];exact hz),?_⟩;rw[qD (.bl true) (by rw[Ft,XF hn])];let e:xq ks++[((Sum.inr k:Key),V.bl true)]=xq (ks++[k]):=by unfold xq;rw[So];rfl
 rw[e];exact dn σ _ R1 _ (E1.lu (en:=.ob (rX a (ks++[k]))) hΓ (a:=a) (by show a∈[a];simp) ⟨⟨.ref a,Yq,rfl,aD⟩,Yu⟩ λc w=>.inl w) s1 h
theorem F3 (i:Nat){k:Str}(hu:`be)(he:EV X e Z aq k Z)(hΓ:Z[i]?∣(.ob (rX a ks)))(hN:`o):TV X (.Compare e [.NotIn] [.Name x p1] pos) Z (!decide (k∈ks)) Z:=by
 intro σ H0 R0 H R E Q q;refine tS (m8 (mh hu aN (aV hN)) (by with_unfolding_all rfl)) `K;let⟨⟨v,ea,rfl,ha⟩,hR⟩:=E1.ent i _ hΓ;cases e1
 refine⟨.ref a,at_of ea,a,_,rfl,iE.k (k:=Sum.inr k) ha,_,rfl,?_⟩;rw[Ft];let e:(if k∈ks then some (V.bl true) else none).isSome=decide (k∈ks):=by by_cases h:k∈ks<;>simp[h]
 rw[e];exact q H1 R1 E1 s1
variable {key:`aK}
section
variable {K:Type} [DecidableEq K]{knd:KeyKind prog w K}
theorem Ep {d:Addr}{kvs:List (K×Value)}{k:K}{dflt:`aK}(Zk:knd.is k key=true)(hm:s.heap.DictOf knd d kvs)(hthere:∀v,Vw kvs k∣v->Q v {s with toks:=s.toks+1})(hnew:Vw kvs k=none->∀h',h'.DictOf knd d (Wh kvs k dflt)->WW d s.heap h'->Q dflt {s with heap:=h',toks:=s.toks+1})(hsz:kvs.length<=U9):wpAny `t A (Wi d key dflt) Q E s:=by
 let hmap:=hm.mapOf;let⟨o,es,ep,ho,hc,hd,hk,hp,hn⟩:=hm;let hes:es.size<=U9:=by
  let e1:=hp.length;let e2:es.toList.length=es.size:=`d
  cbv
 let⟨o2,es2,ep2,ho2,hc2,hd2,hk2,hf⟩:=hmap;rw[ho] at ho2;cases ho2
 rw[hd] at hd2;cases hd2
 unfold Wi
 try with_reducible refine Vq ?_
 refine Vb (knd.pyHash Zk ?_);refine Vb (wpAny_dictFind_of (s:={s with toks:=s.toks+1}) Zk ho hd hk ?_);let hidx:(es.findIdx? λe=>knd.is k e.key)=kvs.findIdx? λkv=>decide (kv.1=k):=by
  rw[← hp.findIdx k];let⟨l⟩:=es;simp
 cases hi:es.findIdx? λe=>knd.is k e.key with
 | some i=>
   let hfk:Vw kvs k=(es[i]?).map (·.val):=by rw[← hf k,findBy_of_findIdx?,hi]
   refine Vb (wpAny_dictEntries (s:={s with toks:=s.toks+1}) ho hd ?_);cases he:es[i]? with
   | none=>
     exfalso;have:=Array.findIdx?_eq_some_iff_findIdx_eq.mp hi;let YA:i<es.size:=this.1;rw[Array.getElem?_eq_getElem YA] at he;exact nomatch he
   | some e=>
     rw[he] at hfk;exact Vb (VX (Vd (hthere e.val hfk)))
 | none=>
   let hfk:Vw kvs k=none:=by rw[← hf k,findBy_of_findIdx?,hi]
   let hnot:k∉kvs.map (·.1):=not_mem_of_findIdx_none (hidx▸hi);let hany:¬(kvs.any λkv=>decide (kv.1=k))=true:=by
    rw[Uo];rintro⟨kv,hkv,he⟩;exact hnot (Sv.mpr ⟨kv,hkv,XH he⟩)
   refine Vb (VX (Vb (wpAny_updateDictKeys (hz:=hes) (s:={s with toks:=s.toks+1}) ho hd (Vd (hnew hfk _ ⟨_,_,ep+1,WX _ ho (Obj.isFreed_of_dict (Obj.data_mapDictKeys hd _)),
    hc.mapDictKeys _,Obj.data_mapDictKeys hd _,hk.push Zk _,?_,?_⟩ (WW.update ..))))))
   ·rw[Wh,XF hany];have:=hp.append Zk (knd.hash k) dflt;let⟨l⟩:=es;simpa using this
   ·rw[Wh,XF hany,So,S0];refine⟨hn,`d,?_⟩;intro a ha b hb;simp only[SK,T4,Sa] at hb;subst hb;exact λe=>hnot (e▸ha)
theorem F9 {d:Addr}{kvs:List (K×Value)}{k:K}(Zk:knd.is k key=true)(hd:(d==Vr)=false)(dflt:`aK)(hsz:kvs.length<=U9):
 MeetsIn prog w (Builtin.«dict.setdefault» ⟨[.ref d,key,dflt],[]⟩) (λ_ R s=>s.heap.DictOf knd d kvs/\
  (∀v,Vw kvs k∣v->R (.ok (.ret v)) {s with toks:=s.toks+1})/\
  (Vw kvs k=none->∀h',h'.DictOf knd d (Wh kvs k dflt)->WW d s.heap h'->R (.ok (.ret dflt)) {s with heap:=h',toks:=s.toks+1})):=
 .of_wp λA R s ⟨hm,h1,h2⟩=>by
  unfold Builtin.«dict.setdefault»;refine Vb ?_;unfold Builtin.Dict.keyAndDefault;refine Vb (wpAny_notOrdered_dict hm.mapOf.typeIs ?_);show wpAny _ _ (pure (d,key,some dflt)) _ _ s;refine Vd ?_;show wpAny _ _ (if(d==Vr)=true then _ else(Wi d key dflt >>=_)) _ _ s;rw[XF (by rw[hd];exact RH)];exact Vb (Ep Zk hm (λv hv=>Vd ⟨v,rfl,h1 v hv⟩) (λhn h' hm' hs'=>Vd ⟨dflt,rfl,h2 hn h' hm' hs'⟩) hsz)
end
variable {F:RF}{iter:Expr}
noncomputable def Nb:V->List V->Hp->VK->Prop:=λx vs H Q=>∃(a:Addr)(F:RF)(k v:Int),x= .ref a/\vs=[.int k,.int v]/\H a∣(.dK (cS (cH F)))/\F.length<U9/\∀u,Q u (if(bo F k).isSome then H else upd H a (.dK (cS (cH (F++[(k,v)])))))
theorem Jw:z7 X "dict.setdefault" Nb:=by
 intro XR s σ H x vs u us Q I rx rv h;let⟨a,F,k,v,rfl,rfl,hH,hz,q⟩:=h;cases rx
 let⟨u1,u2,rfl,⟨t,rfl⟩,⟨t2,rfl⟩⟩:=vals2 rv;let⟨z,hd,kvs,rel,dd⟩:=AO I.XX hH;let hzl:kvs.length<=U9:=by rw[← rel.length];exact z
 let Zx:=rel.val (Sum.inl k:Key);rw[lE] at Zx;refine call_meetsIn PySem.F.slot_dict_setdefault dd.typeIs PySem.F.entry_dict_setdefault (PySem.F.args_dict_setdefault_3 _ _ _) (F9 (knd:=cE X.prog X.w) (kvs:=kvs) (kC (k:=Sum.inl k) (u:=.int k t) ⟨t,rfl⟩) hd (.int v t2) hzl) ⟨dd,λw' hw=>?_,λhn h' dd' hs=>?_⟩
 ·cases e:bo F k with
  | none=>rw[e,hw] at Zx;cases Zx
  | some y=>
    rw[e,hw] at Zx;have:=q (.int y);rw[e,XG (show(some y).isSome=true from rfl)] at this;exact⟨.int y,H,I.tok _,Zx,this⟩
 ·cases e:bo F k with
  | some y=>rw[e,hn] at Zx;cases Zx
  | none=>
    have:=q (.int v);rw[e,XF `c] at this;let hput:putK (cS (cH F)) (Sum.inl k:Key) (.int v)=cS (cH (F++[(k,v)])):=by
     rw[xo];unfold jM;rw[e,XF `c]
    let hl:(cS (cH (F++[(k,v)]))).length<=U9:=by unfold cS cH;simp;cbv
    refine⟨.int v,_,pV I (by rw[hH];exact XD) hs (let ⟨q,_,_,hq,_⟩:=dd';⟨q,hq⟩) (yb hl hd ?_ dd'),⟨t2,rfl⟩,this⟩;rw[← hput];exact rel.put (Sum.inl k:Key) ⟨t2,rfl⟩
theorem set_same.{u}{A:Type u}{l:List A}{i:Nat}{x:A}(h:l[i]?∣x):l.set i x=l:=by
 refine S6 λj=>?_;by_cases e:i=j
 ·subst e;rw[Sh (R6.mp h).1,h]
 ·rw[SF e]
theorem LY (i:Nat){f:Expr}{k v:Int}(he:EV X e Z ag k Z)(hf:EV X f Z ag v Z)(hΓ:Z[i]?∣(.di (cH F)))(hz:F.length<U9)(h:N (Z.set i (.di (cH (if(bo F k).isSome then F else F++[(k,v)])))))(hN:`o)(Yn:Vh (.Call (.Attribute `h "setdefault" ap) [e,f] [] cp) none pos.line X.env=pure false:=by rfl)(X0:fh X `h "setdefault":=by rfl)(Yf:l7 X cp [e,f]:=by rfl)(XZ:`Z=true:=by rfl)(hs:Vf [e,f] X.env=(false,eval e X.env)::Vf [f] X.env:=by rfl)(Ys:dq X f []:=by rfl)(Yb:fc X cp [f]:=by rfl):
 W1 X (.Expr (.Call (.Attribute `h "setdefault" ap) [e,f] [] cp) pos) Z N T:=λσ H0 R0 H R E D dn dr=>by
 let⟨a,ea,ha,hR⟩:=E.ent i _ hΓ;refine sS (dQ (gR PySem.F.plainAttrs_dict PySem.F.slot_dict_setdefault PySem.F.type_dict_setdefault Jw (aV hN) (aI aN (aI aN br Ys) hs) X0 Yf XZ hs Yb) Yn) ?_;refine⟨.ref a,at_of ea,.inr (.inr (.inl ⟨rfl,.inl ⟨_,ha⟩⟩)),he σ H0 R0 H R E _ λv1 H1 R1 E1 s1 q1=>hf σ H0 R0 H1 R1 E1 _ λv2 H2 R2 E2 s2 q2=>?_⟩;cases q1
 cases q2
 let⟨a',Yq,YE,Yu⟩:=E2.ent i _ hΓ;rw[ea] at Yq;cases Yq
 refine⟨a,F,k,v,rfl,rfl,YE,hz,λu=>?_⟩;cases q:(bo F k).isSome with
 | true=>
   rw[q,XG rfl] at h;rw[XG rfl];refine dn σ H2 R2 _ E2 `E ?_;rwa [set_same hΓ] at h
 | false=>
   rw[q,XF `c] at h;rw[XF `c];exact dn σ _ R2 _ (E2.upd (en:=.di (cH (F++[(k,v)]))) hΓ rfl ea Yu ⟨a,rfl,aD,Yu⟩) `E h
def sM (X:Cx)(e:Expr)(Z:Ga)(k:Int):Prop:=∀(σ:St)(H0 R0 H R:Hp),ar X.K σ H0 R0 H R Z->∀(H':Hp)(Q:VK),au R H'->Q (.int k) H'->fU X e σ H' Q
theorem yE (i:Nat){y:Int}(hΓ:Z[i]?∣.im ag y)(hN:`o):sM X (.Name x pos) Z y:=λσ H0 R0 H R E H' Q s q=>by
 let⟨v,e,h⟩:=E.ent i _ hΓ;cases h
 exact eS (aV hN) ⟨_,at_of e,q⟩
theorem IP (i:Nat){ke ve le ue:Expr}{k l v u:Int}(hk:sM X ke Z k)(hl:sM X le Z l)(hv:PE X ve (tC (.int v)))(hu:PE X ue (tC (.int u)))(hkl:k≠l)(h:N (Z.set i (.di (cH [(k,v),(l,u)]))))(hN:X.N.Nodup:=by first | assumption | decide)(hi:X.N[i]?∣x:=by rfl)(hx:`aj)(hs:Vh (.Dict [some ke,some le] [ve,ue] p2) (some `h) pos.line X.env=pure false:=by rfl)(hf:autoParam (fM X x) YU):
 W1 X (.Assign [.Name x p1] (.Dict [some ke,some le] [ve,ue] p2) pos) Z N T:=λσ H0 R0 H R E D dn dr=>by
 refine sS (jV hN hi hx (Jh (vL aN hv (vL aN hu Jt)) rfl rfl `d `d) hs hf) λp hp=>?_;let sR:au R (upd H p (.dK [])):=E.sub.trans (au.fresh hp _);refine hk σ H0 R0 H R E _ _ sR ?_;refine hl σ H0 R0 H R E _ _ sR ?_;refine⟨aD,[(Sum.inl k,.int v),(Sum.inl l,.int u)],rfl,(by show 2<=15;decide),?_⟩;let E1:=E.grow (Ext.d8 E.sub hp (.dK (cS (cH [(k,v),(l,u)]))));let e:upd (upd H p (.dK [])) p (.dK (nk [] [(Sum.inl k,.int v),(Sum.inl l,.int u)]))=upd H p (.dK (cS (cH [(k,v),(l,u)]))):=by
  rw[Jr];congr 2;show putK [((Sum.inl k:Key),V.int v)] (Sum.inl l) (.int u)=_;rw[qD (.int u) (by
   rw[dN (p:=((Sum.inl k:Key),V.int v)) (λz=>hkl (Sum.inl.inj z))];rfl)]
  rfl
 rw[e];exact dn _ _ R _ (E1.yk (u:=.dK (cS (cH [(k,v),(l,u)]))) (en:=.di (cH [(k,v),(l,u)])) i ⟨p,rfl,aD,E.sub.free hp⟩ (E.ext.h.free hp) λj e _ q w=>E.off hp j e q w) `S h
theorem Ja (hz:xs.length<=U9)(h:EV X iter Z av (.tup xs) Γ1):IV X tg iter Z av xs Γ1:=by
 refine⟨_,D6 aN,λσ H0 R0 H R E Rq q=>h σ H0 R0 H R E _ λv H1 R1 E1 s1 e1=>?_⟩;cases e1 with
 | @tup a vs _ hp pp=>
   let ZQ:∀H' R':Hp,au R1 R'->au R' H'->dY X.K H' a vs:=λH' R' sR sH=>dY.of (sH _ _ (sR _ _ hp));refine⟨a,rfl,⟨_,ZQ H1 R1 `S E1.sub⟩,q _ H1 R1 E1 s1 hz λH' R' sR sH i=>⟨λx hx=>?_,λhi=>⟨_,ZQ H' R' sR sH,by rw[pp.pair.length];exact hi⟩⟩⟩;let⟨v,hv,hr⟩:=fH pp.pair hx;refine⟨⟨_,_,ZQ H' R' sR sH,hv⟩,λv2 H2 hy=>?_⟩;let⟨rfl,hy⟩:=hy;have:=hy _ (ZQ _ R' sR sH);rw[hv] at this;cases this
   exact⟨R',Ext.refl sH,hr.mono sR⟩
theorem n8 (i:Nat){p:Pos}(hm:X.mg "len"=none)(hΓ:Z[i]?∣(.di (cH F)))(hN:`o)(hs:fW X `h:=by rfl)(hg:Gl X "len":=by rfl):EV X (.Call (.Name "len" p) [.Name x p1] [] pos) Z ag (F.length:Int) Z:=by
 intro σ H0 R0 H R E Q q;let⟨a,ea,ha,hR⟩:=E.ent i _ hΓ;refine eS (eO uX hg hm Vy (aI (aV hN) br hs) `c `c hs) ⟨.ref a,at_of ea,a,_,rfl,ha,?_⟩;unfold cS cH;rw[R9,R9];exact q _ H R E `S rfl
abbrev je:=Str×Str×Int×Int×Int
def f9 (w:je):PV:=.tup [.str w.1,.str w.2.1,.int w.2.2.1,.int w.2.2.2.1,.int w.2.2.2.2]
def qA:Rep je:=⟨λK H v w=>av.R K H v (f9 w),λs h=>av.mono s h⟩
theorem Co {w:je}(h:qA.R K R v w):∃a,v= .ref a/\R a∣(.tup [.str w.1,.str w.2.1,.int w.2.2.1,.int w.2.2.2.1,.int w.2.2.2.2]):=by
 let h:iR R v (f9 w):=h;unfold f9 at h;cases h with
 | tup hp pp=>
   cases pp with
   | cons h1 t=>cases t with
     | cons h2 t=>cases t with
       | cons h3 t=>cases t with
         | cons h4 t=>cases t with
           | cons h5 t=>cases t;cases h1;cases h2;cases h3;cases h4;cases h5;exact⟨_,rfl,hp⟩
theorem z8 {K:Xh}{R:Hp}:∀{vs:`P}{ws:List je},PySem.Paired (av.R K R) vs (ws.map f9)->PySem.Paired (qA.R K R) vs ws
 | _,[],.nil=>.nil
 | _,_::_,.cons h t=>.cons h (z8 t)
theorem EV.Qt {ws:List je}(h:EV X e Z (ae av) (ws.map f9) Γ1):EV X e Z (ae qA) ws Γ1:=h.re λK R v ⟨a,vs,e,q,p,z⟩=>⟨a,vs,e,q,z8 p,by rw[R9] at z;exact z⟩
theorem GW (i1 i2 i3 i4 i5:Nat){x1 x2 x3 x4 x5:Str}{k:Nat}{p3 p4 p5:Pos}(hc:X.calm=true:=by rfl)(hN:X.N.Nodup:=by first | assumption | decide)(h1:X.N[i1]?∣x1:=by rfl)(l1:autoParam (Loc X.env.scope x1) YV)(f1:autoParam (fM X x1) YU)(h2:X.N[i2]?∣x2:=by rfl)(l2:autoParam (Loc X.env.scope x2) YV)(f2:autoParam (fM X x2) YU)(h3:X.N[i3]?∣x3:=by rfl)(l3:autoParam (Loc X.env.scope x3) YV)(f3:autoParam (fM X x3) YU)(h4:X.N[i4]?∣x4:=by rfl)(l4:autoParam (Loc X.env.scope x4) YV)(f4:autoParam (fM X x4) YU)(h5:X.N[i5]?∣x5:=by rfl)(l5:autoParam (Loc X.env.scope x5) YV)(f5:autoParam (fM X x5) YU):
 BG X (.Tuple [.Name x1 p1,.Name x2 p2,.Name x3 p3,.Name x4 p4,.Name x5 p5] k pos) qA (λw Z=>((((Z.set i1 (.im aq w.1)).set i2 (.im aq w.2.1)).set i3 (.im ag w.2.2.1)).set i4 (.im ag w.2.2.2.1)).set i5 (.im ag w.2.2.2.2)):=λσ H0 R0 H R Z v w E h Q q=>by
 let⟨a,rfl,ha⟩:=Co h;exact gS (wF hc (fb (fz hN h1 l1 f1) (fb (fz hN h2 l2 f2) (fb (fz hN h3 l3 f3) (fb (fz hN h4 l4 f4) (fb (fz hN h5 l5 f5) pJ)))))) ⟨a,_,rfl,dY.of (E.sub _ _ ha),rfl,_,_,rfl,_,_,rfl,_,_,rfl,_,_,rfl,_,_,rfl,rfl,q _ (((((E.set i1 (r:=aq) rfl).set i2 (r:=aq) rfl).set i3 rfl).set i4 rfl).set i5 rfl)⟩
theorem WS.unb (i:Nat){xs:`u}(hΓ:Z[i]?∣(.ob (aO a r xs)))(h:WS X YG (Z.set i (.mu r xs)) N T):WS X YG Z N T:=λσ H0 R0 H R E D dn dr=>by
 let⟨ea,⟨vs,ha,pp⟩,hR⟩:=dk (E.ent i _ hΓ);refine h σ H0 R0 H R (E.tell (en:=.mu r xs) hΓ (by rw[ea];exact⟨a,vs,rfl,ha,hR,pp⟩) λb w=>?_) D dn dr;rw[ea] at w;exact w
theorem WS.N7 (i:Nat)(hΓ:Z[i]?∣(.di (cH F)))(h:WS X YG (Z.set i (.im jw F)) N T):WS X YG Z N T:=λσ H0 R0 H R E D dn dr=>by
 let⟨a,ea,ha,hR⟩:=E.ent i _ hΓ;let h0:H0 a=none:=E.new i _ a hΓ rfl ea;let E1:ar X.K σ H0 R0 H R (Z.set i .no):=E.tell (en:=.no) hΓ trivial λb w=>by cases w
 let off:Off a σ (Z.set i .no):=λj e q w=>by
  obtain⟨rfl,rfl,_⟩ | ⟨hj,q1⟩:=set_at q
  ·cases w
  ·exact hj (E.ds j i e _ a q1 hΓ w (cq.mpr ea))
 let E2:=E1.sG ha hR h0 off;let hl:i<Z.length:=(R6.mp hΓ).1;let E3:=E2.tell (i:=i) (en:=.im jw F) (e0:=.no) (Sh hl) ⟨.ref a,ea,a,rfl,aD⟩ λb w=>by cases w
 rw[Ti] at E3;exact h σ H0 R0 H _ E3 D (λσ2 H2 R2 Γ2 E4 s2=>dn σ2 H2 R2 Γ2 E4 ((au.fresh hR _).trans s2)) dr
theorem qL {a:Expr}{p:Pos}(hm:X.mg "len"=none)(ha:EV X a Z jw F Γ1)(hs:fW X a:=by rfl)(hg:Gl X "len":=by rfl):EV X `aZ Z ag (F.length:Int) Γ1:=
 EV.cast (HG (kvs:=cH F) hm (EV.rep ha λ_ _ q=>q) hs hg) (by unfold cH;rw[R9])
theorem Ds :EV X (.Constant .none j pos) Z nW () Z:=λσ H0 R0 H R E Q q=>eS Lf (q .X4 H R E `S rfl)
noncomputable def FlE:Ent->Prop
 | .no=>True
 | .im _ _=>True
 | _=>False
noncomputable def xF:Ga->Prop
 | []=>True
 | e::r=>FlE e/\xF r
theorem xF.fp:∀{Z:Ga},xF Z->∀(i:Nat)(e:Ent),Z[i]?∣e->∀o,e.fp o=[]
 | e::_,⟨h,_⟩,0,_,q,o=>by
   cases q
   cases e with
   | no=>rfl
   | im _ _=>rfl
   | mu _ _=>exact h.elim
   | di _=>exact h.elim
   | ob _=>exact h.elim
 | _::r,⟨_,h⟩,i+1,e,q,o=>xF.fp h i e (~~~q) o
 | [],_,i,e,q,o=>by simp at q
theorem ar.He (E:`C)(fl:xF Z):ar K σ H R H R Z:=
 ⟨⟨au.refl _,au.refl _,E.sub,λ_ _=>rfl⟩,E.ent,(λi e a q w=>by rw[fl.fp i e q] at w;cases w),(λi j e e' a q q' w w'=>by rw[fl.fp i e q] at w;cases w),E.len⟩
variable {scope:Scope}{ix:List Nat}{ra:Rep α}{rb:Rep β}{bf:α->Ga->Ga}
def J2 (X:Cx)(e:Expr)(Z:Ga){α:Type}(r:Rep α)(P:List α->Prop)(Γ':Ga):Prop:=
 ∀(σ:St)(H0 R0 H R:Hp),ar X.K σ H0 R0 H R Z->∀Q:VK,(∀a vs ys H' R',ar X.K σ H0 R0 H' R' Γ'->au R R'->H' a∣.lst vs->R' a=none->H0 a=none->Off a σ Γ'->PySem.Paired (r.R X.K R') vs ys->ys.length<=U9->P ys->Q (.ref a) H')->fU X e σ H Q
theorem ba.evr {ys:`u}{P:List α->Prop}(h:ba X e Z r ys Γ1)(hp:P ys):J2 X e Z r P Γ1:=λσ H0 R0 H R E Q q=>h σ H0 R0 H R E Q λa vs H' R' E' s' h1 h2 h3 h4 h5 h6=>q a vs ys H' R' E' s' h1 h2 h3 h4 h5 h6 hp
theorem AK {elt:Expr}{cl:`aO}{own fr:Rx}{xs:`u}{P:α->List β->Prop}{J:It}{H1:Hp}{Q:VK}(E1:ar X.K σ H0 R0 H1 R1 Γ1)(src:Src X.K J R1 ra xs)(hz:xs.length<=U9)(hb:∀(C:Addr)(s:Va)(H:Hp)(ex:Rz),BG `m tg ra bf)(hw:∀x,Wk `v (dB own ix Γ1))(hfl:∀x,xF `v)(he:∀(C:Addr)(s:Va)(H:Hp)(ex:Rz) x,x∈xs->J2 `m elt `v rb (P x) `v)(q:∀a bs Yv H' R',Ext H1 R1 H' R'->H' a=none->gJ X.K rb H' R' bs Yv->bs.Nodup->(∀b∈bs,H1 b=none/\R' b=none)->PySem.Paired P xs Yv->(∀ys∈Yv,ys.length<=U9)->Q (.ref a) (upd H' a (.lst (bs.map .ref)))):
 ∃W:Nat->Nat->List V->St->Hp->Prop,(∃m,W 0 m [] (iz own ix σ) H1)/\∀i m ys σ' H',W i m ys σ' H'->
  ys.length<=U9/\((J.stop i H'/\∀p,H' p=none->Q (.ref p) (upd H' p (.lst ys)))∨
  (J.go i H'/\∀x H2,J.yld i H' x H2->(λv σ H Q=>∀C s Hh ex,nJ `q tg v σ H Q:TG) x σ' H2 λσ2 H3=>(λσ H Q=>∀C s Hh ex,oS `q [] σ H Q:TT) σ2 H3 λb H4=>
    if b=true then(λσ H Q=>∀C s Hh ex,fU `q elt σ H Q:TE) σ2 H4 λv H5=>∃m',m'<m/\W (i+1) m' (ys++[v]) σ2 H5 else∃m',m'<m/\W (i+1) m' ys σ2 H4)):=by
 refine⟨λi m ys σ' H'=>m=xs.length-i/\i<=xs.length/\∃R' bs Yv,ar X.K σ' H1 R1 H' R' (dB own ix Γ1)/\ys=bs.map .ref/\gJ X.K rb H' R' bs Yv/\bs.Nodup/\(∀b∈bs,H1 b=none/\R' b=none)/\PySem.Paired P (xs.take i) Yv/\∀ys∈Yv,ys.length<=U9,⟨_,rfl,Uy _,R1,[],[],v7 E1 own ix,rfl,⟨rfl,λi b r h1=>by simp at h1⟩,TR,(λb hb=>by cases hb),(.nil:PySem.Paired P [] []),(λys hy=>by cases hy)⟩,?_⟩;rintro i m ys σ' H' ⟨rfl,hle,R',bs,Yv,E',rfl,hrs,hnd,hbs,pq,hsz⟩;let hbl:bs.length=i:=by rw[hrs.1,← pq.length,Sx];cbv
 let hys:(bs.map V.ref).length<=U9:=by rw[R9,hbl];cbv
 let⟨sgo,Zf⟩:=src H' R' E'.ext.r E'.sub i;refine⟨hys,?_⟩;by_cases YA:i<xs.length
 ·let⟨go,yl⟩:=sgo _ (R7 YA);let Zy:xs[i]∈xs:=SO YA;let tk:(xs.take (i+1))=xs.take i++[xs[i]]:=by rw[SS,R7 YA];rfl
  refine .inr ⟨go,λv H2 hy C s Hh ex=>?_⟩;let⟨R2,x2,hr⟩:=yl v H2 hy;refine hb C s Hh ex σ' H1 R1 H2 R2 _ v _ (E'.grow x2) hr _ λσ2 E2=>?_;intro C s Hh ex;refine(dy (X:=bq X scope cl C (own++fr) s Hh ex)) σ2 H2 R2 H2 R2 (E2.He (hfl _)) _ λH4 R4 E4 s4=>?_;rw[XG rfl];intro C s Hh ex;refine he C s Hh ex _ Zy σ2 H4 R4 H4 R4 (E4.He (hfl _)) _ λa vs zs H5 R5 E5 s5 ha hR h0 off pp hz' hP=>?_;let x5:Ext H' R' H5 R5:=x2.trans (E4.ext.trans E5.ext);let x25:Ext H2 R2 H5 R5:=E4.ext.trans E5.ext;let Y5:∀b∈bs,H' b≠none:=λb hb=>by
   let⟨r,hr⟩:=hrs.one hb;rw[hr];exact UW _
  let hold:∀b∈bs,b≠a:=λb hb e=>by
   have:H4 b≠none:=au.some (x2.h.trans E4.ext.h) (Y5 b hb);exact this (e▸h0)
  refine⟨xs.length-(i+1),`a,rfl,YA,R5,bs++[a],Yv++[zs],(E2.grow x25).weak (hw _),by rw[So];rfl,?_,?_,λb hb=>?_,?_,λys hy=>?_⟩
  ·refine gJ.snoc (gJ.loc hrs (λc hc=>?_) x5.r) ha pp;cases e:H' c with
   | none=>exact XE e (Y5 c hc)
   | some u=>exact x5.h c u e
  ·exact iW hnd λz=>hold a z rfl
  ·obtain z | z:=Sl.mp hb
   ·exact⟨(hbs b z).1,(x5.old b (Y5 b z)).trans (hbs b z).2⟩
   ·rw[Sa.mp z];exact⟨(E'.ext.h.trans (x2.h.trans E4.ext.h)).free h0,hR⟩
  ·rw[tk];exact dS pq (.cons hP .nil)
  ·obtain z | z:=Sl.mp hy
   ·exact hsz ys z
   ·rw[Sa.mp z];exact hz'
 ·let e:i=xs.length:=`a
  subst e;rw[SW] at pq;exact .inl ⟨Zf (Uw _),λa ha=>q a bs Yv H' R' E'.ext ha hrs hnd hbs pq hsz⟩
theorem HV (i:Nat){py YX:Pos}{elt:Expr}{cl:`aO}{own fr:Rx}{xs:`u}{P:α->List β->Prop}(S:fF X scope cl own fr ix)(hit:IV X tg iter Z ra xs Γ1)(hb:∀(C:Addr)(s:Va)(H:Hp)(ex:Rz),BG `m tg ra bf)(hw:∀x,Wk `v (dB own ix Γ1))(hfl:∀x,xF `v)(he:∀(C:Addr)(s:Va)(H:Hp)(ex:Rz) x,x∈xs->J2 `m elt `v rb (P x) `v)(h:∀a bs Yv,PySem.Paired P xs Yv->(∀ys∈Yv,ys.length<=U9)->N (Γ1.set i (.ob (fN rb a bs Yv))))(Yn:Vh (.ListComp elt [⟨tg,iter,[],0⟩] scope pos) (some (.Name y py)) YX.line X.env=pure true:=by rfl)(hN:X.N.Nodup:=by first | assumption | decide)(hi':X.N[i]?∣y:=by rfl)(hx:`aw)(hc:X.calm=true:=by rfl)(hs:∀x,Vm iter X.env x=pure x:=by intro _;rfl)(hf:autoParam (fM X y) YU):
 W1 X (.Assign [.Name y py] (.ListComp elt [⟨tg,iter,[],0⟩] scope pos) YX) Z N T:=λσ H0 R0 H R E D dn dr=>by
 let⟨wi,hi,hit⟩:=hit;refine sS (nI (i:=i) (g:=λv σ H Q=>∀C s Hh ex,nJ `q tg v σ H Q) (tc:=λσ H Q=>∀C s Hh ex,oS `q [] σ H Q) (te:=λσ H Q=>∀C s Hh ex,fU `q elt σ H Q) Yn hN hi' hx hc S hi
  `x hs hf) ?_
 refine hit σ H0 R0 H R E _ λJ H1 R1 E1 s1 hz src=>AK (Q:=λv H'=>D.nx (σ.set i (some v)) H') E1 src hz hb hw hfl he λa bs Yv H' R' xx ha hg hnd hbs pq hsz=>?_;let E2:=E1.grow xx;let E3:=E2.grow (Ext.d8 E2.sub ha (.lst (bs.map .ref)));let inb:∀c∈bs,H' c≠none:=λc hc=>by
  let⟨r,hr⟩:=hg.one hc;rw[hr];exact UW _
 let nab:a∉bs:=λz=>inb a z ha;refine dn _ _ R' _ (E3.setG (en:=.ob (fN rb a bs Yv)) i ⟨⟨.ref a,rfl,rfl,aD,hg.loc (λc hc=>aF λz=>nab (z▸hc)) `S,Sz.mpr ⟨nab,hnd⟩⟩,λb hb=>?_⟩ (λb hb=>?_) λb hb j e _ qj w=>?_) (s1.trans xx.r) (h a bs Yv pq hsz)
 ·obtain rfl | hb:=Sj.mp hb
  ·exact E2.sub.free ha
  ·exact(hbs b hb).2
 ·obtain rfl | hb:=Sj.mp hb
  ·exact E2.ext.h.free ha
  ·exact E1.ext.h.free (hbs b hb).1
 ·obtain rfl | hb:=Sj.mp hb
  ·exact E2.off ha j e qj w
  ·exact(Ent.fE (E1.ent j e qj) w).1 (hbs b hb).1
theorem IC {S:mf α}{qual:Str}{N ps:Rx}{k:Nat}(F:dO K x qual st f fd)(Sc:bF N ps (ao st))(hm:mg x∣.ref f)(hb:Binds K fd ps [])(len:∀xs qs T,S K xs qs T->qs.length+1=ps.length)(Yd:∀(XU:`aK)(A:Vg)(outer:List Env)(s:Va)(H:Hp)(E:XK)(a:Addr)(xs:`u)(qs:List Pk)(T:List α->RT),bG k `ar->S K xs qs T->
  WS (eU eI P w K mg base N qual (ao st) f XU A outer s H E).gW (bE st) (.ob (aO a r xs)::fY qs (N.length-1)) (λZ=>∃xs',Z[0]?∣(.ob (aO a r xs'))/\∀H0 H' R',T xs' H0 .X4 H' R') (wW K a r T)):aE P w K mg base x (k+1) (gG r S K):=by
 refine⟨f,fd,ps,?_,hm,F.kp,hb⟩;refine F.ok Sc (λvs H Q E h=>?_) `ae
 ·let⟨R,a,ws,xs,Yr,qs,T,rfl,_,_,_,_,p,hS,_⟩:=h;rw[Si,p.length];exact len xs qs T hS
 ·let⟨R,a,ws,xs,Yr,qs,T,rfl,sR,hR,ha,pp,p,hS,q⟩:=h;let hl:qs.length+1<=N.length:=by
   rw[len xs qs T hS];have:=congrArg List.length Sc.pre;rw[Sx] at this;cbv
  refine⟨_,iC,Yd XU A outer s H E a xs qs T hr hS (L2.start N (.ref a::Yr)) (del H a) R H R (sY sR hR ha pp p hl) {nx:=λ_ H'=>Q .X4 H',rt:=Q} (λσ' H' R' Γ' E' _ ⟨xs',hΓ,t⟩=>?_) λv H' R' xx t=>?_⟩
  ·let⟨ea,⟨YT,YE,YM⟩,Yu⟩:=dk (E'.ent 0 _ hΓ);exact q .X4 H' R' YT xs' E'.ext YE Yu YM (t _ _ _)
  ·let⟨YT,xs',h1,h2,h3,h4⟩:=t;exact q v H' R' YT xs' xx h1 h2 h3 h4
theorem FQ {S:mf α}{N ps:Rx}{k:Nat}(D:Def K mg x st ps)(Yd:∀(f:Addr)(XU:`aK)(A:Vg)(outer:List Env)(s:Va)(H:Hp)(E:XK)(a:Addr)(xs:`u)(qs:List Pk)(T:List α->RT),N.Nodup->bG k (A.deeper (U4 x (ao st) ⇑s f XU))->S K xs qs T->
  WS (eU eI P w K mg base N x (ao st) f XU A outer s H E).gW (bE st) (.ob (aO a r xs)::fY qs (N.length-1)) (λZ=>∃xs',Z[0]?∣(.ob (aO a r xs'))/\∀H0 H' R',T xs' H0 .X4 H' R') (wW K a r T))(len:∀xs qs T,S K xs qs T->qs.length+1=ps.length:=by(intros;rename_i h;repeat (first | (rw[h.1];rfl) | let⟨_,h⟩:=h)))(Sc:bF N ps (ao st):=by exact Y6):aE P w K mg base x (k+1) (gG r S K):=by
 let⟨f,fd,F,hm,hb⟩:=D;exact IC F Sc hm hb len λXU A outer s H E a xs qs T=>Yd f XU A outer s H E a xs qs T Sc.nd
noncomputable def FW (k:Str):Value->Bool
 | .str x _=>decide (x=k)
 | _=>false
noncomputable def HZ:V->List V->Hp->VK->Prop:=λx vs H Q=>∃(l:Addr)(ns:Rx)(k:Str)(j:Nat),x= .ref l/\vs=[.str k]/\H l∣(.lst (ns.map V.str))/\ns[j]?∣k/\(∀m,m<j->ns[m]?≠some k)/\Q (.int (j:Nat)) H
theorem Ea:z7 X "list.index" HZ:=by
 intro XR s σ H x vs v us Q I rx rv h;let⟨l,ns,k,j,rfl,rfl,hH,hj,Z3,q⟩:=h;cases rx
 let⟨u,rfl,t,rfl⟩:=rv.one;let⟨hz,XT,m,r1,hl,ho⟩:=I.nS hH;let jl:j<ns.length:=(R6.mp hj).1;let hl2:XT.length=ns.length:=by rw[← hl,R9]
 let at_:∀(n:Nat)(h1:n<XT.length)(h2:n<ns.length),∃t',XT[n]= .str ns[n] t':=λn h1 h2=>by
  let⟨u,e1,t',e2⟩:=r1.get (show(ns.map V.str)[n]?∣(.str ns[n]) by rw[Sf,R7 h2];rfl);rw[R7 h1] at e1;exact⟨t',(Option.some.inj e1).trans e2⟩
 refine VI PySem.F.slot_list_index ⟨_,ho,rfl⟩ PySem.F.entry_list_index (PySem.F.args_list_index_2 _ _)
  (SeqAt.list_indexAt l XT.toArray m _ _ (.str k t) (FW k) j (by simpa[hl2] using jl) ?_ ?_ ?_) ⟨ho,λw hw=>?_,?_⟩
 ·have:U9<2 ^ 63-1:=`c
  rw[R9] at hz;cbv
 ·let⟨t',e⟩:=at_ j `a jl;show FW k XT[j]=true;rw[e];rw[R7 jl] at hj;exact XJ (Option.some.inj hj)
 ·intro n hn hnj;let⟨t',e⟩:=at_ n (~~~hn) `a;show FW k XT[n]=false;rw[e];refine XM λz=>Z3 n hnj ?_;rw[R7 `a,z]
 ·let hw:w∈XT:= ~~~hw
  let⟨n,hn,rfl⟩:=T6.mp hw;let⟨t',e⟩:=at_ n hn `a;rw[e];intro prog w E Q hq;exact wpAny_eqBool_str hq
 ·exact⟨.int _,H,I.tok _,⟨_,rfl⟩,q⟩
theorem Cw {a:Expr}{k:Str}(ha:EV X a Z (ae aq) ns Γ1)(he:EV X e Γ1 aq k Γ2)(hj:ns[j]?∣k)(Z3:∀m,m<j->ns[m]?≠some k)(X0:fh X a "index":=by rfl)(Yf:l7 X cp [e]:=by rfl)(XZ:`Z=true:=by rfl)(hs:dq X e []:=by rfl):EV X (.Call (.Attribute a "index" ap) [e] [] cp) Z ag (j:Nat) Γ2:=λσ H0 R0 H R E Q q=>by
 refine eS (gR WG PySem.F.slot_list_index PySem.F.type_list_index Ea aN `bh X0 Yf XZ hs rfl) `A;let⟨b,vs,rfl,hb,pp,hz⟩:=e1;let ev:=nv pp;subst ev;refine⟨.inl ⟨rfl,_,bw.of (E1.sub _ _ hb)⟩,he σ H0 R0 H1 R1 E1 _ λu H2 R2 E2 s2 e2=>?_⟩;cases e2
 exact⟨b,ns,k,j,rfl,rfl,E2.sub _ _ (s2 _ _ hb),hj,Z3,q _ _ _ E2 `E rfl⟩
theorem ints4 {a b c d:Int}(h:eV R vs [.int a,.int b,.int c,.int d]):vs=[.int a,.int b,.int c,.int d]:=by
 cases h with
 | cons h1 t=>cases t with
   | cons h2 t=>cases t with
     | cons h3 t=>cases t with
       | cons h4 t=>cases t;cases h1;cases h2;cases h3;cases h4;rfl
theorem HJ {k:Nat}{r:Row}(h:EA X es Z av [.int r.1,.int r.2.1,.int r.2.2.1,.int r.2.2.2] Γ1):EV X (.Tuple es k pos) Z dU r Γ1:=
 EV.re (fP h (by show 4<=U9;decide)) λK R v e=>by
   cases e with
   | tup hp pp=>rw[ints4 pp] at hp;exact⟨_,rfl,hp⟩
def rE (t:Int×Int):PV:=.tup [.int t.1,.int t.2]
theorem zV {K:Xh}{R:Hp}:∀{vs:`P}{xs:RF},PySem.Paired ((cQ ag ag).R K R) vs xs->eV R vs (xs.map rE)
 | _,_,.nil=>.nil
 | _,_,.cons h t=>by
   let⟨a,v1,v2,rfl,ha,g1,g2⟩:=h;cases g1;cases g2
   exact .cons (.tup ha (.cons (.int _) (.cons (.int _) .nil))) (zV t)
theorem EV.zN {xs:RF}(h:EV X e Z (ae (cQ ag ag)) xs Γ1):EV X e Z av (.lst (xs.map rE)) Γ1:=h.re λK R v ⟨a,vs,e,q,p,z⟩=>by subst e;exact .lst q (zV p) (by rw[R9];exact z)
theorem kN {n:Int}(R H:Hp)(v:V)(_:au R H)(h:av.R K R v (.int n)):f7 K H v (.type "int"):=by cases h;exact .int _
theorem kM (R H:Hp)(v:V)(_:au R H)(h:av.R K R v (.str x)):f7 K H v (.type "str"):=by cases h;exact .str _
variable {t:Addr}{items:Array Value}
theorem u7 {it t:Addr}{items:Array Value}(X3:t≠it):∀(n i:Nat)(s:Va)(Q:RC->Va->Prop),s.heap.IsListIter it t i->s.heap.IsList t items->i+n<=items.size->
 (∀h',h'.IsListIter it t (i+n)->WW it s.heap h'->Q ((items.toList.drop i).take n) {s with heap:=h'})->wpAny `t A (draw (.ref it) n) Q E s
 | 0,i,s,Q,hit,_,_,hQ=>by
   show wpAny _ _ (pure []) Q E s;exact Vd (~~~hQ s.heap hit (WW.refl ..))
 | n+1,i,s,Q,hit,ht,hle,hQ=>by
   let YA:i<items.size:=`a
   show wpAny _ _ (V7 (.ref it) >>=_) Q E s;refine Vb (wpAny_pyNext_list_item hit ht (x:=items[i]) (by simp[YA]) λh₁ hit₁ hs₁=>?_);refine Vb (Vq (u7 X3 n (i+1) _ _ hit₁ (ht.extBut hs₁.extBut X3) `a λh₂ hit₂ hs₂=>Vd ?_));let hd:items.toList.drop i=items[i]::items.toList.drop (i+1):=by simp[Tf,YA]
   have:=hQ h₂ (by rw[show i+(n+1)=i+1+n by cbv];exact hit₂) (hs₁.trans hs₂);rw[hd,S3] at this;exact this
theorem rF {Q:RC->Va->Prop}(hh:A.handled=none)(ht:s.heap.IsList t items)(hQ:∀h',WZ ⇑s s.heap h'->Q items.toList {s with heap:=h'}):wpAny `t A (unpackItems (.ref t) items.size none) Q E s:=by
 let YA:t≠⇑s:=by let⟨o,ho,_⟩:=ht;exact UB (WT ho)
 unfold unpackItems;refine Vb ?_
 ·unfold notIterableAtAll;refine Vb (wpAny_specialOf ht.typeIs slot_list_iter.lookup ?_);refine Vd ?_;simp only[RM,if_false];refine Vb (Vq (VG ht ?_));refine Vb (Vq (u7 YA items.size 0 _ _ ⟨_,WU _ rfl,rfl,rfl⟩ (ht.push _) `a λh₁ hit₁ hs₁=>?_));let Z5:List.take items.size (List.drop 0 items.toList)=items.toList:=by
   rw[drop_zero];exact Tr `d
  rw[Z5];rw[XF `d];let ht₁:h₁.IsList t items:=(ht.push _).extBut hs₁.extBut YA;refine Vb (Vq (wpAny_pyNext_list_end hh hit₁ ht₁ `d λh₂ he₂=>?_));simp only[Option.isSome_none,RM,if_false];refine Vd (hQ h₂ λb o hb e=>he₂ b o hb (hs₁.extBut b o hb (WR _ e)))
theorem qk {env:Env}{elts:RE}{x1}{Q:Unit->Va->Prop}(hh:A.handled=none)(ht:s.heap.IsList t items)(hn:(Vp elts env).length=items.size)(hstar:(Vp elts env).findIdx? (·.1)=none)(h:∀h',WZ ⇑s s.heap h'->wpAny `t A (assignInOrder ((Vp elts env).map (·.2)) items.toList) Q E {s with heap:=h'}):
 wpAny `t A (VD (.Tuple elts x1 pos) env (.ref t)) Q E s:=by
 rw[assign_Tuple];refine Vb (V2 ?_);unfold unpack;rw[hn,hstar];exact Vb (Vq (rF hh ht h))
def QV (K:Xh)(n:Nat)(t:sZ):TG:=λv σ H Q=>∃a xs,v= .ref a/\bw K H a xs/\xs.length=n/\t xs σ H Q
theorem MF {k:Nat}{t:sZ}(hc:X.calm=true)(h:CJ X es t)(hn:(Vp es X.env).length=n:=by rfl)(hst:(Vp es X.env).findIdx? (·.1)=none:=by rfl):PG X (.Tuple es k pos) (QV X.K n t):=by
 intro XR s σ H v u Q I r hw;let⟨a,xs,e1,hq,hl,hw⟩:=hw;subst e1;cases r
 let⟨XT,rv,pl,hz⟩:=I.list hq;refine qk (I.ok.hd hc) pl.isList (by simp[hn,← hl,rv.length]) hst λh' hx=>?_;let I1:Inv X XR σ H {s with heap:=h'}:=I.kept (t':=s.toks) λb o e=>hx b o (UB (WT e)) e;exact h XR _ σ H xs _ Q I1 (~~~rv) hw
def wa (r:Rep α):Rep (α×α):=⟨λK H v x=>(ae r).R K H v [x.1,x.2],λs h=>(ae r).mono s h⟩
theorem zq (i j:Nat){k:Nat}(hc:X.calm=true:=by rfl)(hN:X.N.Nodup:=by first | assumption | decide)(hi:X.N[i]?∣x:=by rfl)(hx:`aj)(hf:autoParam (fM X x) YU)(hj:X.N[j]?∣y:=by rfl)(hy:`aw)(hf':autoParam (X.fn y=true∨X.env.scope.names.lookup y∣.local) YU):
 BG X (.Tuple [.Name x p1,.Name y p2] k pos) (wa r) (λw Z=>(Z.set i (.im r w.1)).set j (.im r w.2)):=λσ H0 R0 H R Z v w E h Q q=>by
 let⟨a,vs,rfl,ha,pp,_⟩:=h;obtain⟨v1,v2,rfl,e1,e2⟩:∃v1 v2,vs=[v1,v2]/\r.R X.K R v1 w.1/\r.R X.K R v2 w.2:=by
  cases pp with
  | cons h1 t=>cases t with
    | cons h2 t=>cases t;exact⟨_,_,rfl,h1,h2⟩
 exact gS (MF hc (fb (fz hN hi hx hf) (fb (fz hN hj hy hf') pJ))) ⟨a,_,rfl,bw.of (E.sub _ _ ha),rfl,v1,[v2],rfl,v2,[],rfl,rfl,q _ ((E.set i e1).set j e2)⟩
theorem E6 (i:Nat){ys:`u}(he:ba X e Z r ys Γ1)(h:∀a b,N (Γ1.set i (.ob (fN r a [b] [ys]))))(hN:X.N.Nodup:=by first | assumption | decide)(hi:X.N[i]?∣y:=by rfl)(hx:`aw)(hse:dq X e []:=by rfl)(hs:Vh (.List [e] p2) (some (.Name y p1)) pos.line X.env=pure false:=by rfl)(hf:autoParam (fM X y) YU):W1 X (.Assign [.Name y p1] (.List [e] p2) pos) Z N T:=λσ H0 R0 H R E D dn dr=>by
 refine sS (jV hN hi hx (sE (aI aN br hse)) hs hf) (he σ H0 R0 H R E _ λb vs H1 R1 E1 s1 hb hRb h0b offb pp _=>⟨by show 1<=U9;decide,λa ha=>?_⟩);let E2:=E1.grow (Ext.d8 E1.sub ha (.lst [.ref b]));let nab:b≠a:=λz=>by rw[z,ha] at hb;cases hb
 refine dn _ _ R1 _ (E2.setG (en:=.ob (fN r a [b] [ys])) i ⟨⟨.ref a,rfl,rfl,aD,?_,by simpa using UT nab⟩,λc hc=>?_⟩ (λc hc=>?_) λc hc j e _ qj w=>?_) s1 (h a b)
 ·refine⟨rfl,λk c xs h1 h2=>?_⟩
  match k with
  | 0=>cases h1;cases h2;exact⟨vs,(aF nab).trans hb,pp⟩
  | k+1=>simp at h1
 ·obtain rfl | hc:=Sj.mp hc
  ·exact E1.sub.free ha
  ·rw[Sa.mp hc];exact hRb
 ·obtain rfl | hc:=Sj.mp hc
  ·exact E1.ext.h.free ha
  ·rw[Sa.mp hc];exact h0b
 ·obtain rfl | hc:=Sj.mp hc
  ·exact E1.off ha j e qj w
  ·rw[Sa.mp hc] at w;exact offb j e qj w
theorem IF (i:Nat){ys:`u}(hΓ:Z[i]?∣(.ob (fN r a as (xss++[ys]))))(h:∀bs,N (Z.set i (.ob (fN r a bs xss))))(hN:`o)(Yn:Vh (.Call (.Attribute `h "pop" ap) [] [] cp) none pos.line X.env=pure false:=by rfl)(X0:fh X `h "pop":=by rfl)(XZ:`Z=true:=by rfl):W1 X (.Expr (.Call (.Attribute `h "pop" ap) [] [] cp) pos) Z N T:=λσ H0 R0 H R E D dn dr=>by
 let⟨⟨v,ea,rfl,ha,hr,nd⟩,hR⟩:=E.ent i _ hΓ;let hl:as.length=xss.length+1:=by rw[hr.1];simp
 obtain⟨bs,b,rfl⟩:∃bs b,as=bs++[b]:=⟨_,_,(S5 (λe=>by rw[e] at hl;cases hl)).symm⟩
 let bl:bs.length=xss.length:= ~~~hl
 let⟨n1,n2⟩:=Sz.mp nd;refine sS (dQ (BH WG PySem.F.slot_list_pop PySem.F.type_list_pop C5 (aV hN) X0 XZ) Yn) ⟨.ref a,at_of ea,.inl ⟨rfl,_,bw.of ha⟩,a,_,.ref b,rfl,rfl,ha,`d,?_⟩;let sub:∀c,c∈a::bs->c∈a::(bs++[b]):=λc hc=>by
  obtain rfl | hc:=Sj.mp hc
  ·exact Se
  ·exact Sb _ (Sn _ hc)
 refine dn σ _ R _ (E.lu (en:=.ob (fN r a bs xss)) hΓ Se ⟨⟨.ref a,ea,rfl,by rw[aD];simp,⟨bl,λk c xs h1 h2=>?_⟩,(Sz.mpr ⟨λz=>n1 (Sn _ z),(S0.mp n2).1⟩)⟩,λc hc=>hR c (sub c hc)⟩ λc w=>.inl (sub c w)) `S (h bs);let kl:=(R6.mp h1).1;let⟨ws,q1,q2⟩:=hr.2 k c xs (by rw[SD kl];exact h1) (by rw[SD `a];exact h2);let ca:c≠a:=λz=>n1 (z▸Sn _ (Sg h1));exact⟨ws,(aF ca).trans q1,q2⟩
theorem HE (i:Nat){c:Expr}{p3:Pos}{xs:`u}{y:α}{k l:Int}(he:EV X e Z r y Z)(hb:EV X b Z ag k Z)(hc:EV X c Z ag l Z)(hΓ:`aC)(hk:fL xss.length k∣j)(hx:xss[j]?∣xs)(hn:fL xs.length l∣n)(h:N (Z.set i (.ob (fN r a as (xss.set j (xs.set n y))))))(hN:`o)(hsx:dP b:=by exact λ_ _=>rfl)(ha:∀v,VD (.Subscript `ag c p3) X.env v=(do
  let ov ← Vu [v] (eval `ag X.env)
  let iv ← Vu [v,ov] (eval c X.env)
  VR p3
  Vu [v,ov,iv] (We ov iv v)
  release [v,ov,iv] []):=by intro _;rfl)(hs:VP [.Subscript `ag c p3] e pos.line X.env=pure false:=by rfl)(hw:VQ [.Subscript `ag c p3] e X.env=pure none:=by rfl)(h1:(Vp [.Subscript `ag c p3] X.env).map (·.2)=[VD (.Subscript `ag c p3) X.env]:=by rfl):
 W1 X (.Assign [.Subscript `ag c p3] e pos) Z N T:=λσ H0 R0 H R E D dn dr=>by
 refine sS (sD aN (xE aN aN set_list ha) hs hw h1) `K;refine DS i hb hΓ hk E1 (λd H2 R2 E2 s2 hd'=>?_) hN hsx;refine hc σ H0 R0 H2 R2 E2 _ λu H3 R3 E3 s3 e3=>?_;let⟨⟨v',ea,rfl,ha3,hr,nd⟩,hR⟩:=E3.ent i _ hΓ;let⟨ws,q1,q2⟩:=hr.2 j d xs hd' hx;let⟨n1,n2⟩:=Sz.mp nd;let cm:d∈as:=Sg hd';refine⟨d,ws,l,n,rfl,e3,q1,by rw[q2.length];exact hn,?_⟩;refine dn σ _ R3 _ (E3.lu (en:=.ob (fN r a as (xss.set j (xs.set n y)))) hΓ (Sb _ cm) ⟨⟨.ref a,ea,rfl,?_,hr.put n2 hd' (kG (r.mono (s2.trans s3) e1) n q2),nd⟩,hR⟩ λc w=>.inl w) (s1.trans (s2.trans s3)) h;rw[aF (show a≠d from λz=>n1 (z▸cm))];exact ha3
theorem nK (hΓ:`aC)(hz:xss.length<=U9)(hzi:∀xs∈xss,xs.length<=U9)(σ:St)(H0 R0 H R:Hp)(E:`aU):ar X.K σ H H H H ((Z.map nY).set i (.im (ae (ae r)) xss)):=by
 let⟨⟨v,ea,rfl,ha,hr,nd⟩,hR⟩:=E.ent i _ hΓ;exact E.YI.ma (i:=i) (e0:=.no) (by rw[Sf,hΓ];rfl) ⟨.ref a,ea,a,_,rfl,ha,gJ.pair E.sub (λ_ _=>rfl) hr hzi,hz⟩ λb w=>by cases w
def tw2 (t:α×α):List α:=[t.1,t.2]
theorem v8 {K:Xh}{R:Hp}{r:Rep α}:∀{vs:`P}{st:List (α×α)},PySem.Paired ((ae r).R K R) vs (st.map tw2)->PySem.Paired ((wa r).R K R) vs st
 | _,[],h=>by cases h;exact .nil
 | _,t::st,h=>by
   cases h with
   | cons a b=>exact .cons a (v8 b)
theorem EV.two {st:List (α×α)}(h:EV X e Z (ae (ae r)) (st.map tw2) Γ1):EV X e Z (ae (wa r)) st Γ1:=h.re λK R v ⟨a,vs,e,q,p,z⟩=>⟨a,vs,e,q,v8 p,by rwa [R9] at z⟩
end Fc
namespace K1
open PySem L2 Fc
open PySem.Spec hiding Row
open PyProof.Rows hiding St
open PySem.Builtin.Int (intBits)
variable {P:Ve}{w:World}{K:Xh}{mg:Rt}{base:Heap}{f:Addr}{fd:Vi}
abbrev Qi (v:Rv×List Fc.Row):Ent:=.im (cQ (ae ag) (ae dU)) v
abbrev aA (x:Int):Ent:=.im ag x
abbrev c8 (x:Rv):Ent:=.im (ae ag) x
theorem oB {x y:Int}(h0:0<=x)(h1:x<4294967296):Wl x y:=.of_left (V3 `a `a)
variable {n:Nat}{i:Int}
theorem wq (h0:0<=i)(h1:i<n):fL n i∣i.toNat:=by unfold fL;rw[XG h0,XG h1]
abbrev js:Rep (Int×Int):=cQ ag ag
theorem aL (h:n<=1000000):n<=U9:=Ux h `c
variable {α:Type}{xs:`u}
theorem a7 (d:α)(h0:0<=i)(h1:i<xs.length):bX xs i∣xs.getD i.toNat d:=by
 rw[gb h0 h1,R7 `a,R8,R7 `a];rfl
theorem lF {y:α}(h:xs[xs.length-1]?∣y):bX xs (-1)∣y:=by
 let hl:0<xs.length:=by
  have:=(R6.mp h).1;cbv
 unfold bX fL;rw[XF `a,XG `a];show xs[((-1:Int)+(xs.length:Int)).toNat]?=_;rw[show((-1:Int)+(xs.length:Int)).toNat=xs.length-1 by cbv];exact h
end K1
namespace K1
open PySem
variable {P:Ve}{w:World}{K:Xh}{mg:Rt}{base:Heap}{f:Addr}{fd:Vi}
abbrev top (i:Nat):Stmt:=PySem.Challenge.pw_fewcounters_k67_whole_walks_broken_off.main.body.getD i (.Pass ⟨0,0,0,0⟩)
abbrev yB:Nat:=12
abbrev yh:Nat:=13
abbrev tK:Nat:=14
abbrev yI:Nat:=15
abbrev OK:Nat:=16
abbrev HF:Nat:=25
abbrev Fp:Nat:=26
abbrev Ik:Nat:=27
abbrev wj:Nat:=28
abbrev t8:Nat:=29
abbrev Bf:Nat:=30
abbrev rq:Nat:=31
abbrev yH:Nat:=32
abbrev yA:Nat:=33
abbrev vq:Nat:=34
abbrev Cn:Nat:=35
abbrev vX:Nat:=36
abbrev Bl:Nat:=37
abbrev Bk:Nat:=38
abbrev xG:Nat:=39
abbrev sN:Nat:=42
abbrev vp:Nat:=43
abbrev vg:Nat:=44
abbrev tP:Nat:=45
abbrev qK:Nat:=46
abbrev A2:Nat:=47
abbrev uf:Nat:=48
abbrev vo:Nat:=49
abbrev qm:Nat:=50
abbrev ua:Nat:=51
abbrev qI:Nat:=52
abbrev sX:Nat:=53
abbrev DW:Nat:=55
abbrev DC:Nat:=61
abbrev rP:Nat:=62
abbrev vk:Nat:=64
abbrev xQ:Nat:=65
abbrev wQ:Nat:=66
abbrev ux:Nat:=67
abbrev vm:Nat:=68
abbrev xr:Nat:=69
abbrev vt:Nat:=70
abbrev vj:Nat:=71
abbrev xR:Nat:=72
abbrev qC:Nat:=73
abbrev vi:Nat:=74
abbrev xu:Nat:=75
abbrev tZ:Nat:=76
abbrev yC:Nat:=77
abbrev wN:Nat:=78
abbrev xK:Nat:=79
abbrev tJ:Nat:=80
abbrev LJ:Nat:=81
end K1
namespace K1
open PySem L2 Fc
open PySem.Spec hiding Row
open PyProof.Rows hiding St
open PySem.Builtin.Int (intBits)
variable {P:Ve}{w:World}{K:Xh}{mg:Rt}{base:Heap}{f:Addr}{fd:Vi}
structure cf (K:Xh)(mg:Rt):Prop where
 len:mg "len"=none
 min:mg "min"=none
 range:mg "range"=none
 int:mg "int"=none
 list:mg "list"=none
 zip:mg "zip"=none
 enumerate:mg "enumerate"=none
 reversed:mg "reversed"=none
 any:mg "any"=none
 all:mg "all"=none
noncomputable def AL (c:Int):Nat->Int
 | 0=>c
 | n+1=>AL c n/2147483587
def jm (d k:Int):Int:=d%10 ^ 18+48271*(k+1)
def rM (u k:Int):Int:=u*u%2147483629+69621*k
def xV (d k:Int):Int:=rM (jm d k) k*rM (jm d k) k%2147483587
def xJ (ns:Rv)(k:Int):Int:=AL (ns.getD (k/8%63).toNat 0/10 ^ 18) (k%8).toNat
def vK (ns:Rv)(k:Int):Bool:=decide (k/8%63<(ns.length:Int))&&decide (10 ^ 18<=ns.getD (k/8%63).toNat 0)
noncomputable def aQ (ns:Rv)(k:Int):Int:=
 if vK ns k=true/\0<xJ ns k then xJ ns k%2147483587
 else xV `aA k
theorem uI (ns:Rv)(k:Int):0<=aQ ns k/\aQ ns k<2147483587:=by
 unfold aQ;split
 ·exact⟨RU _ `c,RS _ `c⟩
 ·unfold xV;exact⟨RU _ `c,RS _ `c⟩
abbrev G0:Stmt:=top vk
abbrev P1:Rx:=["_law_script","_law_k","_law_at","_law_cell","_law_j","_law_number"]
structure zS (ns:Rv):Prop where
 l:ns.length<=63
 b:∀n∈ns,intBits n<=2 ^ 20
def Hd:dh:=λK ps T=>∃(ns:Rv)(k:Int),ps=[⟨cT,ns⟩,⟨ag,k⟩]/\zS ns/\0<=k/\k<=1000000/\T=cR K ag (· =aQ ns k)
theorem NZ (M:`ba)(Df:Def K mg "_law_mixed" G0 ["_law_script","_law_k"]):aE P w K mg base "_law_mixed" 1 (aR Hd K):=by
 refine bP (N:=P1) Df `n;let⟨ns,k,rfl,hs,k0,k1,rfl⟩:=hS;let h63:=hs.l;let a0:=RU (k/8) (show(63:Int)≠0 by decide);refine ai (bc 2 (c6 (mO `g ev_int ⟨`c,`c⟩) ev_int `c) ?_);let rest:∀e3 e4:Ent,¬(vK ns k=true/\0<xJ ns k)->WS (eU eI P w K mg base P1 "_law_mixed" (ao G0) f XU A outer s H E).gW ((bE G0).drop 2) [.im cT ns,aA k,aA (k/8%63),e3,e4,.no] (λ_=>False) (cR K ag (· =aQ ns k)):=by
  intro e3 e4 hn;refine ai (bc 3 ev_int ?_);change WS _ _ [.im cT ns,aA k,aA (k/8%63),aA 0,e4,.no] _ _;refine bD (N1:=λZ=>Z=[.im cT ns,aA k,aA (k/8%63),aA `aA,e4,.no]) (a9 (ay iL (pT M.len `e) ev_int) (λh=>?_) `J) ?_
  ·let hl:(0:Int)<ns.length:=XH h;let hmin:(if(ns.length:Int)<63 then(ns.length:Int) else 63)=ns.length:=by
    by_cases q:(ns.length:Int)<63
    ·rw[XG q]
    ·rw[XF q];cbv
   let q0:=RU k (show(ns.length:Int)≠0 by cbv);let q1:=RS k hl;refine aj (bc 3 (yv `e (c6 `g (EV.cast (yP M.min (ah ev_int (ah (pT M.len `e) ax))) hmin) hl) (a7 0 q0 q1)) ?_);rw[XG (by cbv:0<ns.length)];rfl
  ·let hl:¬(0:Int)<ns.length:=XI h;rw[XF `a]
  rintro _ rfl;let e:aQ ns k=xV `aA k:=by unfold aQ;rw[XF hn]
  rw[e];generalize `aA=d;let u0:=RU d (show(10:Int) ^ 18≠0 by decide);let u1:=RS d (show(0:Int)<10 ^ 18 by decide);refine ai (bc 5 (y:=jm d k) (bR (c6 `p (xP ev_int ev_int ⟨`c,`c,`c⟩) `c) (nq ev_int (bR `g ev_int) (oB `c `c))) ?_);let n0:0<=jm d k:=by unfold jm;cbv
  let n1:jm d k<2 ^ 63:=by unfold jm;cbv
  let m0:=RU (jm d k*jm d k) (show(2147483629:Int)≠0 by decide);let m1:=RS (jm d k*jm d k) (show(0:Int)<2147483629 by decide);refine ai (bc 5 (y:=rM (jm d k) k) (bR (c6 (nq `ai `ai (GU n0 n1)) ev_int `c) (nq ev_int `g (oB `c `c))) ?_);let v0:0<=rM (jm d k) k:=by unfold rM;cbv
  let v1:rM (jm d k) k<2 ^ 63:=by unfold rM;cbv
  exact aj (aX (c6 (nq `ai `ai (GU v0 v1)) ev_int `c) rfl)
 refine ai (a9 (TW.tv (cZ (ay nO `r (pT M.len `e)) (λh=>eK (ay Mw (yv `e `r (a7 0 a0 (XH h))) (xP ev_int ev_int ⟨`c,`c,`c⟩))))) (λh=>?_) (λh=>aG (rest _ _ (λ⟨q,_⟩=>by rw[show vK ns k=false from h] at q;cases q))))
 let hbig:vK ns k=true:=h;let⟨hl,_⟩:=Bool.and_eq_true_iff.mp hbig;let hl:=XH hl;refine ai (bc 3 (qP (yv `e `r (a7 0 a0 hl)) (xP ev_int ev_int ⟨`c,`c,`c⟩) ⟨`c,`c⟩) ?_);let j0:=RU k (show(8:Int)≠0 by decide);let j1:=RS k (show(0:Int)<8 by decide);refine bD (N1:=λZ=>∃e4,Z=[.im cT ns,aA k,aA (k/8%63),aA (xJ ns k),e4,.no]) (bO (λi Z=>∃e4,Z=[.im cT ns,aA k,aA (k/8%63),aA (AL (ns.getD (k/8%63).toNat 0/10 ^ 18) i),e4,.no]) (dA M.range (c6 `g ev_int `c) ⟨`a,`a⟩) (aW 4) ⟨_,rfl⟩ (λi j Z _ hΓ=>?_) `X) ?_
 ·let⟨e4,rfl⟩:=hΓ;exact aj (bc 3 (qP `p ev_int ⟨`c,`c⟩) ⟨_,rfl⟩)
 ·let⟨e4,rfl⟩:=hΓ;rw[bp];exact⟨e4,rfl⟩
 rintro _ ⟨e4,rfl⟩;refine aj (a9 (ay iL `p ev_int) (λh=>?_) (λh=>aG (rest _ _ (λ⟨_,q⟩=>XE q (XI h)))));let h:0<xJ ns k:=XH h;exact aj (aX (c6 `p ev_int `c) (by unfold aQ;rw[XG ⟨hbig,h⟩]))
abbrev de:Rep (Rv ⊕ Int):=xT cT ag
abbrev ck (ns:Rv)(k c:Int):List (Rv ⊕ Int):=[.inl ns,.inr k,.inr c]
abbrev Qk:Stmt:=top xQ
def y6:mf (Rv ⊕ Int):=λK xs ps T=>∃(ns:Rv)(k c:Int),xs=ck ns k c/\ps=[]/\zS ns/\0<=k/\k<1000000/\T=λxs'=>cR K ag λz=>xs'=ck ns (k+1) c/\z=aQ ns (k+1)
theorem M9 (CM:aE P w K mg base "_law_mixed" 1 (aR Hd K))(Df:Def K mg "_law_pull" Qk ["_law_pen"]):aE P w K mg base "_law_pull" 2 (gG de y6 K):=by
 refine Ic (N:=["_law_pen"]) Df (λf XU A outer s H E a xs qs T nd hr hS=>?_);let⟨ns,k,c,rfl,rfl,hs,k0,k1,rfl⟩:=hS;refine ai (eN 0 (j:=1) (EV.inr (bR (EV.qB (dM 0 ev_int rfl (y:=(Sum.inr k:Rv ⊕ Int)) rfl)) ev_int)) ev_int rfl rfl rfl ?_);exact aj (KA 0 (aJ CM hr (ah (EV.ofl (dM 0 ev_int rfl (y:=(Sum.inl ns:Rv ⊕ Int)) rfl)) (ah (EV.qB (dM 0 ev_int rfl (y:=(Sum.inr (k+1):Rv ⊕ Int)) rfl)) ax)) ⟨ns,k+1,rfl,hs,`a,`a,rfl⟩) rfl ⟨rfl,rfl⟩)
abbrev jD:Str:="abcdefghijklmnopqrstuvwxyz"
abbrev jJ:Rx:=["part","end","do","call","if","else","while","leave","back"]
noncomputable def qr (m:Int):Nat->Str
 | 0=>""
 | n+1=>qr m n++mE jD ((m/8+(n:Int)*(m/88))%26).toNat
noncomputable def X9 (n:Int):Str:=
 if n%4=0 then jJ.getD (n/4%9).toNat ""
 else if n%4=1 then jJ.getD (n/4%9).toNat ""++mE jD (n/4/9%26).toNat
 else qr (n/4) (1+n/4%8).toNat
structure cY (x:Str):Prop where
 l1:1<=x.length
 l8:x.length<=8
 az:∀c∈x.cps.toList,97<=c/\c<=122
theorem len_app (x y:Str):(x++y).length=x.length+y.length:=by
 show(x.cps++y.cps).size=_;rw[Array.size_append];rfl
theorem tV {x y:Str}{c:Nat}(h:c∈(x++y).cps.toList):c∈x.cps.toList∨c∈y.cps.toList:=by
 let e:(x++y).cps.toList=x.cps.toList++y.cps.toList:=by show(x.cps++y.cps).toList=_;simp
 rw[e] at h;exact Sl.mp h
theorem MH (i:Nat)(h:i<26):97<=jD.cps.getD i 0/\jD.cps.getD i 0<=122:=by
 have:∀j:Fin 26,97<=jD.cps.getD j.val 0/\jD.cps.getD j.val 0<=122:=`b
 exact this ⟨i,h⟩
variable {i:Nat}
theorem BD (h:i<26):∀c∈(mE jD i).cps.toList,97<=c/\c<=122:=by
 intro c hc;have:c=jD.cps.getD i 0:=by simpa[mE] using hc
 rw[this];exact MH i h
theorem PJ (x:Int):(x%26).toNat<26:=by
 have:=RU x (show(26:Int)≠0 by decide);have:=RS x (show(0:Int)<26 by decide);cbv
theorem qf (m:Int):∀n,(qr m n).length=n
 | 0=>rfl
 | n+1=>by rw[qr,len_app,qf m n];rfl
theorem BN (m:Int):∀n,∀c∈(qr m n).cps.toList,97<=c/\c<=122
 | 0,c,h=>by
   let e:(qr m 0).cps.toList=[]:=rfl;rw[e] at h;cases h
 | n+1,c,h=>by
   obtain z | z:=tV h
   ·exact BN m n c z
   ·exact BD (PJ _) c z
theorem DH (i:Nat)(h:i<9):cY (jJ.getD i "")/\(jJ.getD i "").length<=5:=by
 have:∀j:Fin 9,(1<=(jJ.getD j.val "").length/\(jJ.getD j.val "").length<=5)/\∀c∈(jJ.getD j.val "").cps.toList,97<=c/\c<=122:=`b
 let⟨⟨a,b⟩,c⟩:=this ⟨i,h⟩;exact⟨⟨a,Ux b `c,c⟩,b⟩
theorem jz (n:Int):cY (X9 n):=by
 let q0:=RU (n/4) (show(9:Int)≠0 by decide);let q1:=RS (n/4) (show(0:Int)<9 by decide);let r0:=RU (n/4) (show(8:Int)≠0 by decide);let r1:=RS (n/4) (show(0:Int)<8 by decide);let⟨w1,w2⟩:=DH (n/4%9).toNat `a;unfold X9;split
 ·exact w1
 split
 ·refine⟨?_,?_,λc hc=>?_⟩
  ·rw[len_app];have:=w1.l1;cbv
  ·rw[len_app];show _+1<=8;cbv
  ·obtain z | z:=tV hc
   ·exact w1.az c z
   ·exact BD (PJ _) c z
 ·exact⟨by rw[qf];cbv,by rw[qf];cbv,BN _ _⟩
abbrev Qc:Stmt:=top wQ
abbrev nNM:Rx:=["_law_number","_law_letters","_law_words_here","_law_way","_law_name_here","_law_k"]
def GR:dh:=λK ps T=>∃n:Int,ps=[⟨ag,n⟩]/\0<=n/\n<2147483587/\T=cR K aq (· =X9 n)
theorem M7 (M:`ba)(Df:Def K mg "_law_name" Qc ["_law_number"]):aE P w K mg base "_law_name" 1 (aR GR K):=by
 refine bP (N:=nNM) Df `n;let⟨n,rfl,n0,n1,rfl⟩:=hS;let q0:=RU (n/4) (show(9:Int)≠0 by decide);let q1:=RS (n/4) (show(0:Int)<9 by decide);let r0:=RU (n/4) (show(8:Int)≠0 by decide);let r1:=RS (n/4) (show(0:Int)<8 by decide);let ll:jD.length=26:=`b
 let lz:jD.length<=U9:=by rw[ll];decide
 refine ai (bc 1 (y:=jD) aB ?_);refine ai (bc 2 (y:=jJ) (ba.im (aP (r:=aq) (ak aB (ak aB (ak aB (ak aB (ak aB (ak aB (ak aB (ak aB (ak aB aM))))))))) (by show 9<=U9;decide))) ?_);refine ai (bc 3 (c6 `e ev_int `c) ?_);refine ai (bc 0 (mO `e ev_int ⟨`c,`c⟩) ?_);let hw:bX jJ (n/4%9)∣(jJ.getD (n/4%9).toNat ""):=a7 (xs:=jJ) "" q0 (by show _<((9:Nat):Int);cbv);refine ai (a9 (ay gi `p ev_int) (λh=>?_) `J)
 ·let h:n%4=0:=XH h;exact aj (aX (aK `r (c6 `e ev_int `c) hw) (by unfold X9;rw[XG h]))
 let h0:¬n%4=0:=XI h;let wl:=(DH (n/4%9).toNat `a).2;let s0:=RU (n/4/9) (show(26:Int)≠0 by decide);let s1:=RS (n/4/9) (show(0:Int)<26 by decide);refine ai (a9 (ay gi `p ev_int) (λh=>?_) `J)
 ·let h:n%4=1:=XH h;exact aj (aX (uo (aK `r (c6 `e ev_int `c) hw) (Dx `g (c6 (mO `e ev_int ⟨`c,`c⟩) ev_int `c) s0 (by rw[ll];exact s1) lz) (Ux (show _<=6 by show _+1<=6;cbv) `c)) (by unfold X9;rw[XF h0,XG h]))
 let h1:¬n%4=1:=XI h;refine ai (bc 4 (y:=qr (n/4) 0) aB ?_);refine bD (N1:=λZ=>∃e5,Z=[aA (n/4),.im aq jD,.im (ae aq) jJ,aA (n%4),.im aq (X9 n),e5]) (bO (λi Z=>∃e5,Z=[aA (n/4),.im aq jD,.im (ae aq) jJ,aA (n%4),.im aq (qr (n/4) i),e5]) (dA M.range (bR ev_int (c6 `e ev_int `c)) ⟨`a,`a⟩) (aW 5) ⟨_,rfl⟩ (λi j Z hj hΓ=>?_) `X) ?_
 ·let⟨e5,rfl⟩:=hΓ;let⟨jl,ej⟩:=eR hj;obtain rfl:j=(i:Int):=`a
  let t0:=RU (n/4/8+(i:Int)*(n/4/88)) (show(26:Int)≠0 by decide);let t1:=RS (n/4/8+(i:Int)*(n/4/88)) (show(0:Int)<26 by decide);exact aj (bc 4 (y:=qr (n/4) (i+1)) (uo `T (Dx `g (c6 (bR (mO `e ev_int ⟨`c,`c⟩) (nq `ai (mO `e ev_int ⟨`c,`c⟩) (oB `a `a))) ev_int `c) t0 (by rw[ll];exact t1) lz) (by rw[qf];exact Ux (show _<=20 by show _+1<=20;cbv) `c)) ⟨_,rfl⟩)
 ·let⟨e5,rfl⟩:=hΓ;rw[bp];refine⟨e5,?_⟩;let e:X9 n=qr (n/4) (1+n/4%8).toNat:=by unfold X9;rw[XF h0,XF h1]
  rw[e]
 rintro _ ⟨e5,rfl⟩;exact aj (aX `T rfl)
inductive Th
 | Yh (x:Str)
 | call (j:Int)
 | ifs (x:Str) (a b:`U)
 | X1 (x:Str) (a:`U)
 | leave
 | back
mutual
noncomputable def kY:Th->PV
 | .Yh x=>.lst [.str "do",.str x]
 | .call j=>.lst [.str "call",.int j]
 | .ifs x a b=>.lst [.str "if",.str x,.lst (bN a),.lst (bN b)]
 | .X1 x a=>.lst [.str "while",.str x,.lst (bN a)]
 | .leave=>.lst [.str "leave"]
 | .back=>.lst [.str "back"]
noncomputable def bN:List Th->List PV
 | []=>[]
 | t::ts=>kY t::bN ts
end
theorem fQ:∀ts:List Th,bN ts=ts.map kY
 | []=>by rw[bN];rfl
 | t::ts=>by rw[bN,fQ ts];rfl
mutual
noncomputable def fD:Th->Bool
 | .leave=>false
 | .back=>false
 | .ifs _ a b=>dG a ||dG b
 | _=>true
noncomputable def dG:List Th->Bool
 | []=>true
 | t::ts=>fD t&&dG ts
end
mutual
noncomputable def gA:Th->Nat
 | .ifs _ a b=>1+max (dH a) (dH b)
 | .X1 _ a=>1+dH a
 | _=>0
noncomputable def dH:List Th->Nat
 | []=>0
 | t::ts=>max (gA t) (dH ts)
end
mutual
noncomputable def cn:Th->Nat
 | .Yh _=>1
 | .call _=>1
 | .ifs _ a b=>2+bY a+bY b
 | .X1 _ a=>2+bY a
 | _=>0
noncomputable def bY:List Th->Nat
 | []=>0
 | t::ts=>cn t+bY ts
end
variable {ns:Rv}{XQ:Int}
section
variable {XO:Rv}{n b:Nat}
theorem kP:∀a b:List Th,bY (a++b)=bY a+bY b
 | [],b=>by rw[bY];simp
 | t::a,b=>by rw[Tq,bY,bY,kP a b];cbv
theorem ny:∀a b:List Th,dH (a++b)=max (dH a) (dH b)
 | [],b=>by rw[dH];simp
 | t::a,b=>by rw[Tq,dH,dH,ny a b];cbv
abbrev Pn:=Int×Int
noncomputable def Yk (ns XO:Rv)(sub:`bb)(XQ:Int)(s:Pn):Th×Pn:=
 if aQ ns (s.1+1)%12=0/\0<XQ then(.leave,(s.1+2,s.2))
 else if aQ ns (s.1+1)%12=1 then(.back,(s.1+2,s.2))
 else if 9<aQ ns (s.1+1)%12/\0<XO.length then(.call (XO.getD (aQ ns (s.1+3)%(XO.length:Int)).toNat 0),(s.1+3,s.2-1))
 else match sub with
  | some L=>
    if(3<aQ ns (s.1+1)%12/\aQ ns (s.1+1)%12<7)/\1<s.2 then(.ifs (X9 (aQ ns (s.1+2))) (L XQ (s.1+2,s.2-2)).1 (L XQ (L XQ (s.1+2,s.2-2)).2).1,(L XQ (L XQ (s.1+2,s.2-2)).2).2)
    else if(6<aQ ns (s.1+1)%12/\aQ ns (s.1+1)%12<10)/\1<s.2 then(.X1 (X9 (aQ ns (s.1+2))) (L (XQ+1) (s.1+2,s.2-2)).1,(L (XQ+1) (s.1+2,s.2-2)).2)
    else(.Yh (X9 (aQ ns (s.1+2))),(s.1+2,s.2-1))
  | none=>(.Yh (X9 (aQ ns (s.1+2))),(s.1+2,s.2-1))
noncomputable def qR:Th->Bool
 | .back=>true
 | _=>false
noncomputable def jo (ns XO:Rv)(sub:`bb)(tp:Bool)(XQ:Int)(x:List Th×Pn):List Th×Pn:=
 if 0<x.2.2/\dG x.1=true then
  if tp=true/\x.1.length=0/\qR (Yk ns XO sub XQ x.2).1=true then(x.1++[.Yh "back"],((Yk ns XO sub XQ x.2).2.1,(Yk ns XO sub XQ x.2).2.2-1))
  else(x.1++[(Yk ns XO sub XQ x.2).1],(Yk ns XO sub XQ x.2).2)
 else x
noncomputable def Yj {α:Type}(f:α->α):Nat->α->α
 | 0,x=>x
 | n+1,x=>f (Yj f n x)
noncomputable def gq (ns:Rv)(tp:Bool)(k:Int):Nat:=(aQ ns (k+1)%4+2*(if tp then 1 else 0)).toNat
noncomputable def X8 (ns XO:Rv):Nat->Bool->Int->Pn->List Th×Pn
 | 0,tp,XQ,s=>Yj (jo ns XO none tp XQ) (gq ns tp s.1) ([],(s.1+1,s.2))
 | n+1,tp,XQ,s=>Yj (jo ns XO (some (X8 ns XO n false)) tp XQ) (gq ns tp s.1) ([],(s.1+1,s.2))
structure Gg (n b:Nat)(s:Pn)(r:List Th×Pn):Prop where
 dp:dH r.1<=n
 c:(bY r.1:Int)+r.2.2=s.2/\0<=r.2.2
 k:s.1<=r.2.1/\r.2.1<=s.1+b
 l:r.1.length<=5
def Gx (n b:Nat)(L:Int->Pn->List Th×Pn):Prop:=∀lp s,0<=s.2->Gg n b s (L lp s)
theorem Ae (ns:Rv)(tp:Bool)(k:Int):gq ns tp k<=5:=by
 unfold gq;let a:=RU (aQ ns (k+1)) (show(4:Int)≠0 by decide);let b:=RS (aQ ns (k+1)) (show(0:Int)<4 by decide);cases tp<;>simp<;>cbv
structure uC (n:Nat)(b:Nat)(s:Pn)(r:Th×Pn):Prop where
 dp:gA r.1<=n
 c:(cn r.1:Int)+r.2.2=s.2/\0<=r.2.2
 k:s.1<=r.2.1/\r.2.1<=s.1+b
theorem vP (ns XO:Rv)(XQ:Int)(s:Pn)(h:0<s.2):uC 0 3 s (Yk ns XO none XQ s):=by
 unfold Yk;split
 ·exact⟨by simp[gA],⟨by simp[cn],by show 0<=s.2;cbv⟩,by constructor<;>simp<;>cbv⟩
 split
 ·exact⟨by simp[gA],⟨by simp[cn],by show 0<=s.2;cbv⟩,by constructor<;>simp<;>cbv⟩
 split
 ·exact⟨by simp[gA],⟨by simp[cn];cbv,by show 0<=s.2-1;cbv⟩,by constructor<;>simp<;>cbv⟩
 ·exact⟨by simp[gA],⟨by simp[cn];cbv,by show 0<=s.2-1;cbv⟩,by constructor<;>simp<;>cbv⟩
theorem wZ {L:Int->Pn->List Th×Pn}(hL:Gx n b L)(XQ:Int)(s:Pn)(h:0<s.2):uC (n+1) (3+2*b) s (Yk ns XO (some L) XQ s):=by
 unfold Yk;split
 ·exact⟨by simp[gA],⟨by simp[cn],by show 0<=s.2;cbv⟩,by constructor<;>simp<;>cbv⟩
 split
 ·exact⟨by simp[gA],⟨by simp[cn],by show 0<=s.2;cbv⟩,by constructor<;>simp<;>cbv⟩
 split
 ·exact⟨by simp[gA],⟨by simp[cn];cbv,by show 0<=s.2-1;cbv⟩,by constructor<;>simp<;>cbv⟩
 dsimp only;split
 ·rename_i hh;let c2:1<s.2:=hh.2;let⟨d1,⟨a1,a2⟩,k1,_⟩:=hL XQ (s.1+2,s.2-2) (by show 0<=s.2-2;cbv);let⟨d2,⟨a3,a4⟩,k2,_⟩:=hL XQ (L XQ (s.1+2,s.2-2)).2 a2;dsimp only at a1 k1;refine⟨by simp only[gA];cbv,⟨by simp only[cn];push_cast;cbv,a4⟩,?_⟩;constructor
  ·exact RZ `a (RZ k1.1 k2.1)
  ·show(L XQ (L XQ (s.1+2,s.2-2)).2).2.1<=s.1+((3+2*b:Nat):Int);have:=k2.2;have:=k1.2;push_cast;cbv
 split
 ·rename_i _ hh;let c2:1<s.2:=hh.2;let⟨d1,⟨a1,a2⟩,k1,_⟩:=hL (XQ+1) (s.1+2,s.2-2) (by show 0<=s.2-2;cbv);dsimp only at a1 k1;refine⟨by simp only[gA];cbv,⟨by simp only[cn];push_cast;cbv,a2⟩,?_⟩;constructor
  ·exact RZ `a k1.1
  ·show(L (XQ+1) (s.1+2,s.2-2)).2.1<=s.1+((3+2*b:Nat):Int);have:=k1.2;push_cast;cbv
 ·exact⟨by simp[gA],⟨by simp[cn];cbv,by show 0<=s.2-1;cbv⟩,by constructor<;>simp<;>cbv⟩
structure sF (n b i:Nat)(k0 c0:Int)(x:List Th×Pn):Prop where
 dp:dH x.1<=n
 c:(bY x.1:Int)+x.2.2=c0/\0<=x.2.2
 k:k0<=x.2.1/\x.2.1<=k0+b*i
 l:x.1.length<=i
theorem sF.step {k0 c0:Int}{x:List Th×Pn}{sub:`bb}{tp:Bool}(h:sF n b i k0 c0 x)(ht:0<x.2.2->uC n b x.2 (Yk ns XO sub XQ x.2))(hb:1<=b):sF n b (i+1) k0 c0 (jo ns XO sub tp XQ x):=by
 let hm:((b*(i+1):Nat):Int)=(b*i:Nat)+b:=by push_cast;rw[Int.mul_add];cbv
 let hk:=h.k;let hc:=h.c;let hl:=h.l;let hd:=h.dp;unfold jo;split
 ·rename_i hh;let t:=ht hh.1;let tk:=t.k;let tc:=t.c;split
  ·rename_i h2;let hbk:(Yk ns XO sub XQ x.2).1= .back:=by
    have:=h2.2.2;cases e:(Yk ns XO sub XQ x.2).1<;>rw[e] at this<;>first | rfl | cases this
   rw[hbk] at tc;let hrw:(cn .back:Int)=0:=by simp[cn]
   rw[hrw] at tc;refine⟨?_,⟨?_,?_⟩,⟨?_,?_⟩,?_⟩
   ·rw[ny];simp[dH,gA];exact hd
   ·rw[kP];simp[bY,cn];cbv
   ·show 0<=(Yk ns XO sub XQ x.2).2.2-1;have:=hh.1;cbv
   ·exact RZ hk.1 tk.1
   ·show(Yk ns XO sub XQ x.2).2.1<=k0+((b*(i+1):Nat):Int);have:=tk.2;have:=hk.2;rw[hm];push_cast at *;cbv
   ·simp;cbv
  ·refine⟨?_,⟨?_,tc.2⟩,⟨?_,?_⟩,?_⟩
   ·rw[ny];have:=t.dp;simp[dH];cbv
   ·rw[kP];simp[bY];cbv
   ·exact RZ hk.1 tk.1
   ·show(Yk ns XO sub XQ x.2).2.1<=k0+((b*(i+1):Nat):Int);have:=tk.2;have:=hk.2;rw[hm];push_cast at *;cbv
   ·simp;cbv
 ·refine⟨hd,hc,⟨hk.1,?_⟩,`a⟩;have:=hk.2;show x.2.1<=k0+((b*(i+1):Nat):Int);rw[hm];push_cast at *;cbv
noncomputable def mU:Nat->Nat
 | 0=>16
 | n+1=>1+5*(3+2*mU n)
theorem yy {ns XO:Rv}{sub:`bb}{n b:Nat}(hb:1<=b)(hT:∀(lp:Int)(s:Pn),0<s.2->uC n b s (Yk ns XO sub lp s))(tp:Bool)(lp:Int)(s:Pn)(hs:0<=s.2):∀m,sF n b m (s.1+1) s.2 (Yj (jo ns XO sub tp lp) m ([],(s.1+1,s.2)))
 | 0=>⟨by simp[Yj,dH],⟨by simp[Yj,bY],hs⟩,⟨RY _,by simp[Yj]⟩,by simp[Yj]⟩
 | m+1=>sF.step (yy hb hT tp lp s hs m) (λh=>hT lp _ h) hb
theorem C1 {sub:`bb}(hb:1<=b)(hT:∀(lp:Int)(s:Pn),0<s.2->uC n b s (Yk ns XO sub lp s))(tp:Bool)(lp:Int)(s:Pn)(hs:0<=s.2):Gg n (1+5*b) s (Yj (jo ns XO sub tp lp) (gq ns tp s.1) ([],(s.1+1,s.2))):=by
 let h:=yy hb hT tp lp s hs (gq ns tp s.1);let hm:=Ae ns tp s.1;let hmul:b*gq ns tp s.1<=b*5:=Nat.mul_le_mul_left b hm;refine⟨h.dp,h.c,⟨by have:=h.k.1;cbv,?_⟩,Ux h.l hm⟩;have:=h.k.2;cbv
theorem nh (ns XO:Rv):∀(n:Nat)(tp:Bool),Gx n (mU n) (X8 ns XO n tp)
 | 0,tp=>λlp s hs=>C1 (b:=3) `c (λlp s h=>vP ns XO lp s h) tp lp s hs
 | n+1,tp=>λlp s hs=>C1 (b:=3+2*mU n) `a (λlp s h=>wZ (nh ns XO n false) lp s h) tp lp s hs
noncomputable def eE:Th->Str
 | .Yh _=>"do"
 | .call _=>"call"
 | .ifs _ _ _=>"if"
 | .X1 _ _=>"while"
 | .leave=>"leave"
 | .back=>"back"
noncomputable def gc:Th->List PV
 | .Yh x=>[.str "do",.str x]
 | .call j=>[.str "call",.int j]
 | .ifs x a b=>[.str "if",.str x,.lst (bN a),.lst (bN b)]
 | .X1 x a=>[.str "while",.str x,.lst (bN a)]
 | .leave=>[.str "leave"]
 | .back=>[.str "back"]
theorem fg (t:Th):kY t= .lst (gc t):=by cases t<;>rw[kY]<;>rfl
theorem Kn (t:Th):bX (gc t) 0∣(.str (eE t)):=by cases t<;>rfl
end
variable {a:Expr}{j:Nat}{t:Th}
section
variable {X:Cx}{Z Γ1:Ga}
theorem tO {p1 pos:Pos}(h:EV X a Z av (kY t) Γ1):EV X (.Subscript a (.Constant (.int 0) j p1) pos) Z aq (eE t) Γ1:=EV.sP (aK (EV.lP (by rw[fg] at h;exact h)) ev_int (Kn t))
theorem CZ {p1 pos:Pos}{i:Int}{xs:`aQ}(h:EV X a Z av (kY t) Γ1)(hx:bX (gc t) i∣.lst xs):EV X (.Subscript a (.Constant (.int i) j p1) pos) Z (ae av) xs Γ1:=EV.lP (aK (EV.lP (by rw[fg] at h;exact h)) ev_int hx)
end
abbrev Lw:Stmt:=top ux
abbrev nPA:Rx:=["_law_items","_law_one"]
theorem F6:bF nPA ["_law_items"] (ao Lw):=Y6
def GK (n:Nat):dh:=λK ps T=>∃ts:List Th,ps=[⟨ae av,bN ts⟩]/\dH ts<n/\T=cR K dc (· =dG ts)
theorem Ew (t:Th):(eE t="leave"∨eE t="back")->fD t=false:=by
 intro h;cases t<;>simp[eE] at h<;>first | (exfalso;revert h;decide) | simp[fD]
theorem ou {t:Th}:∀{ts:`U},t∈ts->gA t<=dH ts
 | s::ts,h=>by
   rw[dH];obtain rfl | h:=Sj.mp h
   ·cbv
   ·have:=ou h;cbv
theorem OT (F:dO K "_law_passes" "_law_passes" Lw f fd)(hm:mg "_law_passes"∣.ref f)(hb:Binds K fd ["_law_items"] []):∀n:Nat,aE P w K mg base "_law_passes" (n+1) (aR (GK n) K):=by
 intro n;let nd:=F6.nd
 induction n with
 | zero=>
   refine gU F F6 hm hb (λqs T ⟨_,e,_⟩=>by rw[e];rfl) `ab;let⟨ts,_,h,_⟩:=hS;exact XE h (Nat.not_lt_zero _)
 | succ n ih=>
   refine gU F F6 hm hb (λqs T ⟨_,e,_⟩=>by rw[e];rfl) `ab;let⟨ts,rfl,hd,rfl⟩:=hS;refine ai (bO (r:=av) (λi Z=>∃e1,Z=[.im (ae av) (bN ts),e1]/\dG ts=dG (ts.drop i)) (bI `e) (aW 1) ⟨_,rfl,rfl⟩ (λi x Z hx hΓ=>?_) `X)
   ·let⟨e1,rfl,hp⟩:=hΓ;rw[fQ,Sf] at hx;let⟨t,ht,rfl⟩:=UU.mp hx;let hdr:ts.drop i=t::ts.drop (i+1):=by
     let⟨h1,h2⟩:=R6.mp ht;rw[Tf h1,h2]
    rw[hdr,dG] at hp;let hdt:=ou (Sg ht);refine ai (a9 (TW.tv (jd (ay cu (tO `g) aB) (λ_=>jb (ay cu (tO `g) aB)))) (λh=>?_) `J)
    ·let h:eE t="leave"∨eE t="back":= ~~~h
     exact aj (aX jK (by rw[hp,Ew t h];rfl))
    ·let h:¬(eE t="leave"∨eE t="back"):= ~~~h
     by_cases hif:∃x a b,t= .ifs x a b
     ·let⟨x,a,b,rfl⟩:=hif;let hab:dH a<n/\dH b<n:=by rw[gA] at hdt;cbv
      refine aj (a9 (TW.tv (cZ (ay cu (tO `g) aB) (λ_=>cZ (gz (bV (aJ ih hr (ah (CZ `g (xs:=bN a) rfl) ax) ⟨a,rfl,hab.1,rfl⟩))) (λ_=>eK (gz (bV (aJ ih hr (ah (CZ `g (xs:=bN b) rfl) ax) ⟨b,rfl,hab.2,rfl⟩))))))) (λh=>?_) (λh=>aG ⟨_,rfl,?_⟩))
      ·let h:dG a=false/\dG b=false:=by simpa[eE] using h
       exact aj (aX jK (by rw[hp,fD,h.1,h.2];rfl))
      ·let h:dG a=false->dG b=true:=by simpa[eE] using h
       rw[hp,fD];cases ea:dG a with
       | true=>simp
       | false=>rw[h ea];simp
     ·let hk:decide (eE t="if")=false:=by cases t<;>first | rfl | exact XE ⟨_,_,_,rfl⟩ hif
      let hpt:fD t=true:=by cases t<;>first | (simp[fD];done) | exact XE ⟨_,_,_,rfl⟩ hif | exact XE `aT h | exact XE (.inr rfl) h
      refine aj (a9 (TW.tv (cZ (y:=true) (ay cu (tO `g) aB) (λh=>XE (hk.symm.trans h) `c))) (λh=>?_) (λh=>aG ⟨_,rfl,?_⟩))
      ·rw[hk] at h;cases h
      ·rw[hp,hpt];rfl
   ·let⟨e1,rfl,hp⟩:=hΓ;rw[show(bN ts).length=ts.length by rw[fQ,R9],Uq,dG] at hp;exact aj (aX jK hp.symm)
noncomputable def eG (ns XO:Rv):Nat->Option (Int->Pn->List Th×Pn)
 | 0=>none
 | n+1=>some (X8 ns XO n false)
theorem mJ (ns XO:Rv)(n:Nat)(tp:Bool)(XQ:Int)(s:Pn):X8 ns XO n tp XQ s=Yj (jo ns XO `au tp XQ) (gq ns tp s.1) ([],(s.1+1,s.2)):=by cases n<;>rfl
noncomputable def bT:Nat->Nat
 | 0=>3
 | n+1=>3+2*mU n
theorem Hb (n:Nat):3<=bT n:=by cases n<;>simp[bT]
structure pN (ns XO:Rv)(n b:Nat)(k c:Int):Prop where
 s:zS ns
 k0:0<=k
 k1:k+(b:Int)<=900000
 c0:0<=c
 c1:c<=100
 l:XO.length<=100
 n4:n<=4
abbrev Qy (n:Nat)(XQ:Int)(XO:Rv):List Pk:=[⟨ag,4-(n:Int)⟩,⟨ag,XQ⟩,⟨ae ag,XO⟩]
def KS (n:Nat):mf (Rv ⊕ Int):=λK xs ps T=>∃(ns XO:Rv)(k c XQ:Int),xs=ck ns k c/\ps=Qy n XQ XO/\pN ns XO n (bT n) k c/\0<c/\T=λxs'=>A1 λy=>xs'=ck ns (Yk ns XO `au XQ (k,c)).2.1 (Yk ns XO `au XQ (k,c)).2.2/\y=kY (Yk ns XO `au XQ (k,c)).1
def Gj (n:Nat):mf (Rv ⊕ Int):=λK xs ps T=>∃(ns XO:Rv)(k c XQ:Int),xs=ck ns k c/\ps=Qy n XQ XO/\pN ns XO n (mU n) k c/\T=λxs'=>A1 λy=>xs'=ck ns (X8 ns XO n (decide (n=4)) XQ (k,c)).2.1 (X8 ns XO n (decide (n=4)) XQ (k,c)).2.2/\y= .lst (bN (X8 ns XO n (decide (n=4)) XQ (k,c)).1)
variable {L:Int->Pn->List Th×Pn}
section
variable {XO:Rv}{sub:`bb}{k c:Int}
abbrev gO (ns:Rv)(k:Int):Int:=aQ ns (k+1)%12
abbrev C0 (ns:Rv)(k XQ:Int):Prop:=gO ns k=0/\0<XQ
abbrev C2 (ns XO:Rv)(k:Int):Prop:=9<gO ns k/\0<XO.length
abbrev C3 (ns:Rv)(k c:Int):Prop:=(3<gO ns k/\gO ns k<7)/\1<c
abbrev C4 (ns:Rv)(k c:Int):Prop:=(6<gO ns k/\gO ns k<10)/\1<c
theorem CU (h:C0 ns k XQ):Yk ns XO sub XQ (k,c)=(.leave,(k+2,c)):=XG h
theorem ER (h0:¬C0 ns k XQ)(h:gO ns k=1):Yk ns XO sub XQ (k,c)=(.back,(k+2,c)):=by
 unfold Yk;rw[XF h0,XG h]
theorem FD (h0:¬C0 ns k XQ)(h1:¬gO ns k=1)(h:C2 ns XO k):Yk ns XO sub XQ (k,c)=(.call (XO.getD (aQ ns (k+3)%(XO.length:Int)).toNat 0),(k+3,c-1)):=by
 unfold Yk;rw[XF h0,XF h1,XG h]
theorem LG (h0:¬C0 ns k XQ)(h1:¬gO ns k=1)(h2:¬C2 ns XO k)(h:C3 ns k c):Yk ns XO (some L) XQ (k,c)=(.ifs (X9 (aQ ns (k+2))) (L XQ (k+2,c-2)).1 (L XQ (L XQ (k+2,c-2)).2).1,(L XQ (L XQ (k+2,c-2)).2).2):=by
 unfold Yk;rw[XF h0,XF h1,XF h2];dsimp only;rw[XG h]
theorem LX (h0:¬C0 ns k XQ)(h1:¬gO ns k=1)(h2:¬C2 ns XO k)(h3:¬C3 ns k c)(h:C4 ns k c):Yk ns XO (some L) XQ (k,c)=(.X1 (X9 (aQ ns (k+2))) (L (XQ+1) (k+2,c-2)).1,(L (XQ+1) (k+2,c-2)).2):=by
 unfold Yk;rw[XF h0,XF h1,XF h2];dsimp only;rw[XF h3,XG h]
theorem K0 (h0:¬C0 ns k XQ)(h1:¬gO ns k=1)(h2:¬C2 ns XO k)(h:∀L,sub∣L->¬C3 ns k c/\¬C4 ns k c):Yk ns XO sub XQ (k,c)=(.Yh (X9 (aQ ns (k+2))),(k+2,c-1)):=by
 unfold Yk;rw[XF h0,XF h1,XF h2];cases sub with
 | none=>rfl
 | some L=>dsimp only;rw[XF (h L rfl).1,XF (h L rfl).2]
end
theorem vM:∀ts:List Th,FN (bN ts)=false
 | []=>by rw[bN];rfl
 | [t]=>by rw[bN,bN,fg];rfl
 | t::u::ts=>by rw[bN,bN,fg,fg];rfl
mutual
theorem G4:∀t:Th,noMix (kY t)=true
 | .Yh x=>by rw[fg];rfl
 | .call x=>by rw[fg];rfl
 | .leave=>by rw[fg];rfl
 | .back=>by rw[fg];rfl
 | .ifs x A B=>by
   let hA:=oR A;let hB:=oR B;rw[fg];simp only[gc,noMix,hU,vM,hA,hB,Bool.not_false,Bool.true_and,RP];rfl
 | .X1 x A=>by
   let hA:=oR A;rw[fg];simp only[gc,noMix,hU,vM,hA,Bool.not_false,Bool.true_and,RP];rfl
theorem oR:∀ts:List Th,hU (bN ts)=true
 | []=>by rw[bN,hU]
 | t::ts=>by rw[bN,hU,G4 t,oR ts];rfl
end
theorem vI (ts:`U):noMix (.lst (bN ts))=true:=by rw[noMix,vM,oR];rfl
theorem oF {k c:Int}(R:Hp)(ws:`P)(h:PySem.Paired (de.R K R) ws (ck ns k c)):∃s k' rest,ws= .ref s:: .int k'::rest:=by
 cases h with
 | cons a1 t1=>cases t1 with
   | cons a2 t2=>
     let⟨s,e,_⟩:=(a1:cT.R K R _ ns);let e2:_=V.int k:=a2;exact⟨s,k,_,by rw[e,e2]⟩
abbrev Gu:Stmt:=top vm
abbrev nTH:Rx:=["_law_pen","_law_depth","_law_loops","_law_calls","_law_way","_law_name_here","_law_first"]
abbrev zU:Rx:=["_law_pen","_law_depth","_law_loops","_law_calls"]
theorem KQ:bF nTH zU (ao Gu):=Y6
theorem Hl (M:`ba)(CP:`aW)(CN:aE P w K mg base "_law_name" 1 (aR GR K))(n:Nat)(CL:∀m,n=m+1->aE P w K mg base "_law_list" (2*m+8) (gG de (Gj m) K))(F:dO K "_law_thing" "_law_thing" Gu f fd)(hm:mg "_law_thing"∣.ref f)(hb:Binds K fd zU []):aE P w K mg base "_law_thing" (2*n+7) (gG de (KS n) K):=by
 let nd:=KQ.nd;let CP:=CP.mono (show 2<=2*n+6 by cbv);let CN:=CN.mono (show 1<=2*n+6 by cbv);refine wV (k:=2*n+6) F KQ hm hb (λxs qs T ⟨_,_,_,_,_,_,e,_⟩=>by rw[e];rfl) (λXU A outer s H E a xs qs T hr hS=>?_);let⟨ns,XO,k,c,XQ,rfl,rfl,hp,c0,rfl⟩:=hS;let hb16:=Hb n;let k0:=hp.k0;let k1:=hp.k1;let cl:=hp.l;let c1:=hp.c1;refine ai (bc 4 (c6 (gg 0 (st:=ck ns (k+1) c) (z:=aQ ns (k+1)) CP hr ax rfl ⟨ns,k,c,rfl,rfl,hp.s,k0,`a,rfl⟩) ev_int `c) ?_);let m2:=uI ns (k+2);let e2:k+1+1=k+2:=`a
 refine ai (bc 5 (y:=X9 (aQ ns (k+2))) (aJ CN hr (ah (gg 0 (st:=ck ns (k+2) c) (z:=aQ ns (k+2)) CP hr ax rfl ⟨ns,k+1,c,rfl,rfl,hp.s,`a,`a,by rw[e2]⟩) ax) ⟨_,rfl,m2.1,m2.2,rfl⟩) ?_);let fin:∀(k' c':Int)(t:Th)(r:Th×Pn),Yk ns XO `au XQ (k,c)=(t,(k',c'))->(λxs' (y:PV)=>xs'=ck ns (Yk ns XO `au XQ (k,c)).2.1 (Yk ns XO `au XQ (k,c)).2.2/\y=kY (Yk ns XO `au XQ (k,c)).1) (ck ns k' c') (.lst (gc t)):=λk' c' t r h=>by rw[h];exact⟨rfl,(fg t).symm⟩
 refine ai (a9 (TW.tv (cZ (ay gi `T ev_int) (λ_=>eK (ay iL `r ev_int)))) (λh=>?_) `J)
 ·let h:C0 ns k XQ:= ~~~h
  exact aj (jB 0 (ba.yq (aP (r:=av) (ak (EV.pS aB) aM) (by show 1<=U9;decide)) rfl) rfl (fin _ _ .leave (.leave,(k,c)) (CU h)))
 let h0:¬C0 ns k XQ:= ~~~h
 refine ai (a9 (ay gi `T ev_int) (λh=>?_) `J)
 ·let h:gO ns k=1:=XH h;exact aj (jB 0 (ba.yq (aP (r:=av) (ak (EV.pS aB) aM) (by show 1<=U9;decide)) rfl) rfl (fin _ _ .back (.leave,(k,c)) (ER h0 h)))
 let h1:¬gO ns k=1:=XI h;refine ai (a9 (TW.tv (cZ (ay iL `T ev_int) (λ_=>eK (ay iL (cX M.len `p) ev_int)))) (λh=>?_) `J)
 ·let h:C2 ns XO k:=by
   let h:9<gO ns k/\(0:Int)<(XO.length:Int):= ~~~h
   exact⟨h.1,`a⟩
  let hl:(0:Int)<(XO.length:Int):=by have:=h.2;cbv
  refine ai `L;let e3:k+2+1=k+3:=`a
  let q0:=RU (aQ ns (k+3)) (show(XO.length:Int)≠0 by cbv);let q1:=RS (aQ ns (k+3)) hl;exact aj (jB 0 (ba.yq (aP (r:=av) (ak (EV.pS aB) (ak (EV.pI (aK `p (c6 (gg 0 (st:=ck ns (k+3) (c-1)) (z:=aQ ns (k+3)) CP hr ax rfl ⟨ns,k+2,c-1,rfl,rfl,hp.s,`a,`a,by rw[e3]⟩) (cX M.len `p) hl) (a7 0 q0 q1))) aM)) (by show 2<=U9;decide)) rfl) rfl (fin _ _ (.call _) (.leave,(k,c)) (FD h0 h1 h)))
 let h2:¬C2 ns XO k:=by
  let h:9<gO ns k->¬(0:Int)<(XO.length:Int):= ~~~h
  exact λ⟨x,y⟩=>h x `a
 refine ai (a9 (TW.tv (cZ (ay iL `T ev_int) (λ_=>cZ (ay nO `T ev_int) (λ_=>cZ (ay nO `g ev_int) (λ_=>eK (ay iL (EV.qB (dM 0 ev_int rfl (y:=(Sum.inr c:Rv ⊕ Int)) rfl)) ev_int)))))) (λh=>?_) `J)
 ·let h:3<gO ns k/\gO ns k<7/\4-(n:Int)<4/\1<c:= ~~~h
  let h3:C3 ns k c:=⟨⟨h.1,h.2.1⟩,h.2.2.2⟩;let hc:=h.2.2.2;let hn:=h.2.2.1;obtain⟨m,rfl⟩:∃m,n=m+1:=⟨n-1,`a⟩;let CL:=(CL m rfl).mono (show 2*m+8<=2*(m+1)+6 by cbv);let n4:=hp.n4;let hf:decide (m=4)=false:=XM `a;let hbd:bT (m+1)=3+2*mU m:=rfl;refine ai `L;change WS _ _ [.ob (aO a de (ck ns (k+2) (c-2))),aA (4-((m+1:Nat):Int)),aA XQ,c8 XO,aA (aQ ns (k+1)%12),.im aq (X9 (aQ ns (k+2))),.no] _ _;let p1:pN ns XO m (mU m) (k+2) (c-2):=⟨hp.s,`a,`a,`a,`a,hp.l,`a⟩;let⟨g1,g2,g3,g4⟩:=nh ns XO m false XQ (k+2,c-2) (by show 0<=c-2;cbv);let e1:=LG (L:=X8 ns XO m false) h0 h1 h2 h3;generalize hr1:X8 ns XO m false XQ (k+2,c-2)=r1 at g1 g2 g3 g4 e1;dsimp only at g2 g3;refine ai (su 6 (jh 0 (st:=ck ns (X8 ns XO m false XQ (k+2,c-2)).2.1 (X8 ns XO m false XQ (k+2,c-2)).2.2) (z:=.lst (bN (X8 ns XO m false XQ (k+2,c-2)).1)) CL hr (ah (EV.cast (y':=4-(m:Int)) (bR `g ev_int) `a) (ah `r (ah `p ax))) rfl ⟨ns,XO,_,_,XQ,rfl,rfl,p1,by rw[hf]⟩ oF (vI _)) λf6=>?_);rw[hr1];change WS _ _ [.ob (aO a de (ck ns r1.2.1 r1.2.2)),aA (4-((m+1:Nat):Int)),aA XQ,c8 XO,aA (aQ ns (k+1)%12),.im aq (X9 (aQ ns (k+2))),.ob (iq (.lst (bN r1.1)) f6)] _ _;let p2:pN ns XO m (mU m) r1.2.1 r1.2.2:=⟨hp.s,`a,`a,`a,`a,hp.l,`a⟩;exact aj (jB 0 (J9 6 (EV.pS aB) (EV.pS `ai) (jh 0 (st:=ck ns (X8 ns XO m false XQ r1.2).2.1 (X8 ns XO m false XQ r1.2).2.2) (z:=.lst (bN (X8 ns XO m false XQ r1.2).1)) CL hr (ah (EV.cast (y':=4-(m:Int)) (bR `g ev_int) `a) (ah `r (ah `p ax))) rfl ⟨ns,XO,_,_,XQ,rfl,rfl,p2,by rw[hf]⟩ oF (vI _)) rfl rfl rfl rfl) rfl (fin _ _ (.ifs _ _ _) (.leave,(k,c)) e1))
 let h3:n=0∨¬C3 ns k c:=by
  let h:3<gO ns k->gO ns k<7->4-(n:Int)<4->¬1<c:= ~~~h
  by_cases z:n=0
  ·exact .inl z
  ·exact .inr λ⟨⟨x,y⟩,u⟩=>h x y `a u
 refine ai (a9 (TW.tv (cZ (ay iL `T ev_int) (λ_=>cZ (ay nO `T ev_int) (λ_=>cZ (ay nO `g ev_int) (λ_=>eK (ay iL (EV.qB (dM 0 ev_int rfl (y:=(Sum.inr c:Rv ⊕ Int)) rfl)) ev_int)))))) (λh=>?_) `J)
 ·let h:6<gO ns k/\gO ns k<10/\4-(n:Int)<4/\1<c:= ~~~h
  let h4:C4 ns k c:=⟨⟨h.1,h.2.1⟩,h.2.2.2⟩;let hc:=h.2.2.2;let hn:=h.2.2.1;let h3x:¬C3 ns k c:=h3.resolve_left `a;obtain⟨m,rfl⟩:∃m,n=m+1:=⟨n-1,`a⟩;let CL:=(CL m rfl).mono (show 2*m+8<=2*(m+1)+6 by cbv);let n4:=hp.n4;let hf:decide (m=4)=false:=XM `a;let hbd:bT (m+1)=3+2*mU m:=rfl;refine ai `L;change WS _ _ [.ob (aO a de (ck ns (k+2) (c-2))),aA (4-((m+1:Nat):Int)),aA XQ,c8 XO,aA (aQ ns (k+1)%12),.im aq (X9 (aQ ns (k+2))),.no] _ _;let p1:pN ns XO m (mU m) (k+2) (c-2):=⟨hp.s,`a,`a,`a,`a,hp.l,`a⟩;let e1:=LX (L:=X8 ns XO m false) h0 h1 h2 h3x h4;exact aj (jB 0 (Lv (EV.pS aB) (EV.pS `ai) (jh 0 (st:=ck ns (X8 ns XO m false (XQ+1) (k+2,c-2)).2.1 (X8 ns XO m false (XQ+1) (k+2,c-2)).2.2) (z:=.lst (bN (X8 ns XO m false (XQ+1) (k+2,c-2)).1)) CL hr (ah (EV.cast (y':=4-(m:Int)) (bR `g ev_int) `a) (ah (bR `r ev_int) (ah `p ax))) rfl ⟨ns,XO,_,_,XQ+1,rfl,rfl,p1,by rw[hf]⟩ oF (vI _)) rfl rfl) rfl (fin _ _ (.X1 _ _) (.leave,(k,c)) e1))
 let h4:n=0∨¬C4 ns k c:=by
  let h:6<gO ns k->gO ns k<10->4-(n:Int)<4->¬1<c:= ~~~h
  by_cases z:n=0
  ·exact .inl z
  ·exact .inr λ⟨⟨x,y⟩,u⟩=>h x y `a u
 refine ai `L;refine aj (jB 0 (ba.yq (aP (r:=av) (ak (EV.pS aB) (ak (EV.pS `ai) aM)) (by show 2<=U9;decide)) rfl) rfl (fin _ _ (.Yh _) (.leave,(k,c)) (K0 h0 h1 h2 λL e=>?_)));cases n with
 | zero=>cases e
 | succ m=>exact⟨h3.resolve_left `a,h4.resolve_left `a⟩
mutual
noncomputable def bu:Th->Int->List PV×Int
 | .Yh x,k=>([.str "do",.str x,.int k],k+1)
 | .call j,k=>([.str "call",.int j,.int k],k+1)
 | .ifs x A B,k=>([.str "if",.str x,.lst ((aT A (k+1)).1.map PV.lst),.lst ((aT B (aT A (k+1)).2).1.map PV.lst),.int k],(aT B (aT A (k+1)).2).2)
 | .X1 x A,k=>([.str "while",.str x,.lst ((aT A (k+1)).1.map PV.lst),.int k],(aT A (k+1)).2)
 | .leave,k=>([.str "leave"],k)
 | .back,k=>([.str "back"],k)
noncomputable def aT:List Th->Int->List (List PV)×Int
 | [],k=>([],k)
 | t::ts,k=>((bu t k).1::(aT ts (bu t k).2).1,(aT ts (bu t k).2).2)
end
theorem D1 (ts:`U):bN ts=(ts.map gc).map PV.lst:=by
 rw[fQ,Ta];exact Tu λt _=>fg t
theorem nM:∀(ts:`U)(k:Int),(aT ts k).1.length=ts.length
 | [],k=>by rw[aT];rfl
 | t::ts,k=>by rw[aT,Si,Si,nM ts]
noncomputable def mG (n:Nat):Sp:=λvs H Q _=>∃(R:Hp)(b c:Addr)(g:Rz)(ts:`U)(k:Int),vs=[.ref b,.ref c]/\au R H/\c7 H (.ref b) (.lst (bN ts)) (b::g)/\(b::g).Nodup/\(∀d∈b::g,R d=none)/\c∉b::g/\R c=none/\H c∣(.lst [.int k])/\dH ts<=n/\
 ∀H' R',Ext (gp H (c::b::g)) R H' R'->c7 H' (.ref b) (.lst ((aT ts k).1.map PV.lst)) (b::g)->H' c∣(.lst [.int (aT ts k).2])->(∀d∈c::b::g,R' d=none)->Q .X4 H'
end K1
namespace Fc
open PySem PySem.Spec PySem.W PySem.Calls L2
open PyProof.Rows hiding St
open PySem PySem.Spec L2 K1
section
variable {X:Cx}{Z Γ1 Γ2 Γ3:Ga}{α β γ δ:Type}{N:Ga->Prop}{T:RT}
variable {x:Str}{n':Nat}{a c:Addr}{ps:List PT}{q0:PT}{ts:`U}
theorem Ak {x:Str}{n d:Nat}{es:RE}{σ:St}{H0 R0 H R:Hp}{i l:Nat}{b:Addr}{g:Rz}{k:Int}{Q:VK}{Ex:XK}{ys:`aQ}(E:`aU)(hil:i≠l)(hΓ:`Y)(hl:Z[l]?∣(.ob (aO c ag [k])))(hq:ps[n']?∣q0)(Yl:∀e∈b::g,e∈cP q0)(t:c7 H (.ref b) (.lst (bN ts)) (b::g))(nd:(b::g).Nodup)(hd:dH ts<=d)(hys:∀H':Hp,(∀e∈cP q0,e∉b::g->H' e=H e)->c7 H' (.ref b) (.lst ((aT ts k).1.map PV.lst)) (b::g)->c7 H' (.ref q0.2.1) (.lst ys) (cP q0))(hQ:∀H' R',ar X.K σ H0 R0 H' R' ((Z.set i (.ob (bC a (ps.set n' (ys,q0.2.1,q0.2.2))))).set l (.ob (aO c ag [(aT ts k).2])))->au R R'->Q .X4 H'):mG d [.ref b,.ref c] H Q Ex:=by
 let⟨⟨v,ea,rfl,kk⟩,hR⟩:=E.ent i _ hΓ;let⟨ec,⟨ws,hc,pc⟩,hRc⟩:=dk (E.ent l _ hl);let ews:ws=[.int k]:=by
  cases pc with
  | cons a1 t1=>cases t1;have:_=V.int k:=a1;rw[this]
 subst ews;let inB:∀e∈b::g,e∈(bC a ps).fp:=λe he=>Sb _ (bQ.mpr ⟨n',q0,hq,Yl e he⟩);let cB:∀e∈(bC a ps).fp,e≠c:=λe he z=>hil (E.ds i l _ _ e hΓ hl he (by rw[z];exact Sa.mpr rfl));refine⟨R,b,c,g,ts,k,rfl,E.sub,t,nd,λe he=>hR e (inB e he),λw=>cB c (inB c w) rfl,hRc,hc,hd,λH' R' xx t' hc' YW=>?_⟩;let keep:∀e∈(bC a ps).fp,e∉b::g->H' e=H e:=λe he hn=>xx.keep (λw=>(Sj.mp w).elim (cB e he) hn) ((bC a ps).has (K:=X.K) (R0:=R) ⟨rfl,kk⟩ e he);let tq:=hys H' (λe he hn=>keep e (Sb _ (bQ.mpr ⟨n',q0,hq,he⟩)) hn) t';let nR:∀e∈(bC a ps).fp,R' e=none:=λe he=>by
  by_cases w:e∈c::b::g
  ·exact YW e w
  ·exact(xx.old e (by rw[eM w];exact(bC a ps).has (K:=X.K) (R0:=R) ⟨rfl,kk⟩ e he)).trans (hR e he)
 refine hQ H' R' (E.Oc hil hΓ hl (D:=c::b::g) (λe he=>?_) xx ?_ ?_ (zW hq) λe he=>he) xx.r
 ·obtain rfl | he:=Sj.mp he
  ·exact .inr (Sa.mpr rfl)
  ·exact .inl (inB e he)
 ·rw[ea];refine⟨⟨_,rfl,rfl,kk.put hq (λe he hn=>keep e he λw=>hn (Yl e w)) tq⟩,λe he=>nR e (zW hq e he)⟩
 ·rw[ec];exact⟨⟨_,rfl,rfl,[.int (aT ts k).2],hc',.cons rfl .nil⟩,λe he=>by rw[Sa.mp he];exact YW c Se⟩
theorem Qz (i j l:Nat){y z:Str}{d m0:Nat}{p p1 p2 cp pos:Pos}{k:Int}(C:aE X.prog X.w X.K X.mg X.base x m0 (mG d))(hr:bG m0 X.A)(hil:i≠l)(hΓ:`Y)(hj:Z[j]?∣.im dJ q0.2.1)(hl:Z[l]?∣(.ob (aO c ag [k])))(hq:ps[n']?∣q0)(hts:q0.1=bN ts)(hd:dH ts<=d)(h:N ((Z.set i (.ob (bC a (ps.set n' ((aT ts k).1.map PV.lst,q0.2.1,q0.2.2))))).set l (.ob (aO c ag [(aT ts k).2]))))(hg:Gl X x:=by rfl)(Yo:YJ x:=by decide)(he:Vf [.Name y p1,.Name z p2] X.env=(false,eval (.Name y p1) X.env)::Vf [.Name z p2] X.env:=by rfl)(he2:dq X (.Name z p2) []:=by rfl)(Yb:fc X cp [.Name z p2]:=by rfl)(hNj:autoParam (At X j y) cb)(hNl:autoParam (At X l z) cb)(Yn:Vh (.Call `aq [.Name y p1,.Name z p2] [] cp) none pos.line X.env=pure false:=by rfl):W1 X (.Expr (.Call `aq [.Name y p1,.Name z p2] [] cp) pos) Z N T:=λσ H0 R0 H R E D dn dr=>by
 let⟨f,fd,pn,F,hm,hk,hb⟩:=C.ex;let⟨⟨v,ea,rfl,kk⟩,hR⟩:=E.ent i _ hΓ;let⟨v0,e0,Zh⟩:=E.ent j _ hj;cases Zh
 let⟨ec,_,_⟩:=dk (E.ent l _ hl);let⟨t,nd,_⟩:=kk.pt n' q0 hq;rw[hts] at t;refine sS (dQ (iZ F hr hg hm hk hb .nil kx (aI (aV hNj) (aI (aV hNl) br he2) he) Yo he Yb) Yn) ⟨.ref q0.2.1,at_of e0,.ref c,at_of ec,?_⟩;show mG d [.ref q0.2.1,.ref c] H (λ_ H1=>D.nx σ H1) E0;refine Ak (x:=x) (n:=0) (es:=[]) (Q:=λ_ H'=>D.nx σ H') (g:=q0.2.2) (ys:=(aT ts k).1.map PV.lst) E hil hΓ hl hq (λe he=>he) t nd hd (λH' _ t'=>t') λH' R' E' s'=>dn σ H' R' _ E' s' h
theorem uA (i j l:Nat){y z:Str}{d m0 m jc:Nat}{p p1 p2 p3 p4 cp pos:Pos}{k:Int}(C:aE X.prog X.w X.K X.mg X.base x m0 (mG d))(hr:bG m0 X.A)(hil:i≠l)(hΓ:`Y)(hj:Z[j]?∣.im dJ q0.2.1)(hl:Z[l]?∣(.ob (aO c ag [k])))(hq:ps[n']?∣q0)(hts:q0.1[m]?∣(.lst (bN ts)))(hd:dH ts<=d)(h:N ((Z.set i (.ob (bC a (ps.set n' (q0.1.set m (.lst ((aT ts k).1.map PV.lst)),q0.2.1,q0.2.2))))).set l (.ob (aO c ag [(aT ts k).2]))))(hg:Gl X x:=by rfl)(Yo:YJ x:=by decide)(he:Vf [.Subscript (.Name y p1) (.Constant (.int (m:Int)) jc p3) p4,.Name z p2] X.env=(false,eval (.Subscript (.Name y p1) (.Constant (.int (m:Int)) jc p3) p4) X.env)::Vf [.Name z p2] X.env:=by rfl)(he2:dq X (.Name z p2) []:=by rfl)(Yb:fc X cp [.Name z p2]:=by rfl)(hNj:autoParam (At X j y) cb)(hNl:autoParam (At X l z) cb)(hpi:dP (.Constant (.int (m:Int)) jc p3):=by exact λ_ _=>rfl)(Yn:Vh (.Call `aq [.Subscript (.Name y p1) (.Constant (.int (m:Int)) jc p3) p4,.Name z p2] [] cp) none pos.line X.env=pure false:=by rfl):W1 X (.Expr (.Call `aq [.Subscript (.Name y p1) (.Constant (.int (m:Int)) jc p3) p4,.Name z p2] [] cp) pos) Z N T:=λσ H0 R0 H R E D dn dr=>by
 let⟨f,fd,pn,F,hm,hk,hb⟩:=C.ex;let⟨v0,e0,Zh⟩:=E.ent j _ hj;cases Zh
 refine sS (dQ (iZ F hr hg hm hk hb .nil kx (aI (iy gT (aV hNj) (aN (e:=.Constant (.int (m:Int)) jc p3)) hpi) (aI (aV hNl) br he2) he) Yo he Yb) Yn) ⟨.ref q0.2.1,at_of e0,(ev_int (i:=(m:Int)) (X:=X) (Z:=Z)) σ H0 R0 H R E _ λu H2 R2 E2 s2 e2=>?_⟩;let⟨⟨v,ea,rfl,kk⟩,hR⟩:=E2.ent i _ hΓ;let⟨ec,_,_⟩:=dk (E2.ent l _ hl);let⟨t0,nd,_⟩:=kk.pt n' q0 hq;cases t0 with
 | @lst _ vs _ _ hb2 tt zz=>
 let⟨b,g,f1,f2,hv,ef,t,ZU⟩:=tt.sub hts;let⟨n1,n2⟩:=Sz.mp nd;rw[ef] at n2;let⟨m1,m2,m3⟩:=S0.mp n2;let⟨m4,m5,m6⟩:=S0.mp m2;let ml:=(R6.mp hv).1;refine⟨q0.2.1,vs,(m:Int),.ref b,rfl,e2,bw.of hb2,by rw[gb `a `a,show((m:Nat):Int).toNat=m by cbv];exact hv,.ref c,at_of ec,?_⟩;let sub:∀e∈b::g,e∈q0.2.2:=λe he=>by rw[ef];exact Sk _ (Sn _ he)
 show mG d [.ref b,.ref c] H2 (λ_ H1=>D.nx σ H1) E0;refine Ak (x:=x) (n:=0) (es:=[]) (Q:=λ_ H'=>D.nx σ H') (ys:=q0.1.set m (.lst ((aT ts k).1.map PV.lst))) E2 hil hΓ hl hq (λe he=>Sb _ (sub e he)) t m4 hd (λH' hk2 t'=>?_) λH' R' E' s'=>dn σ H' R' _ E' (s2.trans s') h;refine .lst ((hk2 _ Se λw=>n1 (sub _ w)).trans hb2) (ZU H' _ (λe he=>hk2 e ?_ ?_) t') (by rw[SR];exact zz)
 ·refine Sb _ ?_;rw[ef];obtain w | w:=Sl.mp he
  ·exact Sn _ w
  ·exact Sk _ (Sk _ w)
 ·intro w;obtain z | z:=Sl.mp he
  ·exact m3 e z e (Sn _ w) rfl
  ·exact m6 e w e z rfl
end
end Fc
namespace K1
open PySem L2 Fc
open PySem.Spec hiding Row
open PyProof.Rows hiding St
open PySem.Builtin.Int (intBits)
variable {P:Ve}{w:World}{K:Xh}{mg:Rt}{base:Heap}{f:Addr}{fd:Vi}
theorem oY:∀(ts:`U)(t:Th)(k:Int),aT (ts++[t]) k=((aT ts k).1++[(bu t (aT ts k).2).1],(bu t (aT ts k).2).2)
 | [],t,k=>by rw[S8,aT,aT,aT];rfl
 | u::ts,t,k=>by rw[Tq,aT,oY ts t,aT];rfl
variable {H:Hp}{b:Addr}
theorem LB {R:Hp}{c:Addr}{ps:List PT}{k:Int}{N:Rx}(hN:N.length=3)(s:au R H)(kk:ka H b ps)(hR:∀d∈b::eJ ps,R d=none)(hc:c∉b::eJ ps)(hRc:R c=none)(hHc:H c∣(.lst [.int k])):
 ar K (L2.start N [.ref b,.ref c]) (gp H (c::b::eJ ps)) R H R [.ob (bC b ps),.ob (aO c ag [k]),.no]:=by
 let es:L2.start N [.ref b,.ref c]=[some (.ref b),some (.ref c),none]:=by unfold L2.start;rw[hN];rfl
 rw[es];let at_:∀(i:Nat)(e:Ent),([.ob (bC b ps),.ob (aO c ag [k]),.no]:Ga)[i]?∣e->(i=0/\e= .ob (bC b ps))∨(i=1/\e= .ob (aO c ag [k]))∨(i=2/\e= .no):=λi e q=>by
  match i with
  | 0=>exact .inl ⟨rfl,by simpa using q.symm⟩
  | 1=>exact .inr (.inl ⟨rfl,by simpa using q.symm⟩)
  | 2=>exact .inr (.inr ⟨rfl,by simpa using q.symm⟩)
  | i+3=>simp at q
 refine⟨⟨qU,au.refl _,s,λ_ _=>rfl⟩,λi e q=>?_,λi e d q w=>?_,λi j e e' d q q' w w'=>?_,rfl⟩
 ·obtain⟨rfl,rfl⟩ | ⟨rfl,rfl⟩ | ⟨rfl,rfl⟩:=at_ i e q
  ·exact⟨⟨_,rfl,rfl,kk⟩,hR⟩
  ·exact⟨⟨_,rfl,rfl,_,hHc,.cons rfl .nil⟩,λd hd=>by rw[Sa.mp hd];exact hRc⟩
  ·trivial
 ·obtain⟨rfl,rfl⟩ | ⟨rfl,rfl⟩ | ⟨rfl,rfl⟩:=at_ i e q
  ·exact kQ (Sb _ w)
  ·rw[Sa.mp w];exact kQ Se
  ·cases w
 ·obtain⟨rfl,rfl⟩ | ⟨rfl,rfl⟩ | ⟨rfl,rfl⟩:=at_ i e q
  ·obtain⟨rfl,rfl⟩ | ⟨rfl,rfl⟩ | ⟨rfl,rfl⟩:=at_ j e' q'
   ·rfl
   ·exact XE w (by rw[Sa.mp w'];exact hc)
   ·cases w'
  ·obtain⟨rfl,rfl⟩ | ⟨rfl,rfl⟩ | ⟨rfl,rfl⟩:=at_ j e' q'
   ·exact XE w' (by rw[Sa.mp w];exact hc)
   ·rfl
   ·cases w'
  ·cases w
variable {α:Type}{i:Nat}
theorem lT {l:`u}{x:α}(h:l[i]?∣x):l.set i x=l:=by
 let⟨hl,rfl⟩:=R6.mp h;exact List.set_getElem_self hl
variable {N:Ga->Prop}{X:Cx}{g:Addr×Rz}{qs:List PT}{p1 pos:Pos}{Z:Ga}{T:RT}{n:Nat}{XU:`aK}{A:Vg}{outer:List Env}{E:XK}{t:Th}
abbrev sC:Stmt:=top qC
abbrev Gq:Rx:=["_law_items","_law_keys","_law_one"]
abbrev Gz:Rx:=["_law_items","_law_keys"]
theorem Ej:bF Gq Gz (ao sC):=Y6
section
variable {cs:`aQ}{e:Ent}{k s s':Str}{y z:Bool}{j1 j2 j3 j4:Nat}{p2 p3 p4 p5 p6 p7 p8 p9 p10:Pos}
theorem cz {c:Expr}{bd YG:List Stmt}(h:TV X c Z false Z)(k:WS X YG Z N T):WS X (.If c bd [] pos::YG) Z N T:=ai (a9 h (λh=>by cases h) (λ_=>aG k))
theorem ij {c:Expr}{bd YG:List Stmt}(h:TV X c Z true Z)(k:WS X bd Z (λZ=>WS X YG Z N T) T):WS X (.If c bd [] pos::YG) Z N T:=ai (a9 h (λ_=>k) (λh=>by cases h))
theorem kg (hq:qs[i]?∣(cs,g))(h0:cs[0]?∣.str k)(hb:decide (k=s)=y)(hN:autoParam (At X 2 "_law_one") cb):TV X (.Compare (.Subscript (.Name "_law_one" p1) (.Constant (.int 0) j1 p2) p3) [.Eq] [.Constant (.str s) j2 p4] pos) [.ob (bC b qs),e,.im dJ g.1] y [.ob (bC b qs),e,.im dJ g.1]:=
 TV.cast (ay cu (EV.sP (x:=k) (ox 0 2 (m:=0) rfl rfl hq h0 rfl hN)) aB) hb
theorem uG (hq:qs[i]?∣(cs,g))(h0:cs[0]?∣.str k)(hb:(!decide (k=s)&& !decide (k=s'))=y)(hN:autoParam (At X 2 "_law_one") cb):TV X (.BoolOp .And [.Compare (.Subscript (.Name "_law_one" p1) (.Constant (.int 0) j1 p2) p3) [.NotEq] [.Constant (.str s) j2 p4] p5,.Compare (.Subscript (.Name "_law_one" p6) (.Constant (.int 0) j4 p9) p10) [.NotEq] [.Constant (.str s') j3 p7] p8] pos) [.ob (bC b qs),e,.im dJ g.1] y [.ob (bC b qs),e,.im dJ g.1]:=
 TV.cast (TW.tv (cZ (ay vD (EV.sP (x:=k) (ox 0 2 (m:=0) rfl rfl hq h0 rfl hN)) aB) (λ_=>eK (ay vD (EV.sP (x:=k) (ox 0 2 (m:=0) rfl rfl hq h0 rfl hN)) aB)))) hb
end
theorem Js (CN:∀m,n=m+1->aE P w K mg base "_law_numbered" (m+1) (mG m)){s:Va}(hr:bG n (A.deeper (U4 "_law_numbered" (ao sC) ⇑s f XU))){c:Addr}{k:Int}(hd:gA t<=n)(hq:qs[i]?∣(gc t,g))(hN:N [.ob (bC b (qs.set i ((bu t k).1,g))),.ob (aO c ag [(bu t k).2]),.im dJ g.1]):
 WS (eU eI P w K mg base Gq "_law_numbered" (ao sC) f XU A outer s H E).gW (match bE sC with | .For _ _ bd _ _::_=>bd | _=>[]) [.ob (bC b qs),.ob (aO c ag [k]),.im dJ g.1] N T:=by
 let nd:=Ej.nd;let il:=(R6.mp hq).1;let Z7:∀y:List PV,(qs.set i (y,g))[i]?∣(y,g):=λy=>Sh il;cases t with
 | leave=>
   have:qs.set i ((bu (.leave) k).1,g)=qs:=by rw[bu];exact lT hq
   rw[this,bu] at hN;exact cz (uG hq rfl rfl) (cz (kg hq rfl rfl) (cz (kg hq rfl rfl) (aG hN)))
 | back=>
   have:qs.set i ((bu (.back) k).1,g)=qs:=by rw[bu];exact lT hq
   rw[this,bu] at hN;exact cz (uG hq rfl rfl) (cz (kg hq rfl rfl) (cz (kg hq rfl rfl) (aG hN)))
 | Yh x=>
   rw[bu] at hN;exact ij (uG hq rfl rfl) (ai (pQ 0 2 (y:=.int k) (EV.pI `aG) rfl rfl rfl hq rfl (by show 2<U9;decide) (aj (eN 1 (j:=0) (bR `aG ev_int) ev_int rfl rfl rfl (cz (kg (Z7 _) rfl rfl) (cz (kg (Z7 _) rfl rfl) (aG hN)))))))
 | call x=>
   rw[bu] at hN;exact ij (uG hq rfl rfl) (ai (pQ 0 2 (y:=.int k) (EV.pI `aG) rfl rfl rfl hq rfl (by show 2<U9;decide) (aj (eN 1 (j:=0) (bR `aG ev_int) ev_int rfl rfl rfl (cz (kg (Z7 _) rfl rfl) (cz (kg (Z7 _) rfl rfl) (aG hN)))))))
 | ifs x L M=>
   let hd:1+max (dH L) (dH M)<=n:=by rw[gA] at hd;exact hd
   obtain⟨m,rfl⟩:∃m,n=m+1:=⟨n-1,`a⟩;refine ij (uG hq rfl rfl) (ai (pQ 0 2 (y:=.int k) (EV.pI `aG) rfl rfl rfl hq rfl (by show 4<U9;decide) (aj (eN 1 (j:=0) (bR `aG ev_int) ev_int rfl rfl rfl (ij (kg (Z7 _) rfl rfl) ?_)))));refine ai (uA 0 2 1 (m:=2) (ts:=L) (CN m rfl) hr `c rfl rfl rfl (Z7 ([.str "if",.str x,.lst (bN L),.lst (bN M)]++[.int k])) rfl `a ?_);rw[Ti];generalize hA:aT L (k+1)=RA;refine aj (uA 0 2 1 (m:=3) (ts:=M) (CN m rfl) hr `c rfl rfl rfl (Z7 [.str "if",.str x,.lst (RA.1.map PV.lst),.lst (bN M),.int k]) rfl `a ?_);rw[Ti];rw[bu,hA] at hN;exact cz (kg (Z7 _) rfl rfl) (aG hN)
 | X1 x L=>
   let hd:1+dH L<=n:=by rw[gA] at hd;exact hd
   obtain⟨m,rfl⟩:∃m,n=m+1:=⟨n-1,`a⟩;refine ij (uG hq rfl rfl) (ai (pQ 0 2 (y:=.int k) (EV.pI `aG) rfl rfl rfl hq rfl (by show 3<U9;decide) (aj (eN 1 (j:=0) (bR `aG ev_int) ev_int rfl rfl rfl (cz (kg (Z7 _) rfl rfl) (ij (kg (Z7 _) rfl rfl) ?_))))));refine aj (uA 0 2 1 (m:=2) (ts:=L) (CN m rfl) hr `c rfl rfl rfl (Z7 ([.str "while",.str x,.lst (bN L)]++[.int k])) rfl `a (aG ?_));rw[Ti];rw[bu] at hN;exact hN
theorem De (CN:∀m,n=m+1->aE P w K mg base "_law_numbered" (m+1) (mG m))(F:dO K "_law_numbered" "_law_numbered" sC f fd)(hm:mg "_law_numbered"∣.ref f)(hb:Binds K fd Gz []):aE P w K mg base "_law_numbered" (n+1) (mG n):=by
 let nd:=Ej.nd;refine⟨f,fd,Gz,?_,hm,F.kp,hb⟩;refine F.ok Ej (λvs H Q E h=>?_) `ae
 ·let⟨R,b,c,g,ts,k,rfl,_⟩:=h;rfl
 ·let⟨R,b,c,g,ts,k,rfl,sR,t,ndb,hR,hc,hRc,hHc,hd,q⟩:=h;let hz:ts.length<=U9:=by
   cases t with
   | lst _ _ z=>rw[fQ,R9] at z;exact z
  rw[D1] at t;let⟨ps,kk,e1,rfl⟩:=t.pl ndb;let pl:ps.length=ts.length:=by
   have:=congrArg List.length e1;rwa [R9,R9] at this
  let body:WS (eU eI P w K mg base Gq "_law_numbered" (ao sC) f XU A outer s H E).gW (bE sC) [.ob (bC b ps),.ob (aO c ag [k]),.no] (λZ=>∃(qs:List PT)(e:Ent),Z=[.ob (bC b qs),.ob (aO c ag [(aT ts k).2]),e]/\qs.map (·.2)=ps.map (·.2)/\qs.map (·.1)=(aT ts k).1) (λ_ _ _ _=>False):=by
   refine aj (As 0 (a:=b) (ps:=ps) (λi Z=>∃(qs:List PT)(e:Ent),Z=[.ob (bC b qs),.ob (aO c ag [(aT (ts.take i) k).2]),e]/\qs.map (·.2)=ps.map (·.2)/\qs.map (·.1)=(aT (ts.take i) k).1++(ts.drop i).map gc) rfl (aW 2) ⟨ps,.no,rfl,rfl,?_⟩ (λi Z ⟨qs,e,h1,h2,_⟩=>⟨qs,by rw[h1];rfl,h2⟩) (λi p Z hp hΓ=>?_) `X)
   ·rw[TC,aT,drop_zero,e1];rfl
   ·let⟨qs,e,rfl,h2,h3⟩:=hΓ;let il:i<ts.length:=by rw[← pl];exact(R6.mp hp).1
    let ti:ts[i]?=some ts[i]:=R7 il;let lt:(aT (ts.take i) k).1.length=i:=by rw[nM,Sx];cbv
    let q1:(qs.map (·.1))[i]?∣(gc ts[i]):=by
     rw[h3,SG `a,lt,UP,Sf,Ug,UL,ti];rfl
    let q2:(qs.map (·.2))[i]?∣p.2:=by rw[h2,Sf,hp];rfl
    rw[Sf] at q1 q2;let⟨q0,ZQ,e3⟩:=UU.mp q1;rw[ZQ] at q2;let e4:q0.2=p.2:=Option.some.inj q2;let hq:qs[i]?∣(gc ts[i],p.2):=by rw[ZQ];exact congrArg some (UZ e3 e4)
    let nx:aT (ts.take (i+1)) k=((aT (ts.take i) k).1++[(bu ts[i] (aT (ts.take i) k).2).1],(bu ts[i] (aT (ts.take i) k).2).2):=by
     rw[SS,ti];exact oY _ _ _
    refine Js (t:=ts[i]) (i:=i) (qs:=qs) (g:=p.2) CN hr (Ux (ou (SO il)) hd) hq ⟨qs.set i ((bu ts[i] (aT (ts.take i) k).2).1,p.2),.im dJ p.2.1,by rw[nx],?_,?_⟩
    ·rw[List.map_set,h2];exact lT (by rw[Sf,hp];rfl)
    ·rw[List.map_set,h3,nx,List.set_append_right _ _ `a,lt,UP,Su];congr 1;rw[show ts.drop i=ts[i]::ts.drop (i+1) from Tf il];rfl
   ·let⟨qs,e,rfl,h2,h3⟩:=hΓ;rw[pl,SW] at h3 ⊢;rw[Uq,T4,Sw] at h3;exact⟨qs,e,rfl,h2,h3⟩
  refine⟨_,iC,body (L2.start Gq [.ref b,.ref c]) (gp H (c::b::eJ ps)) R H R (LB rfl sR kk hR hc hRc hHc) {nx:=λ_ H'=>Q .X4 H',rt:=Q} (λσ' H' R' Γ' E' _ ⟨qs,e,hΓ,h2,h3⟩=>?_) λv H' R' xx t=>t.elim⟩;subst hΓ;let⟨⟨v,ea,rfl,k2⟩,ZI⟩:=E'.ent 0 _ rfl;let⟨ec,⟨ws,hwc,pw⟩,hRc2⟩:=dk (E'.ent 1 _ rfl);let ews:ws=[.int (aT ts k).2]:=by
   cases pw with
   | cons a1 t1=>cases t1;have:_=V.int (aT ts k).2:=a1;rw[this]
  subst ews;let fe:eJ qs=eJ ps:=by
   have:=congrArg (λl:List (Addr×Rz)=>l.flatMap λz=>z.1::z.2) h2;simpa only[List.flatMap_map] using this
  let ql:qs.length<=U9:=by
   have:=congrArg List.length h2;rw[R9,R9] at this;cbv
  let⟨t2,_⟩:=k2.tpv ql;rw[h3,fe] at t2;refine q H' R' E'.ext t2 hwc λd hd=>?_;obtain rfl | hd:=Sj.mp hd
  ·exact hRc2
  ·exact ZI d (by show d∈b::eJ qs;rw[fe];exact hd)
theorem Hf (F:dO K "_law_numbered" "_law_numbered" sC f fd)(hm:mg "_law_numbered"∣.ref f)(hb:Binds K fd Gz []):∀n,aE P w K mg base "_law_numbered" (n+1) (mG n)
 | 0=>De (λm h=>XE h `a) F hm hb
 | n+1=>De (λm h=>by cases h;exact Hf F hm hb n) F hm hb
noncomputable def lK (ts:`U)(k:Int)(bh lp:PV):PV:=match ts with
 | []=>bh
 | .leave::_=>lp
 | .back::_=>.int (-1)
 | _::_=>.int k
mutual
noncomputable def fk:Th->Int->PV->PV->List PV
 | .Yh x,k,af,lp=>[.tup [.str "do",.str x,.int k,af,.int (-1)]]
 | .call j,k,af,lp=>[.tup [.str "call",.str "",.int k,af,.int j]]
 | .ifs x A B,k,af,lp=>[.tup [.str "yes",.str x,.int k,lK A (k+1) af lp,.int (-1)],.tup [.str "no",.str x,.int k,lK B (aT A (k+1)).2 af lp,.int (-1)]]++(fu A (k+1) af lp++fu B (aT A (k+1)).2 af lp)
 | .X1 x A,k,af,lp=>[.tup [.str "yes",.str x,.int k,lK A (k+1) (.int k) af,.int (-1)],.tup [.str "no",.str x,.int k,af,.int (-1)]]++fu A (k+1) (.int k) af
 | .leave,_,_,_=>[]
 | .back,_,_,_=>[]
noncomputable def fu:List Th->Int->PV->PV->List PV
 | [],_,_,_=>[]
 | t::ts,k,bh,lp=>fk t k (lK ts (bu t k).2 bh lp) lp++fu ts (bu t k).2 bh lp
end
mutual
theorem yz:∀(t:Th)(k:Int)(af lp:PV),(fk t k af lp).length=cn t
 | .Yh x,k,af,lp=>by rw[fk,cn];rfl
 | .call j,k,af,lp=>by rw[fk,cn];rfl
 | .ifs x A B,k,af,lp=>by rw[fk,cn,Sd,Sd,iG A,iG B];show 2+_=_;cbv
 | .X1 x A,k,af,lp=>by rw[fk,cn,Sd,iG A];rfl
 | .leave,k,af,lp=>by simp only[fk,cn];rfl
 | .back,k,af,lp=>by simp only[fk,cn];rfl
theorem iG:∀(ts:`U)(k:Int)(bh lp:PV),(fu ts k bh lp).length=bY ts
 | [],k,bh,lp=>by rw[fu,bY];rfl
 | t::ts,k,bh,lp=>by rw[fu,bY,Sd,yz t,iG ts]
end
theorem zY (t:Th)(k:Int):bX (bu t k).1 0∣(.str (eE t)):=by cases t<;>rw[bu]<;>rfl
theorem um:∀{ts:`U}{j:Nat}{t:Th}(k:Int),ts[j]?∣t->(aT ts k).1[j]?=some (bu t (aT (ts.take j) k).2).1
 | u::ts,0,t,k,h=>by
   let e:u=t:= ~~~h
   rw[aT,TC,aT,e];rfl
 | u::ts,j+1,t,k,h=>by
   rw[aT,S3,aT];exact um (bu u k).2 (~~~h)
theorem B4:∀(ts:`U)(j:Nat){t:Th}(k:Int)(bh lp:PV),ts[j]?∣t->fu (ts.drop j) (aT (ts.take j) k).2 bh lp=fk t (aT (ts.take j) k).2 (lK (ts.drop (j+1)) (aT (ts.take (j+1)) k).2 bh lp) lp++fu (ts.drop (j+1)) (aT (ts.take (j+1)) k).2 bh lp
 | ts,j,t,k,bh,lp,h=>by
   let jl:=(R6.mp h).1;let e:ts.drop j=t::ts.drop (j+1):=by
    rw[Tf jl];congr 1;exact Option.some.inj ((R7 jl).symm.trans h)
   let e2:(aT (ts.take (j+1)) k).2=(bu t (aT (ts.take j) k).2).2:=by
    rw[SS,h];show(aT (ts.take j++[t]) k).2=_;rw[oY]
   rw[e,fu,e2]
abbrev fq (ts:`U)(k:Int):List PV:=(aT ts k).1.map PV.lst
abbrev Px:Stmt:=top vi
abbrev Qq:Rx:=["_law_items","_law_j","_law_behind","_law_loop"]
def DI:dh:=λK ps T=>∃(ts:`U)(k:Int)(j:Nat)(bh lp:PV),ps=[⟨ae av,fq ts k⟩,⟨ag,(j:Int)⟩,⟨av,bh⟩,⟨av,lp⟩]/\j<=ts.length/\T=cR K av (· =lK (ts.drop j) (aT (ts.take j) k).2 bh lp)
theorem Oo (M:`ba)(Df:Def K mg "_law_entry" Px Qq):aE P w K mg base "_law_entry" 1 (aR DI K):=by
 refine bP (N:=Qq) (k:=0) Df `n;let⟨ts,k,j,bh,lp,rfl,hj,rfl⟩:=hS;let ln:(fq ts k).length=ts.length:=by rw[R9,nM]
 refine ai (a9 (ay gi `g (cX M.len `e)) (λh=>?_) `J)
 ·let h:(j:Int)=((fq ts k).length:Int):=XH h;refine aj (aX `r ?_);rw[TK `a];rfl
 let h:¬(j:Int)=((fq ts k).length:Int):=XI h;let jl:j<ts.length:=`a
 let tj:ts[j]?=some ts[j]:=R7 jl;let ed:ts.drop j=ts[j]::ts.drop (j+1):=Tf jl;let at_:bX (fq ts k) (j:Int)∣(.lst (bu ts[j] (aT (ts.take j) k).2).1):=by
  rw[gb `a `a,show((j:Nat):Int).toNat=j by cbv,Sf,um k tj];rfl
 rw[ed];generalize ts[j]=t at at_;generalize (aT (ts.take j) k).2=kk at at_;refine ai (a9 (ay cu (EV.sP (aK (EV.lP (aK `e `g at_)) ev_int (zY t kk))) aB) (λh=>?_) `J)
 ·let h:eE t="leave":=XH h;refine aj (aX `p ?_);cases t with
  | leave=>rfl
  | _=>simp only[eE] at h;exact XE h `b
 let h1:eE t≠"leave":=XI h;refine ai (a9 (ay cu (EV.sP (aK (EV.lP (aK `e `g at_)) ev_int (zY t kk))) aB) (λh=>?_) `J)
 ·let h:eE t="back":=XH h;refine aj (aX (EV.pI `af) ?_);cases t with
  | back=>rfl
  | _=>simp only[eE] at h;exact XE h `b
 let h2:eE t≠"back":=XI h;let lst:bX (bu t kk).1 (-1)∣.int kk/\lK (t::ts.drop (j+1)) kk bh lp= .int kk:=by
  cases t with
  | leave=>exact XE rfl h1
  | back=>exact XE rfl h2
  | _=>exact⟨by rw[bu];rfl,rfl⟩
 exact aj (aX (aK (EV.lP (aK `e `g at_)) `af lst.1) lst.2.symm)
def nL (n:Nat)(K:Xh):Sp:=λvs H Q _=>∃(R:Hp)(a:Addr)(ws:`P)(xs:`aQ)(v0 v1 v2:V)(ts:`U)(k:Int)(bh lp:PV),vs=[v0,v1,v2,.ref a]/\au R H/\R a=none/\H a∣.lst ws/\PySem.Paired (av.R K R) ws xs/\(ae av).R K R v0 (fq ts k)/\av.R K R v1 bh/\av.R K R v2 lp/\dH ts<=n/\xs.length+bY ts<=1000/\
 ∀H' R' YT,Ext (del H a) R H' R'->H' a∣.lst YT->R' a=none->PySem.Paired (av.R K R') YT (xs++fu ts k bh lp)->Q .X4 H'
variable {x:Str}{xs:`aQ}{e:Expr}{es:RE}{a:Addr}{y:Str}{ts:`U}
theorem fK (i:Nat){n:Int}{y:PV}(hΓ:Z[i]?∣(.im av (.lst xs)))(he:EV X e Z ag n Z)(hy:bX xs n∣y)(hN:`o)(hs:dP e:=by exact λ_ _=>rfl):EV X (.Subscript `h e pos) Z av y Z:=
 aK (EV.lP (aa i hΓ hN)) he hy hs
theorem eW (i:Nat){k s:Str}{jc:Nat}{p2 p3:Pos}{b:Bool}(hΓ:Z[i]?∣(.im av (.lst (.str k::xs))))(he:EV X e Z ag 0 Z)(hb:decide (k=s)=b)(hN:`o)(hs:dP e:=by exact λ_ _=>rfl):TV X (.Compare (.Subscript `h e p2) [.Eq] [.Constant (.str s) jc p3] pos) Z b Z:=
 TV.cast (ay cu (EV.sP (fK i hΓ he (by rw[gb `a `d];rfl) hN hs)) aB) hb
theorem uh (i:Nat){k:Nat}{tp ap cp:Pos}{ys:`aQ}(he:EA X es (Z.set i (.mu av xs)) av ys (Z.set i (.mu av xs)))(hΓ:Z[i]?∣(.ob (aO a av xs)))(hz:xs.length<=1100)(h:N (Z.set i (.ob (aO a av (xs++[.tup ys])))))(hy:ys.length<=U9:=by show 5<=U9;decide)(hN:`o)(Yn:Vh (.Call (.Attribute `h "append" ap) [.Tuple es k tp] [] cp) none pos.line X.env=pure false:=by rfl)(X0:fh X `h "append":=by rfl)(Yf:((V1 cp (Vf [.Tuple es k tp] X.env)).all (λx=> !x.1)&&(backToKw cp (keywordEach [] X.env)).all (λx=>x.1.isSome)
  &&decide ([(.Tuple es k tp:Expr)].length+([]:List V5).length+(if([]:List V5).isEmpty then 0 else 1)<30))=true:=by rfl)(XZ:`Z=true:=by rfl)(hs:Vf [.Tuple es k tp] X.env=(false,eval (.Tuple es k tp) X.env)::Vf [] X.env:=by rfl):W1 X (.Expr (.Call (.Attribute `h "append" ap) [.Tuple es k tp] [] cp) pos) Z N T:=by
 let hl:i<Z.length:=(R6.mp hΓ).1;refine oV (EV.box i (uY i (r:=av) (fP he hy) (Sh hl) (Sh hl) (Uz hz `c) hN X0 Yf XZ hs) hΓ (Sh (by rw[SR];exact hl))) ?_ Yn;rw[Ti,Ti];exact h
theorem EL (i:Nat){m:Nat}{e0 e1 e2:Expr}{p cp:Pos}{k:Int}{bh lp:PV}(C:aE X.prog X.w X.K X.mg X.base x m (nL n X.K))(hr:bG m X.A)(h0:EV X e0 Z (ae av) (fq ts k) Z)(h1:EV X e1 Z av bh Z)(h2:EV X e2 Z av lp Z)(hΓ:Z[i]?∣(.ob (aO a av xs)))(hd:dH ts<=n)(hz:xs.length+bY ts<=1000)(h:N (Z.set i (.ob (aO a av (xs++fu ts k bh lp)))))(hg:Gl X x:=by rfl)(Yo:YJ x:=by decide)(s0:Vf [e0,e1,e2,.Name y p1] X.env=(false,eval e0 X.env)::Vf [e1,e2,.Name y p1] X.env:=by rfl)(s1:Vf [e1,e2,.Name y p1] X.env=(false,eval e1 X.env)::Vf [e2,.Name y p1] X.env:=by rfl)(s2:Vf [e2,.Name y p1] X.env=(false,eval e2 X.env)::Vf [.Name y p1] X.env:=by rfl)(s3:dq X (.Name y p1) []:=by rfl)(Yb:fc X cp [e1,e2,.Name y p1]:=by rfl)(hN:autoParam (At X i y) cb)(Yn:Vh (.Call `aq [e0,e1,e2,.Name y p1] [] cp) none pos.line X.env=pure false:=by rfl):W1 X (.Expr (.Call `aq [e0,e1,e2,.Name y p1] [] cp) pos) Z N T:=λσ H0 R0 H R E D dn dr=>by
 let⟨f,fd,pn,F,hm,hk,hb⟩:=C.ex;refine sS (dQ (iZ F hr hg hm hk hb .nil kx (aI aN (aI aN (aI aN (aI (aV hN) br s3) s2) s1) s0) Yo s0 Yb) Yn) ?_;refine h0 σ H0 R0 H R E _ λv0 H1 R1 E1 q1 g0=>h1 σ H0 R0 H1 R1 E1 _ λv1 H2 R2 E2 q2 g1=>h2 σ H0 R0 H2 R2 E2 _ λv2 H3 R3 E3 q3 g2=>?_;let⟨ea,⟨ws,ha,pp⟩,hR⟩:=dk (E3.ent i _ hΓ);refine⟨.ref a,at_of ea,?_⟩;show nL n X.K [v0,v1,v2,.ref a] H3 (λ_ H1=>D.nx σ H1) E0;refine⟨R3,a,ws,xs,v0,v1,v2,ts,k,bh,lp,rfl,E3.sub,hR,ha,pp,(ae av).mono (q2.trans q3) g0,av.mono (K:=X.K) q3 g1,g2,hd,hz,λH' R' YT xx h1 h2 pq=>?_⟩;let hl:i<Z.length:=(R6.mp hΓ).1;let E4:ar X.K σ H0 R0 H' R' (Z.set i (.ob (aO a av (xs++fu ts k bh lp)))):=E3.AZ hΓ (B:=aO a av xs) (by
  have:gp H3 (aO a av xs).fp=del H3 a:=by funext b;show(if b∈[a] then none else H3 b)=_;unfold del;simp only[Sa]
  rw[this];exact xx) (by rw[ea];exact⟨⟨_,rfl,rfl,YT,h1,pq⟩,λb hb=>by rw[Sa.mp hb];exact h2⟩) λc hc=>hc
 exact dn σ H' R' _ E4 (q1.trans (q2.trans (q3.trans xx.r))) h
abbrev rS:Stmt:=top xu
abbrev GJ:Rx:=["_law_items","_law_behind","_law_loop","_law_rows_here","_law_j","_law_one","_law_after"]
abbrev GF:Rx:=["_law_items","_law_behind","_law_loop","_law_rows_here"]
theorem Fu:bF GJ GF (ao rS):=Y6
theorem Kz {R:Hp}{ws:`P}{items:`aQ}{bh lp:PV}{u0 u1 u2:V}{N:Rx}(hN:N.length=7)(s:au R H)(hR:R a=none)(ha:H a∣.lst ws)(pp:PySem.Paired (av.R K R) ws xs)(g0:(ae av).R K R u0 items)(g1:av.R K R u1 bh)(g2:av.R K R u2 lp):
 ar K (L2.start N [u0,u1,u2,.ref a]) (del H a) R H R [.im (ae av) items,.im av bh,.im av lp,.ob (aO a av xs),.no,.no,.no]:=by
 let es:L2.start N [u0,u1,u2,.ref a]=[some u0,some u1,some u2,some (.ref a),none,none,none]:=by unfold L2.start;rw[hN];rfl
 rw[es];let key:∀(i:Nat)(e:Ent),([Ent.im (ae av) items,.im av bh,.im av lp,.ob (aO a av xs),.no,.no,.no]:Ga)[i]?∣e->(i=0/\e= .im (ae av) items)∨(i=1/\e= .im av bh)∨(i=2/\e= .im av lp)∨(i=3/\e= .ob (aO a av xs))∨e= .no:=by
  intro i e q
  match i,q with
  | 0,q=>simp at q;exact .inl ⟨rfl,q.symm⟩
  | 1,q=>simp at q;exact .inr (.inl ⟨rfl,q.symm⟩)
  | 2,q=>simp at q;exact .inr (.inr (.inl ⟨rfl,q.symm⟩))
  | 3,q=>simp at q;exact .inr (.inr (.inr (.inl ⟨rfl,q.symm⟩)))
  | 4,q=>simp at q;exact .inr (.inr (.inr (.inr q.symm)))
  | 5,q=>simp at q;exact .inr (.inr (.inr (.inr q.symm)))
  | 6,q=>simp at q;exact .inr (.inr (.inr (.inr q.symm)))
  | i+7,q=>simp at q
 let dsub:au (del H a) H:=λb o q=>by
  unfold del at q;by_cases h:b=a
  ·rw[XG h] at q;cases q
  ·rwa [XF h] at q
 refine⟨⟨dsub,au.refl _,s,λ_ _=>rfl⟩,λi e q=>?_,λi e d q w=>?_,λi j e e' d q q' w w'=>?_,rfl⟩
 ·obtain⟨rfl,rfl⟩ | ⟨rfl,rfl⟩ | ⟨rfl,rfl⟩ | ⟨rfl,rfl⟩ | rfl:=key i e q
  ·exact⟨u0,rfl,g0⟩
  ·exact⟨u1,rfl,g1⟩
  ·exact⟨u2,rfl,g2⟩
  ·exact⟨⟨_,rfl,rfl,ws,ha,pp⟩,λb hb=>by rw[Sa.mp hb];exact hR⟩
  ·trivial
 ·obtain⟨rfl,rfl⟩ | ⟨rfl,rfl⟩ | ⟨rfl,rfl⟩ | ⟨rfl,rfl⟩ | rfl:=key i e q
  ·cases w
  ·cases w
  ·cases w
  ·rw[Sa.mp w];unfold del;rw[XG rfl]
  ·cases w
 ·obtain⟨rfl,rfl⟩ | ⟨rfl,rfl⟩ | ⟨rfl,rfl⟩ | ⟨rfl,rfl⟩ | rfl:=key i e q
  ·cases w
  ·cases w
  ·cases w
  ·obtain⟨rfl,rfl⟩ | ⟨rfl,rfl⟩ | ⟨rfl,rfl⟩ | ⟨rfl,rfl⟩ | rfl:=key j e' q'
   ·cases w'
   ·cases w'
   ·cases w'
   ·rfl
   ·cases w'
  ·cases w
theorem Hw (CE:aE P w K mg base "_law_entry" 1 (aR DI K))(CR:∀m,n=m+1->aE P w K mg base "_law_rows" (m+2) (nL m K)){s:Va}(hr:bG (n+1) (A.deeper (U4 "_law_rows" (ao rS) ⇑s f XU))){items:`aQ}{bh lp af:PV}{k:Int}{e4:Ent}(hd:gA t<=n)(hz:xs.length+cn t<=1000)(hN:N [.im (ae av) items,.im av bh,.im av lp,.ob (aO a av (xs++fk t k af lp)),e4,.im av (.lst (bu t k).1),.im av af]):
 WS (eU eI P w K mg base GJ "_law_rows" (ao rS) f XU A outer s H E).gW (match bE rS with | .For _ _ bd _ _::_=>bd.drop 1 | _=>[]) [.im (ae av) items,.im av bh,.im av lp,.ob (aO a av xs),e4,.im av (.lst (bu t k).1),.im av af] N T:=by
 let nd:=Fu.nd;let CE:=CE.mono (show 1<=n+1 by cbv);let hzl:∀m:Nat,m<=1100->m<U9:=λm h=>Uz h `c;cases t with
 | leave=>
   rw[bu,fk,Sw] at hN;rw[bu];exact cz `w (cz `w (cz `w (cz `w (aG hN))))
 | back=>
   rw[bu,fk,Sw] at hN;rw[bu];exact cz `w (cz `w (cz `w (cz `w (aG hN))))
 | Yh x=>
   rw[bu,fk] at hN;simp only[cn] at hz;rw[bu];refine ij `w (aj (uh 3 (ak (EV.pS aB) (ak `ay (ak (fK 5 rfl `af rfl) (ak `an (ak (EV.pI `af) aM))))) rfl `a ?_));exact cz `w (cz `w (cz `w (aG hN)))
 | call x=>
   rw[bu,fk] at hN;simp only[cn] at hz;rw[bu];refine cz `w (ij `w (aj (uh 3 (ak (EV.pS aB) (ak (EV.pS aB) (ak (fK 5 rfl `af rfl) (ak `an (ak `ay aM))))) rfl `a ?_)));exact cz `w (cz `w (aG hN))
 | ifs x L M=>
   rw[bu,fk] at hN;simp only[cn] at hz;rw[bu];let hd:1+max (dH L) (dH M)<=n:=by rw[gA] at hd;exact hd
   obtain⟨m,rfl⟩:∃m,n=m+1:=⟨n-1,`a⟩;refine cz `w (cz `w (ij `w ?_));refine ai (uh 3 (ak (EV.pS aB) (ak `ay (ak (fK 5 rfl `af rfl) (ak (aJ CE hr (ah (EV.lP `ay) (ah ev_int (ah `an (ah `r ax)))) ⟨L,k+1,0,af,lp,rfl,Uy _,rfl⟩) (ak (EV.pI `af) aM))))) rfl `a ?_);refine ai (uh 3 (ak (EV.pS aB) (ak `ay (ak (fK 5 rfl `af rfl) (ak (aJ CE hr (ah (EV.lP `ay) (ah ev_int (ah `an (ah `r ax)))) ⟨M,(aT L (k+1)).2,0,af,lp,rfl,Uy _,rfl⟩) (ak (EV.pI `af) aM))))) rfl (by simp only[Sd,Si,SH];cbv) ?_);refine ai (EL 3 (ts:=L) (k:=k+1) (CR m rfl) hr (EV.lP `ay) `an `r rfl `a (by simp only[Sd,Si,SH];cbv) ?_);refine aj (EL 3 (ts:=M) (k:=(aT L (k+1)).2) (CR m rfl) hr (EV.lP `ay) `an `r rfl `a (by simp only[Sd,Si,SH,iG];cbv) ?_);refine cz `w (aG ?_);simp only[Su,Tq,S8] at hN ⊢;exact hN
 | X1 x L=>
   rw[bu,fk] at hN;simp only[cn] at hz;rw[bu];let hd:1+dH L<=n:=by rw[gA] at hd;exact hd
   obtain⟨m,rfl⟩:∃m,n=m+1:=⟨n-1,`a⟩;refine cz `w (cz `w (cz `w (ij `w ?_)));refine ai (uh 3 (ak (EV.pS aB) (ak `ay (ak (fK 5 rfl `af rfl) (ak (aJ CE hr (ah (EV.lP `ay) (ah ev_int (ah (fK 5 rfl `af rfl) (ah `an ax)))) ⟨L,k+1,0,.int k,af,rfl,Uy _,rfl⟩) (ak (EV.pI `af) aM))))) rfl `a ?_);refine ai (uh 3 (ak (EV.pS aB) (ak `ay (ak (fK 5 rfl `af rfl) (ak `an (ak (EV.pI `af) aM))))) rfl (by simp only[Sd,Si,SH];cbv) ?_);refine aj (EL 3 (ts:=L) (k:=k+1) (CR m rfl) hr (EV.lP `ay) (fK 5 rfl `af rfl) `an rfl `a (by simp only[Sd,Si,SH];cbv) (aG ?_));simp only[Su,Tq,S8] at hN ⊢;exact hN
theorem C8 (M:`ba)(CE:aE P w K mg base "_law_entry" 1 (aR DI K))(CR:∀m,n=m+1->aE P w K mg base "_law_rows" (m+2) (nL m K))(F:dO K "_law_rows" "_law_rows" rS f fd)(hm:mg "_law_rows"∣.ref f)(hb:Binds K fd GF []):aE P w K mg base "_law_rows" (n+2) (nL n K):=by
 let nd:=Fu.nd;refine⟨f,fd,GF,?_,hm,F.kp,hb⟩;refine F.ok (k:=n+1) Fu (λvs H Q E h=>?_) `ae
 ·let⟨R,a,ws,xs,v0,v1,v2,ts,k,bh,lp,rfl,_⟩:=h;rfl
 ·let⟨R,a,ws,xs,v0,v1,v2,ts,k,bh,lp,rfl,sR,hR,ha,pp,g0,g1,g2,hd,hz,q⟩:=h;let CE':=CE.mono (show 1<=n+1 by cbv);let ln:(fq ts k).length=ts.length:=by rw[R9,nM]
  let body:WS (eU eI P w K mg base GJ "_law_rows" (ao rS) f XU A outer s H E).gW (bE rS) [.im (ae av) (fq ts k),.im av bh,.im av lp,.ob (aO a av xs),.no,.no,.no] (λZ=>∃e4 e5 e6,Z=[.im (ae av) (fq ts k),.im av bh,.im av lp,.ob (aO a av (xs++fu ts k bh lp)),e4,e5,e6]) (λ_ _ _ _=>False):=by
   refine aj (bO (r:=cQ ag av) (λi Z=>∃ys e4 e5 e6,Z=[.im (ae av) (fq ts k),.im av bh,.im av lp,.ob (aO a av ys),e4,e5,e6]/\ys++fu (ts.drop i) (aT (ts.take i) k).2 bh lp=xs++fu ts k bh lp) (iQ M.enumerate `e) (eL 4 5) ⟨xs,_,_,_,rfl,?_⟩ (λi z Z hzi hΓ=>?_) `X)
   ·rw[drop_zero,TC,aT]
   ·let⟨ys,e4,e5,e6,rfl,he⟩:=hΓ;let⟨z1,z2⟩:=fw hzi;let il:i<ts.length:=by rw[← ln];exact(R6.mp z2).1
    let ti:ts[i]?=some ts[i]:=R7 il;let ez:z.2= .lst (bu ts[i] (aT (ts.take i) k).2).1:=by
     rw[Sf,um k ti] at z2;exact(Option.some.inj z2).symm
    rw[B4 ts i k bh lp ti] at he;let hlen:ys.length+(cn ts[i]+bY (ts.drop (i+1)))=xs.length+bY ts:=by
     have:=congrArg List.length he;simpa only[Sd,yz,iG] using this
    let⟨zi,zp⟩:=z;dsimp only at z1 ez;subst z1 ez;refine ai (bc 6 (r:=av) (y:=lK (ts.drop (i+1)) (aT (ts.take (i+1)) k).2 bh lp) (aJ CE' hr (ah `e (ah (EV.cast (y':=((i+1:Nat):Int)) (bR `T ev_int) (by push_cast;rfl)) (ah `g (ah `r ax)))) ⟨ts,k,i+1,bh,lp,rfl,il,rfl⟩) ?_);refine Hw CE CR hr (Ux (ou (SO il)) hd) `a ⟨_,_,_,_,rfl,?_⟩;rw[Su];exact he
   ·let⟨ys,e4,e5,e6,rfl,he⟩:=hΓ;rw[cK,ln,Uq,fu,Sw] at he;rw[← he];exact⟨_,_,_,rfl⟩
  refine⟨_,iC,body (L2.start GJ [v0,v1,v2,.ref a]) (del H a) R H R (Kz rfl sR hR ha pp g0 g1 g2) {nx:=λ_ H'=>Q .X4 H',rt:=Q} (λσ' H' R' Γ' E' _ ⟨e4,e5,e6,hΓ⟩=>?_) λv H' R' xx t=>t.elim⟩;subst hΓ;let⟨ea,⟨YT,YE,YM⟩,Yu⟩:=dk (E'.ent 3 _ rfl);exact q H' R' YT E'.ext YE Yu YM
theorem Gv (M:`ba)(CE:aE P w K mg base "_law_entry" 1 (aR DI K))(F:dO K "_law_rows" "_law_rows" rS f fd)(hm:mg "_law_rows"∣.ref f)(hb:Binds K fd GF []):∀n,aE P w K mg base "_law_rows" (n+2) (nL n K)
 | 0=>C8 M CE (λm h=>XE h `a) F hm hb
 | n+1=>C8 M CE (λm h=>by cases h;exact Gv M CE F hm hb n) F hm hb
theorem LN (n:Nat):mU n=1+5*bT n:=by cases n<;>rfl
theorem G6 (ns XO:Rv):∀(n:Nat)(lp:Int)(s:Pn),0<s.2->uC n (bT n) s (Yk ns XO `au lp s)
 | 0,lp,s,h=>vP ns XO lp s h
 | n+1,lp,s,h=>wZ (nh ns XO n false) lp s h
theorem NX (K:Xh)(H H':Hp)(v:V)(y:Int)(h:ag.R K H v y):ag.R K H' v y:=h
theorem Oa (K:Xh)(H H':Hp)(v:V)(y:Str)(h:aq.R K H v y):aq.R K H' v y:=h
theorem yU (t:Th):qR t=decide (eE t="back"):=by cases t<;>rfl
theorem Jf (a b:`U):bN (a++b)=bN a++bN b:=by rw[fQ,fQ,fQ,So]
theorem mY (a:`U):(bN a).length=a.length:=by rw[fQ,R9]
abbrev sk:Stmt:=top xr
abbrev J7:Rx:=["_law_pen","_law_depth","_law_loops","_law_calls","_law_items","_law_k","_law_one"]
theorem EJ:bF J7 zU (ao sk):=Y6
theorem ls_run (M:`ba)(CP:`aW)(CA:aE P w K mg base "_law_passes" 6 (aR (GK 5) K))(CT:aE P w K mg base "_law_thing" (2*n+7) (gG de (KS n) K)){s:Va}{ns XO:Rv}{k c XQ:Int}(hr:bG (2*n+7) (A.deeper (U4 "_law_list" (ao sk) ⇑s f XU)))(hp:pN ns XO n (mU n) k c)(Zz:∀(e5 e6:Ent)(fp:Rz),WS (eU eI P w K mg base J7 "_law_list" (ao sk) f XU A outer s H E).gW ((bE sk).drop 2) [.ob (aO a de (ck ns (X8 ns XO n (decide (n=4)) XQ (k,c)).2.1 (X8 ns XO n (decide (n=4)) XQ (k,c)).2.2)),aA (4-(n:Int)),aA XQ,c8 XO,.ob (iq (.lst (bN (X8 ns XO n (decide (n=4)) XQ (k,c)).1)) fp),e5,e6] N T):
 WS (eU eI P w K mg base J7 "_law_list" (ao sk) f XU A outer s H E).gW (bE sk) [.ob (aO a de (ck ns k c)),aA (4-(n:Int)),aA XQ,c8 XO,.no,.no,.no] N T:=by
 let nd:=EJ.nd;let CP:=CP.mono (show 2<=2*n+7 by cbv);let CA:=CA.mono (show 6<=2*n+7 by cbv);let k0:=hp.k0;let k1:=hp.k1;let c0:=hp.c0;let c1:=hp.c1;let n4:=hp.n4;let hbd:=LN n;let b3:=Hb n;rw[mJ] at Zz;generalize htp:decide (n=4)=tp at Zz;let hrun:=yy (ns:=ns) (XO:=XO) (sub:=eG ns XO n) (n:=n) (b:=bT n) `a (G6 ns XO n) tp XQ (k,c) c0;dsimp only at hrun Zz;let hmany:=Ae ns tp k;generalize hx:(λi=>Yj (jo ns XO `au tp XQ) i ([],(k+1,c)))=x at hrun;let hxi:∀i,Yj (jo ns XO `au tp XQ) i ([],(k+1,c))=x i:=λi=>by rw[← hx]
 let hxs:∀i,x (i+1)=jo ns XO `au tp XQ (x i):=λi=>by rw[← hx];rfl
 let hx0:x 0=([],(k+1,c)):=by rw[← hx];rfl
 simp only[hxi] at hrun Zz;refine ai (su 4 (y:=.lst []) (ba.yq `az rfl) λf4=>?_);let m0:=RU (aQ ns (k+1)) (show(4:Int)≠0 by decide);let m1:=RS (aQ ns (k+1)) (show(0:Int)<4 by decide);let htp2:decide (4-(n:Int)=0)=tp:=by rw[← htp];exact decide_eq_decide.mpr ⟨λh=>`a,λh=>`a⟩
 let hman:(aQ ns (k+1)%4+2*(if decide (4-(n:Int)=0)=true then 1 else 0)).toNat=gq ns tp k:=by rw[htp2];rfl
 let hb2:0<=(if decide (4-(n:Int)=0)=true then(1:Int) else 0)/\(if decide (4-(n:Int)=0)=true then(1:Int) else 0)<=1:=by split<;>decide
 refine ai (bO (r:=ag) (λi Z=>∃e5 e6 fp,Z=[.ob (aO a de (ck ns (x i).2.1 (x i).2.2)),aA (4-(n:Int)),aA XQ,c8 XO,.ob (iq (.lst (bN (x i).1)) fp),e5,e6]) (dA M.range (bR (c6 (gg 0 (st:=ck ns (k+1) c) (z:=aQ ns (k+1)) CP hr ax rfl ⟨ns,k,c,rfl,rfl,hp.s,k0,`a,rfl⟩) ev_int `c) (JM ev_int (zr M.int (jt gi `g ev_int)) (.inl `c))) ⟨`a,`a⟩) (aW 5) ⟨_,_,f4,by rw[hx0];rfl⟩ (λi j Z hj hΓ=>?_) `X)
 ·let⟨e5,e6,fp,rfl⟩:=hΓ;let il:=(eR hj).1;rw[hman] at il;let⟨rd,⟨rc,rc0⟩,⟨rk0,rk1⟩,rll⟩:=hrun i;let hmul:bT n*i<=bT n*4:=Nat.mul_le_mul_left _ `a;let hs:=hxs i;generalize x i=xi at rd rc rc0 rk0 rk1 rll hs;let⟨XT,kk,cc⟩:=xi;dsimp only at rd rc rc0 rk0 rk1 rll ⊢;change WS _ _ [.ob (aO a de (ck ns kk cc)),aA (4-(n:Int)),aA XQ,c8 XO,.ob (iq (.lst (bN XT)) fp),aA j,e6] _ _;let rkk:kk+(bT n:Int)<=900000:=by push_cast at rk1;cbv
  refine aj (a9 (TW.tv (cZ (ay iL (EV.qB (dM 0 ev_int rfl (y:=(Sum.inr cc:Rv ⊕ Int)) rfl)) ev_int) (λ_=>eK (TV.YI (En (i:=4) rfl) (bV (aJ CA hr (ah (EV.lP `T) ax) ⟨XT,rfl,`a,rfl⟩)))))) (λh=>?_) `J)
  ·let h:0<cc/\dG XT=true:= ~~~h
   let ht:=G6 ns XO n XQ (kk,cc) h.1;let e1:jo ns XO `au tp XQ (XT,kk,cc)=if tp=true/\XT.length=0/\qR (Yk ns XO `au XQ (kk,cc)).1=true then(XT++[.Yh "back"],((Yk ns XO `au XQ (kk,cc)).2.1,(Yk ns XO `au XQ (kk,cc)).2.2-1)) else(XT++[(Yk ns XO `au XQ (kk,cc)).1],(Yk ns XO `au XQ (kk,cc)).2):=XG h;refine ai (su 6 (jh 0 (st:=ck ns (Yk ns XO `au XQ (kk,cc)).2.1 (Yk ns XO `au XQ (kk,cc)).2.2) (z:=kY (Yk ns XO `au XQ (kk,cc)).1) CT hr (ah `g (ah `r (ah `p ax))) rfl ⟨ns,XO,kk,cc,XQ,rfl,rfl,⟨hp.s,`a,rkk,`a,`a,hp.l,n4⟩,h.1,rfl⟩ oF (G4 _)) λf6=>?_);generalize Yk ns XO `au XQ (kk,cc)=r at ht e1;let⟨tt,kr,cr⟩:=r;dsimp only at e1 ⊢;change WS _ _ [.ob (aO a de (ck ns kr cr)),aA (4-(n:Int)),aA XQ,c8 XO,.ob (iq (.lst (bN XT)) fp),aA j,.ob (iq (kY tt) f6)] _ _;refine bD (N1:=λZ=>∃t' c' f',Z=[.ob (aO a de (ck ns kr c')),aA (4-(n:Int)),aA XQ,c8 XO,.ob (iq (.lst (bN XT)) fp),aA j,.ob (iq (kY t') f')]/\jo ns XO `au tp XQ (XT,kk,cc)=(XT++[t'],(kr,c'))) (a9 (TW.tv (cZ (ay gi `g ev_int) (λ_=>cZ (ay gi (EV.YI (En (i:=4) rfl) NX (cX M.len (EV.lP `T))) ev_int) (λ_=>eK (ay cu (EV.YI (En (i:=6) rfl) Oa (tO `an)) aB))))) (λh=>?_) (λh=>aG ⟨tt,cr,f6,rfl,?_⟩)) ?_
   ·let h:tp=true/\XT.length=0/\qR tt=true:=by
     rw[htp2,mY] at h;rw[yU];simpa using h
    refine ai (eN 0 (j:=2) (EV.inr (gy (EV.qB (dM 0 ev_int rfl (y:=(Sum.inr cr:Rv ⊕ Int)) rfl)) ev_int)) ev_int rfl rfl rfl ?_);change WS _ _ [.ob (aO a de (ck ns kr (cr-1))),aA (4-(n:Int)),aA XQ,c8 XO,.ob (iq (.lst (bN XT)) fp),aA j,.ob (iq (kY tt) f6)] _ _;refine aj (su 6 (y:=kY (.Yh "back")) (jZ.cast (x:=.lst (gc (.Yh "back"))) (ba.yq (aP (r:=av) (ak (EV.pS aB) (ak (EV.pS aB) aM)) (by show 2<=U9;decide)) rfl) (fg _).symm) λf'=>⟨.Yh "back",cr-1,f',rfl,?_⟩);rw[e1,XG h]
   ·let h:¬(tp=true/\XT.length=0/\qR tt=true):=by
     rw[htp2,mY] at h;rw[yU];simpa using h
    rw[e1,XF h]
   rintro _ ⟨t',c',f',rfl,e2⟩;refine aj (L3 4 (zu 6 rfl) rfl rfl (Uz (show _<=10 by rw[mY];cbv) `c) λfp'=>⟨aA j,.no,fp',?_⟩);rw[hs,e2,Jf,bN,bN];rfl
  ·let h:¬(0<cc/\dG XT=true):= ~~~h
   refine⟨aA j,e6,fp,?_⟩;rw[hs,show jo ns XO `au tp XQ (XT,kk,cc)=(XT,kk,cc) from XF h]
 ·let⟨e5,e6,fp,rfl⟩:=hΓ;rw[bp,hman];exact Zz e5 e6 fp
theorem BR (M:`ba)(CP:`aW)(CA:aE P w K mg base "_law_passes" 6 (aR (GK 5) K))(CT:aE P w K mg base "_law_thing" (2*n+7) (gG de (KS n) K))(F:dO K "_law_list" "_law_list" sk f fd)(hm:mg "_law_list"∣.ref f)(hb:Binds K fd zU []):aE P w K mg base "_law_list" (2*n+8) (gG de (Gj n) K):=by
 let nd:=EJ.nd;refine wV (k:=2*n+7) F EJ hm hb (λxs qs T ⟨_,_,_,_,_,_,e,_⟩=>by rw[e];rfl) (λXU A outer s H E a xs qs T hr hS=>?_);let⟨ns,XO,k,c,XQ,rfl,rfl,hp,rfl⟩:=hS;exact ls_run M CP CA CT hr hp λe5 e6 fp=>aj (jB 0 (zu 4 rfl) rfl ⟨rfl,rfl⟩)
theorem GL (M:`ba)(CP:`aW)(CN:aE P w K mg base "_law_name" 1 (aR GR K))(CA:aE P w K mg base "_law_passes" 6 (aR (GK 5) K)){f2:Addr}{fd2:Vi}(F:dO K "_law_list" "_law_list" sk f fd)(hm:mg "_law_list"∣.ref f)(hb:Binds K fd zU [])(F2:dO K "_law_thing" "_law_thing" Gu f2 fd2)(ZM:mg "_law_thing"∣.ref f2)(hb2:Binds K fd2 zU []):∀n,aE P w K mg base "_law_list" (2*n+8) (gG de (Gj n) K)
 | 0=>BR M CP CA (Hl M CP CN 0 (λm h=>XE h `a) F2 ZM hb2) F hm hb
 | n+1=>BR M CP CA (Hl M CP CN (n+1) (λm h=>by cases h;exact GL M CP CN CA F hm hb F2 ZM hb2 n) F2 ZM hb2) F hm hb
variable {c:Str}{m:Int}{XN:Rx}
noncomputable def ki (XN:Rx)(x c:Str):Str:=if x∈XN then iD x++c else x
abbrev mx:Str:="qwer"
noncomputable def xm (XN:Rx)(x:Str):Str:=(iF mx).foldl (ki XN) x
noncomputable def dX (ns:Rv)(s:Int):Nat->Rx
 | 0=>[]
 | i+1=>dX ns s i++[xm (dX ns s i) (X9 (aQ ns (s+2+(i:Int))))]
def Yz (ns:Rv)(s:Int):Int:=1+aQ ns (s+1)%4
def dE (m:Int):Int:=([14,12,8,6]:Rv).getD (m-1).toNat 0
def fX (i:Nat)(m:Int):Rv:=ups ((i:Int)+1) (m-((i:Int)+1)).toNat
noncomputable def X6 (ns:Rv)(m k:Int):Nat->List (List Th)×Int
 | 0=>([],k)
 | i+1=>((X6 ns m k i).1++[(X8 ns (fX i m) 4 true 0 ((X6 ns m k i).2,dE m)).1],(X8 ns (fX i m) 4 true 0 ((X6 ns m k i).2,dE m)).2.1)
def Z6 (ns:Rv)(k:Int)(j:Nat):Nat:=(aQ ns (k+1)%(j:Int)).toNat
def rh (ns:Rv)(x:List (List Th)×Int)(j:Nat):List (List Th)×Int:=
 (x.1.set (Z6 ns x.2 j) (cy (aQ ns (x.2+2)%((x.1.getD (Z6 ns x.2 j) []).length:Int)).toNat (.call (j:Int)) (x.1.getD (Z6 ns x.2 j) [])),x.2+2)
noncomputable def Ym (ns:Rv)(x:List (List Th)×Int):Nat->List (List Th)×Int
 | 0=>x
 | i+1=>rh ns (Ym ns x i) (i+1)
def YF (ns:Rv)(s:Int):Rx:=dX ns s (Yz ns s).toNat
def YO (ns:Rv)(s:Int):List (List Th):=(Ym ns (X6 ns (Yz ns s) (s+1+Yz ns s) (Yz ns s).toNat) (Yz ns s-1).toNat).1
theorem yL (ns:Rv)(s:Int):1<=Yz ns s/\Yz ns s<=4:=by
 unfold Yz;have:=RU (aQ ns (s+1)) (show(4:Int)≠0 by decide);have:=RS (aQ ns (s+1)) (show(0:Int)<4 by decide);cbv
theorem Bx (h1:1<=m)(h4:m<=4):6<=dE m/\dE m<=14:=by
 have:∀j:Fin 4,6<=([14,12,8,6]:Rv).getD j.val 0/\([14,12,8,6]:Rv).getD j.val 0<=14:=`c
 exact this ⟨(m-1).toNat,`a⟩
theorem vQ (x:Str):(iD x).length<=7:=by
 unfold iD;show(List.take 7 x.cps.toList).toArray.size<=7;rw[Ss,Sx];cbv
theorem EC {c:Nat}(h:c∈(iD x).cps.toList):c∈x.cps.toList:=by
 unfold iD at h;have:c∈List.take 7 x.cps.toList:= ~~~h
 exact Um this
theorem ug (h:c∈iF mx):cY c/\c.length=1:=by
 have:∀c∈iF mx,((1<=c.length/\c.length<=8)/\∀d∈c.cps.toList,97<=d/\d<=122)/\c.length=1:=`b
 let⟨⟨⟨a,b⟩,d⟩,e⟩:=this c h;exact⟨⟨a,b,d⟩,e⟩
theorem LV (hx:cY x)(hc:cY c/\c.length=1):cY (ki XN x c):=by
 unfold ki;split
 ·refine⟨?_,?_,λd hd=>?_⟩
  ·rw[len_app,hc.2];cbv
  ·rw[len_app,hc.2];have:=vQ x;cbv
  ·obtain z | z:=tV hd
   ·exact hx.az d (EC z)
   ·exact hc.1.az d z
 ·exact hx
theorem o9 {XN:Rx}:∀{cs:Rx}{x:Str},cY x->(∀c∈cs,cY c/\c.length=1)->cY (cs.foldl (ki XN) x)
 | [],_,hx,_=>hx
 | c::cs,x,hx,h=>o9 (cs:=cs) (x:=ki XN x c) (LV hx (h c Se)) λd hd=>h d (Sb _ hd)
theorem LP (hx:cY x):cY (xm XN x):=o9 hx λc hc=>ug hc
theorem mV (ns:Rv)(s:Int):∀i,(dX ns s i).length=i
 | 0=>rfl
 | i+1=>by rw[dX,Sd,mV ns s i];rfl
theorem B0 (ns:Rv)(s:Int):∀i,∀x∈dX ns s i,cY x
 | 0,x,h=>by cases h
 | i+1,x,h=>by
   rw[dX] at h;obtain z | z:=Sl.mp h
   ·exact B0 ns s i x z
   ·rw[Sa.mp z];exact LP (jz _)
theorem mI (ns:Rv)(m k:Int):∀i,(X6 ns m k i).1.length=i
 | 0=>rfl
 | i+1=>by rw[X6,Sd,mI ns m k i];rfl
theorem Rb:mU 4=177776:=rfl
theorem Ge (ns:Rv)(m k:Int)(hb:0<=dE m):∀i:Nat,k<=(X6 ns m k i).2/\(X6 ns m k i).2<=k+177776*(i:Int)
 | 0=>⟨RY _,by show k<=_;cbv⟩
 | i+1=>by
   let⟨a,b⟩:=Ge ns m k hb i;let⟨c,d⟩:=(nh ns (fX i m) 4 true 0 ((X6 ns m k i).2,dE m) hb).k;rw[Rb] at d;dsimp only at c d;rw[X6];dsimp only;exact⟨`a,by push_cast;cbv⟩
theorem Mf (ns XO:Rv)(c k:Int)(hc:0<c):0<(X8 ns XO 4 true 0 (k,c)).1.length:=by
 rw[mJ];let hm:2<=gq ns true k:=by
  unfold gq;have:=RU (aQ ns (k+1)) (show(4:Int)≠0 by decide);simp;cbv
 let key:∀(f:List Th×Pn->List Th×Pn)(x:List Th×Pn),(∀y,y.1.length<=(f y).1.length)->0<(f x).1.length->∀m,1<=m->0<(Yj f m x).1.length:=by
  intro f x h1 h2 m
  induction m with
  | zero=>intro h;cbv
  | succ m ih=>
    intro _;rw[Yj];cases m with
    | zero=>exact h2
    | succ m=>exact UA (ih `a) (h1 _)
 refine key _ _ (λy=>?_) ?_ _ (show 1<=gq ns true k by cbv)
 ·unfold jo;split
  ·split<;>simp
  ·exact Uw _
 ·unfold jo;rw[XG ⟨hc,by simp[dG]⟩];split<;>simp
theorem Cp (ns:Rv)(m k:Int)(hb:0<dE m):∀i,∀L∈(X6 ns m k i).1,0<L.length/\L.length<=5
 | 0,L,h=>by cases h
 | i+1,L,h=>by
   rw[X6] at h;obtain z | z:=Sl.mp h
   ·exact Cp ns m k hb i L z
   ·rw[Sa.mp z];exact⟨Mf ns _ _ _ hb,(nh ns (fX i m) 4 true 0 ((X6 ns m k i).2,dE m) (Int.le_of_lt hb)).l⟩
theorem lS (k:Nat)(y:α)(xs:`u):(cy k y xs).length=xs.length+1:=by
 unfold cy;rw[Sd,Si,Sx,TJ];cbv
theorem mem_set {l:`u}{x y:α}(h:y∈l.set i x):y∈l∨y=x:=List.mem_or_eq_of_mem_set h
theorem zD (ns:Rv)(x:List (List Th)×Int)(hx:∀L∈x.1,0<L.length/\L.length<=5):∀i,(Ym ns x i).1.length=x.1.length/\(Ym ns x i).2=x.2+2*(i:Int)/\∀L∈(Ym ns x i).1,0<L.length/\L.length<=5+i
 | 0=>⟨rfl,by show x.2=_;cbv,λL h=>⟨(hx L h).1,(hx L h).2⟩⟩
 | i+1=>by
   let⟨a,b,c⟩:=zD ns x hx i;rw[Ym];refine⟨by unfold rh;dsimp only;rw[SR];exact a,by unfold rh;dsimp only;rw[b];push_cast;cbv,λL h=>?_⟩;unfold rh at h;dsimp only at h;obtain z | z:=mem_set h
   ·have:=c L z;cbv
   ·rw[z,lS];generalize hn:Z6 ns (Ym ns x i).2 (i+1)=n;refine⟨`a,?_⟩;rw[R8];cases e:(Ym ns x i).1[n]? with
    | none=>show 0+1<=_;cbv
    | some L'=>
      have:=(c L' (Sg e)).2;show L'.length+1<=_;cbv
abbrev PR:Stmt:=top vt
abbrev nDR:Rx:=["_law_script","_law_start","_law_pen","_law_many","_law_names","_law_k","_law_name_here","_law_letter","_law_lists","_law_items"]
noncomputable def PM:dh:=λK ps T=>∃(ns:Rv)(s:Int),ps=[⟨cT,ns⟩,⟨ag,s⟩]/\zS ns/\0<=s/\s<=1000/\T=Ei K (ae aq) λy L=>y=YF ns s/\L=(YO ns s).map bN
theorem OS (M:`ba)(CP:`aW)(CN:aE P w K mg base "_law_name" 1 (aR GR K))(CL:aE P w K mg base "_law_list" 16 (gG de (Gj 4) K))(Df:Def K mg "_law_drawn" PR ["_law_script","_law_start"]):aE P w K mg base "_law_drawn" 17 (aR PM K):=by
 let CP:=CP.mono (show 2<=16 by decide);let CN:=CN.mono (show 1<=16 by decide);refine bP (N:=nDR) (k:=16) Df `z;let⟨ns,s,rfl,hs,s0,s1,rfl⟩:=hS;let⟨m1,m4⟩:=yL ns s;refine ai (cD 2 (r:=de) (ys:=ck ns s 0) (aP (ak (EV.inl `e) (ak (EV.inr `g) (ak (EV.inr ev_int) aM))) (by show 3<=U9;decide)) ?_);refine WS.box 2 rfl λa0=>?_;refine ai (bc 3 (y:=Yz ns s) (bR ev_int (c6 (gg 2 (st:=ck ns (s+1) 0) (z:=aQ ns (s+1)) CP hr ax rfl ⟨ns,s,0,rfl,rfl,hs,s0,`a,rfl⟩) ev_int `c)) ?_);generalize hM:Yz ns s=m at m1 m4;refine ai (cD 4 (r:=aq) (ys:=[]) `az ?_);refine bD (N1:=λZ=>∃e5 e6 e7,Z=[.im cT ns,aA s,.ob (aO a0 de (ck ns (s+1+m) 0)),aA m,.mu aq (YF ns s),e5,e6,e7,.no,.no]) (bO (λi Z=>∃e5 e6 e7,Z=[.im cT ns,aA s,.ob (aO a0 de (ck ns (s+1+(i:Int)) 0)),aA m,.mu aq (dX ns s i),e5,e6,e7,.no,.no]) (dA M.range `p ⟨`a,`a⟩) (aW 5) ⟨_,_,_,by rw[show s+1+((0:Nat):Int)=s+1 from Int.add_zero _];rfl⟩ (λi j Z hj hΓ=>?_) `X) ?_
 ·let⟨e5,e6,e7,rfl⟩:=hΓ;let⟨jl,ej⟩:=eR hj;obtain rfl:j=(i:Int):=`a
  let b:=uI ns (s+1+(i:Int)+1);refine ai (bc 6 (y:=X9 (aQ ns (s+1+(i:Int)+1))) (aJ CN hr (ah (gg 2 (st:=ck ns (s+1+(i:Int)+1) 0) (z:=aQ ns (s+1+(i:Int)+1)) CP hr ax rfl ⟨ns,_,0,rfl,rfl,hs,`a,`a,rfl⟩) ax) ⟨_,rfl,b.1,b.2,rfl⟩) ?_);let hx:=jz (aQ ns (s+1+(i:Int)+1));let he:s+1+(i:Int)+1=s+2+(i:Int):=`a
  let hnext:dX ns s (i+1)=dX ns s i++[xm (dX ns s i) (X9 (aQ ns (s+1+(i:Int)+1)))]:=by rw[dX,he]
  generalize X9 (aQ ns (s+1+(i:Int)+1))=x at hx hnext;let hlen:=mV ns s i;let hfold:∀n,cY (((iF mx).take n).foldl (ki (dX ns s i)) x):=λn=>o9 hx λc hc=>ug (Um hc);refine bD (N1:=λZ=>∃e7,Z=[.im cT ns,aA s,.ob (aO a0 de (ck ns (s+1+(i:Int)+1) 0)),aA m,.mu aq (dX ns s i),aA (i:Int),.im aq (xm (dX ns s i) x),e7,.no,.no]) (bO (λn Z=>∃e7,Z=[.im cT ns,aA s,.ob (aO a0 de (ck ns (s+1+(i:Int)+1) 0)),aA m,.mu aq (dX ns s i),aA (i:Int),.im aq (((iF mx).take n).foldl (ki (dX ns s i)) x),e7,.no,.no]) (BK (x:=mx) aB `b `b) (aW 7) ⟨_,rfl⟩ (λn c Z hc hΓ=>?_) `X) ?_
  ·let⟨e7,rfl⟩:=hΓ;let hf:=hfold n;let YD:((iF mx).take (n+1)).foldl (ki (dX ns s i)) x=ki (dX ns s i) (((iF mx).take n).foldl (ki (dX ns s i)) x) c:=by
    rw[SS,hc,Tg];rfl
   rw[YD];generalize ((iF mx).take n).foldl (ki (dX ns s i)) x=z at hf;let cl:=(ug (Sg hc)).2;change WS _ _ [.im cT ns,aA s,.ob (aO a0 de (ck ns (s+1+(i:Int)+1) 0)),aA m,.mu aq (dX ns s i),aA (i:Int),.im aq z,.im aq c,.no,.no] _ _;refine aj (a9 (TV.YI (MM (i:=4) rfl (aL (by rw[hlen];cbv))) (ay wx `an `T)) (λh=>?_) (λh=>aG ⟨.im aq c,?_⟩))
   ·let h:z∈dX ns s i:=XH h;refine aj (bc 6 (y:=ki (dX ns s i) z c) (EV.cast (uo (KG `an hf.l8) (aa 7 rfl) (Ux (show _<=8 by have:=vQ z;cbv) `c)) (by unfold ki;rw[XG h])) ⟨.im aq c,rfl⟩)
   ·let h:¬z∈dX ns s i:=XI h;unfold ki;rw[XF h]
  ·let⟨e7,rfl⟩:=hΓ;refine⟨e7,?_⟩;rw[SW];rfl
  rintro _ ⟨e7,rfl⟩;refine aj (eQ 4 `an rfl rfl (Uz (show _<=10 by rw[hlen];cbv) `c) ⟨aA (i:Int),.im aq (xm (dX ns s i) x),e7,?_⟩);rw[hnext,show s+1+((i+1:Nat):Int)=s+1+(i:Int)+1 by push_cast;cbv];rfl
 ·let⟨e5,e6,e7,rfl⟩:=hΓ;rw[bp];refine⟨e5,e6,e7,?_⟩;unfold YF;rw[hM,show((m.toNat:Nat):Int)=m by cbv]
 rintro _ ⟨e5,e6,e7,rfl⟩;let hdN:(YF ns s).length<=4:=by unfold YF;rw[mV,hM];cbv
 generalize hdn:YF ns s=dn at hdN;let⟨b6,b14⟩:=Bx m1 m4;refine ai (cD 8 (r:=av) (ys:=[]) `az ?_);refine WS.M0 8 rfl λa=>?_;let kb:=Ge ns m (s+1+m) `a;refine bD (N1:=λZ=>∃e5 c ps,Z=[.im cT ns,aA s,.ob (aO a0 de (ck ns (X6 ns m (s+1+m) m.toNat).2 c)),aA m,.mu aq dn,e5,e6,e7,.ob (bC a ps),.no]/\ps.map (·.1)=(X6 ns m (s+1+m) m.toNat).1.map bN) (bO (λi Z=>∃e5 c ps,Z=[.im cT ns,aA s,.ob (aO a0 de (ck ns (X6 ns m (s+1+m) i).2 c)),aA m,.mu aq dn,e5,e6,e7,.ob (bC a ps),.no]/\ps.map (·.1)=(X6 ns m (s+1+m) i).1.map bN) (dA M.range `p ⟨`a,`a⟩) (aW 5) ⟨_,_,[],rfl,rfl⟩ (λi j Z hj hΓ=>?_) `X) ?_
 ·let⟨e5,c,ps,rfl,YL⟩:=hΓ;let⟨jl,ej⟩:=eR hj;obtain rfl:j=(i:Int):=`a
  let⟨k0,k1⟩:=kb i;let hl:=mI ns m (s+1+m) i;let Y4:X6 ns m (s+1+m) (i+1)=((X6 ns m (s+1+m) i).1++[(X8 ns (fX i m) 4 true 0 ((X6 ns m (s+1+m) i).2,dE m)).1],(X8 ns (fX i m) 4 true 0 ((X6 ns m (s+1+m) i).2,dE m)).2.1):=rfl;generalize X6 ns m (s+1+m) i=x at k0 k1 hl Y4 YL;rw[Y4];let⟨Ls,k⟩:=x;dsimp only at k0 k1 hl ⊢;let hbud:bX ([14,12,8,6]:Rv) (m-1)∣dE m:=a7 0 `a (by show m-1<((4:Nat):Int);cbv);refine ai (eN 2 (j:=2) (EV.inr (aK (ba.im (aP (r:=ag) (ak ev_int (ak ev_int (ak ev_int (ak ev_int aM)))) (by show 4<=U9;decide))) (gy `p ev_int) hbud)) ev_int rfl rfl rfl ?_);let hcl:(fX i m).length<=100:=by unfold fX;rw[bp];cbv
  let Yb:ps.length=i:=by
   have:=congrArg List.length YL;rw[R9,R9,hl] at this;exact this
  refine aj (IQ 8 (ys:=bN (X8 ns (fX i m) 4 true 0 (k,dE m)).1) (jh 2 (st:=ck ns (X8 ns (fX i m) 4 true 0 (k,dE m)).2.1 (X8 ns (fX i m) 4 true 0 (k,dE m)).2.2) CL hr (ah ev_int (ah ev_int (ah (ba.im (tR M.list M.range (ah (bR `ai ev_int) (ah `p ax)) ⟨`a,`a⟩ ⟨`a,`a⟩)) ax))) rfl ⟨ns,fX i m,k,dE m,0,rfl,rfl,⟨hs,`a,show k+((177776:Nat):Int)<=900000 by cbv,`a,`a,hcl,`c⟩,rfl⟩ oF (vI _)) rfl rfl (Uz (show _<=10 by cbv) `c) λb g=>⟨aA (i:Int),(X8 ns (fX i m) 4 true 0 (k,dE m)).2.2,ps++[(bN (X8 ns (fX i m) 4 true 0 (k,dE m)).1,b,g)],rfl,?_⟩);rw[So,So,YL];rfl
 ·let⟨e5,c,ps,rfl,YL⟩:=hΓ;rw[bp] at YL ⊢;exact⟨e5,c,ps,rfl,YL⟩
 rintro _ ⟨e5,c,ps,rfl,YL⟩;let X3:=Cp ns m (s+1+m) `a m.toNat;let hxl:=mI ns m (s+1+m) m.toNat;let⟨k0,k1⟩:=kb m.toNat;let hdl:YO ns s=(Ym ns (X6 ns m (s+1+m) m.toNat) (m-1).toNat).1:=by unfold YO;rw[hM]
 generalize X6 ns m (s+1+m) m.toNat=x at X3 hxl k0 k1 hdl YL;let hinv:=zD ns x X3;refine bD (N1:=λZ=>∃e5 e9 k ps,Z=[.im cT ns,aA s,.ob (aO a0 de (ck ns k c)),aA m,.mu aq dn,e5,e6,e7,.ob (bC a ps),e9]/\ps.map (·.1)=(YO ns s).map bN) (bO (λi Z=>∃e5 e9 ps,Z=[.im cT ns,aA s,.ob (aO a0 de (ck ns (Ym ns x i).2 c)),aA m,.mu aq dn,e5,e6,e7,.ob (bC a ps),e9]/\ps.map (·.1)=(Ym ns x i).1.map bN) (BC M.range ev_int `p ⟨`a,`a,`a,`a⟩) (aW 5) ⟨_,_,ps,rfl,YL⟩ (λi j Z hj hΓ=>?_) `X) ?_
 ·let⟨e5,e9,ps,rfl,YL⟩:=hΓ;let⟨jl,ej⟩:=eR hj;obtain rfl:j=((i+1:Nat):Int):=by push_cast;cbv
  let⟨i1,i2,i3⟩:=hinv i;let Y4:Ym ns x (i+1)=rh ns (Ym ns x i) (i+1):=rfl;rw[Y4];generalize Ym ns x i=y at i1 i2 i3 YL;let⟨Ls,k⟩:=y;dsimp only at i1 i2 i3 YL;let Yb:ps.length=Ls.length:=by
   have:=congrArg List.length YL;rwa [R9,R9] at this
  unfold rh;dsimp only;let q0:=RU (aQ ns (k+1)) (show((i+1:Nat):Int)≠0 by cbv);let q1:=RS (aQ ns (k+1)) (show(0:Int)<((i+1:Nat):Int) by cbv);let Yw:Z6 ns k (i+1)<Ls.length:=by unfold Z6;cbv
  let hix:fL ps.length (aQ ns (k+1)%((i+1:Nat):Int))∣(Z6 ns k (i+1)):=wq q0 `a;generalize hatn:Z6 ns k (i+1)=n at Yw hix;let hL:Ls[n]?∣(Ls.getD n []):=by rw[R8,R7 Yw];rfl
  let hq:ps[n]?∣(ps[n]'`a):=R7 `a;generalize (ps[n]'`a)=q at hq;let hq1:q.1=bN (Ls.getD n []):=by
   have:=congrArg (λl=>l[n]?) YL;simp only[Sf,hq,hL] at this;exact Option.some.inj this
  refine ai (Cq 8 9 (c6 (gg 2 (st:=ck ns (k+1) c) (z:=aQ ns (k+1)) CP hr ax rfl ⟨ns,k,c,rfl,rfl,hs,`a,`a,rfl⟩) `ai `a) rfl rfl hix hq ?_);let⟨l0,l5⟩:=i3 _ (Sg hL);generalize Ls.getD n []=L at hL l0 l5 hq1;let hll:(q.1.length:Int)=(L.length:Int):=by rw[hq1,mY]
  let r0:=RU (aQ ns (k+2)) (show(L.length:Int)≠0 by cbv);let r1:=RS (aQ ns (k+2)) (show(0:Int)<(L.length:Int) by cbv);let e3:k+1+1=k+2:=`a
  refine aj (Ji 8 9 (k:=aQ ns (k+2)%(L.length:Int)) (y:=kY (.call ((i+1:Nat):Int))) (c6 (gg 2 (st:=ck ns (k+2) c) (z:=aQ ns (k+2)) CP hr ax rfl ⟨ns,k+1,c,rfl,rfl,hs,`a,`a,by rw[e3]⟩) (EV.cast (Et 8 9 M.len rfl rfl hq) hll) `a) (jZ.cast (x:=.lst (gc (.call ((i+1:Nat):Int)))) (ba.yq (aP (r:=av) (ak (EV.pS aB) (ak (EV.pI `ai) aM)) (by show 2<=U9;decide)) rfl) (fg _).symm) rfl rfl hq rfl r0 `a (Uz (show _<=20 by rw[hq1,mY];cbv) `c) λg=>⟨aA ((i+1:Nat):Int),.im dJ q.2.1,_,rfl,?_⟩);rw[List.map_set,YL];show(Ls.map bN).set n (cy _ _ q.1)=_;rw[hq1];rw[List.map_set,fQ (cy _ _ _),B9,← fQ]
 ·let⟨e5,e9,ps,rfl,YL⟩:=hΓ;rw[bp] at YL ⊢;exact⟨e5,e9,_,ps,rfl,by rw[hdl];exact YL⟩
 rintro _ ⟨e5,e9,k,ps,rfl,YL⟩;let⟨i1,i2,i3⟩:=hinv (m-1).toNat;rw[← hdl] at i1 i3;refine WS.freeze 4 rfl (aL `a) ?_;exact aj (IK 8 `T rfl ⟨rfl,YL⟩)
mutual
noncomputable def bZ (lo m:Int):Bool->Th->Prop
 | _,.Yh x=>cY x
 | _,.call j=>lo<j/\j<m
 | lp,.ifs x a b=>cY x/\bJ lo m lp a/\bJ lo m lp b
 | _,.X1 x a=>cY x/\bJ lo m true a
 | lp,.leave=>lp=true
 | _,.back=>True
noncomputable def bJ (lo m:Int):Bool->List Th->Prop
 | _,[]=>True
 | lp,t::ts=>bZ lo m lp t/\(fD t=true∨ts=[])/\bJ lo m lp ts
end
variable {lo:Int}{lp:Bool}
theorem lC {t:Th}:∀{a:`U},bJ lo m lp a->dG a=true->bZ lo m lp t->bJ lo m lp (a++[t])
 | [],_,_,ht=>by rw[S8,bJ];exact⟨ht,.inr rfl,by rw[bJ];trivial⟩
 | x::a,h,hp,ht=>by
   rw[bJ] at h;rw[dG,RJ] at hp;rw[Tq,bJ];exact⟨h.1,.inl hp.1,lC h.2.2 hp.2 ht⟩
theorem zy {t:Th}(ht:bZ lo m lp t)(hp:fD t=true):∀{k:Nat}{L:`U},bJ lo m lp L->k<L.length->bJ lo m lp (cy k t L)
 | 0,L,h,_=>by show bJ lo m lp (t::L);rw[bJ];exact⟨ht,.inl hp,h⟩
 | k+1,[],_,hk=>by cases hk
 | k+1,x::L,h,hk=>by
   rw[bJ] at h;let hk:k<L.length:= ~~~hk
   let hx:fD x=true:=h.2.1.resolve_right λe=>by rw[e] at hk;cases hk
   show bJ lo m lp (x::cy k t L);rw[bJ];exact⟨h.1,.inl hx,zy ht hp h.2.2 hk⟩
theorem yQ {ns XO:Rv}{sub:`bb}(hc:∀j∈XO,lo<j/\j<m)(Yl:∀L,sub∣L->∀lp s,0<=lp->bJ lo m (decide (0<lp)) (L lp s).1)(XQ:Int)(s:Pn)(hl:0<=XQ):bZ lo m (decide (0<XQ)) (Yk ns XO sub XQ s).1:=by
 unfold Yk;split
 ·rename_i h;simp only[bZ];exact XJ h.2
 split
 ·simp only[bZ]
 split
 ·rename_i h;simp only[bZ];let hl:(0:Int)<(XO.length:Int):=by have:=h.2;cbv
  let q0:=RU (aQ ns (s.1+3)) (show(XO.length:Int)≠0 by cbv);let q1:=RS (aQ ns (s.1+3)) hl;let hi:(aQ ns (s.1+3)%(XO.length:Int)).toNat<XO.length:=`a
  rw[R8,R7 hi];exact hc _ (SO hi)
 cases sub with
 | none=>simp only[bZ];exact jz _
 | some L=>
   dsimp only;split
   ·simp only[bZ];exact⟨jz _,Yl L rfl _ _ hl,Yl L rfl _ _ hl⟩
   split
   ·simp only[bZ];have:=Yl L rfl (XQ+1) (s.1+2,s.2-2) `a;rw[XJ (show 0<XQ+1 by cbv)] at this;exact⟨jz _,this⟩
   ·simp only[bZ];exact jz _
theorem zJ:cY "back":=⟨`b,`b,`b⟩
theorem uJ {α:Type}{f:α->α}{P:α->Prop}(h:∀x,P x->P (f x)):∀n x,P x->P (Yj f n x)
 | 0,_,hx=>hx
 | n+1,x,hx=>h _ (uJ h n x hx)
theorem Hr {ns XO:Rv}(hc:∀j∈XO,lo<j/\j<m):∀(n:Nat)(tp:Bool)(lp:Int)(s:Pn),0<=lp->bJ lo m (decide (0<lp)) (X8 ns XO n tp lp s).1:=by
 intro n
 induction n with
 | zero=>
   intro tp lp s hl;rw[mJ];refine uJ (P:=λ(x:List Th×Pn)=>bJ lo m (decide (0<lp)) x.1) (λx hx=>?_) _ _ (by simp only[bJ]);unfold jo;split
   ·rename_i h;split
    ·exact lC hx h.2 (by simp only[bZ];exact zJ)
    ·exact lC hx h.2 (yQ hc (λL e=>by cases e) lp x.2 hl)
   ·exact hx
 | succ n ih=>
   intro tp lp s hl;rw[mJ];refine uJ (P:=λ(x:List Th×Pn)=>bJ lo m (decide (0<lp)) x.1) (λx hx=>?_) _ _ (by simp only[bJ]);unfold jo;split
   ·rename_i h;split
    ·exact lC hx h.2 (by simp only[bZ];exact zJ)
    ·exact lC hx h.2 (yQ hc (λL e lp' s' Zj=>by cases e;exact ih false lp' s' Zj) lp x.2 hl)
   ·exact hx
section
variable {L:`U}
def iJ (L:`U):Prop:=∃t ts,L=t::ts/\qR t=false
theorem IA (h:iJ L)(t:Th):iJ (L++[t]):=by
 let⟨x,ts,rfl,h⟩:=h;exact⟨x,ts++[t],rfl,h⟩
theorem Kg (ns XO:Rv)(c k:Int)(hc:0<c):iJ (X8 ns XO 4 true 0 (k,c)).1:=by
 rw[mJ];let hm:2<=gq ns true k:=by
  unfold gq;have:=RU (aQ ns (k+1)) (show(4:Int)≠0 by decide);simp;cbv
 let key:∀(f:List Th×Pn->List Th×Pn)(x:List Th×Pn),(∀y,iJ y.1->iJ (f y).1)->iJ (f x).1->∀m,1<=m->iJ (Yj f m x).1:=by
  intro f x h1 h2 m
  induction m with
  | zero=>intro h;cbv
  | succ m ih=>
    intro _;rw[Yj];cases m with
    | zero=>exact h2
    | succ m=>exact h1 _ (ih `a)
 refine key _ _ (λy hy=>?_) ?_ _ (show 1<=gq ns true k by cbv)
 ·unfold jo;split
  ·split<;>exact IA hy _
  ·exact hy
 ·unfold jo;rw[XG ⟨hc,by simp[dG]⟩];split
  ·exact⟨_,[],rfl,rfl⟩
  ·rename_i h;refine⟨_,[],rfl,?_⟩;cases e:qR (Yk ns XO (eG ns XO 4) 0 ([],k+1,c).2).1 with
   | false=>rfl
   | true=>exact XE ⟨rfl,rfl,e⟩ h
def lZ (x:Str):Option Nat:=x.cps.toList.getLast?
theorem nU (x:Str)(c:Nat):lZ (x++⟨#[c]⟩)∣c:=by
 unfold lZ;let e:(x++(⟨#[c]⟩:Str)).cps.toList=x.cps.toList++[c]:=by show(x.cps++ #[c]).toList=_;simp
 rw[e];simp
theorem Fg:iF mx=[⟨#[113]⟩,⟨#[119]⟩,⟨#[101]⟩,⟨#[114]⟩]:=`b
theorem Hq (hl:XN.length<=3)(x:Str):xm XN x∉XN:=by
 unfold xm;rw[Fg];simp only[List.foldl];let Yt:∀{y:Str},y∉XN->∀c,ki XN y c=y:=λh c=>XF h;let go:∀{y:Str},y∈XN->∀c,ki XN y c=iD y++c:=λh c=>XG h;by_cases h0:x∈XN;rotate_left
 ·rw[Yt h0,Yt h0,Yt h0,Yt h0];exact h0
 rw[go h0];generalize hx1:iD x++(⟨#[113]⟩:Str)=x1;let l1:lZ x1∣113:=by rw[← hx1];exact nU _ _
 by_cases h1:x1∈XN;rotate_left
 ·rw[Yt h1,Yt h1,Yt h1];exact h1
 rw[go h1];generalize hx2:iD x1++(⟨#[119]⟩:Str)=x2;let l2:lZ x2∣119:=by rw[← hx2];exact nU _ _
 by_cases h2:x2∈XN;rotate_left
 ·rw[Yt h2,Yt h2];exact h2
 rw[go h2];generalize hx3:iD x2++(⟨#[101]⟩:Str)=x3;let l3:lZ x3∣101:=by rw[← hx3];exact nU _ _
 by_cases h3:x3∈XN;rotate_left
 ·rw[Yt h3];exact h3
 rw[go h3];generalize hx4:iD x3++(⟨#[114]⟩:Str)=x4;let l4:lZ x4∣114:=by rw[← hx4];exact nU _ _
 intro h4;let⟨n1,b1,e1⟩:=TU h1;let⟨n2,b2,e2⟩:=TU h2;let⟨n3,b3,e3⟩:=TU h3;let⟨n4,b4,e4⟩:=TU h4;let ne:∀{i j:Nat}{hi:i<XN.length}{hj:j<XN.length}{y z:Str}{c d:Nat},XN[i]=y->XN[j]=z->lZ y∣c->lZ z∣d->c≠d->i≠j:=by
  intro i j hi hj y z c d e e' l l' ZN z;subst z;rw[← e] at l;rw[← e',l] at l';exact ZN (Option.some.inj l')
 have:=ne e1 e2 l1 l2 `c;have:=ne e1 e3 l1 l3 `c;have:=ne e1 e4 l1 l4 `c;have:=ne e2 e3 l2 l3 `c;have:=ne e2 e4 l2 l4 `c;have:=ne e3 e4 l3 l4 `c;cbv
theorem CV (ns:Rv)(s:Int):∀i,i<=4->(dX ns s i).Nodup
 | 0,_=>TR
 | i+1,h=>by
   rw[dX];exact iW (CV ns s i `a) (Hq (by rw[mV];cbv) _)
theorem Mr (i:Nat)(m:Int):∀j∈fX i m,(i:Int)<j/\j<m:=by
 intro j hj;unfold fX at hj;let⟨n,hn⟩:=Sr.mp hj;let⟨a,b⟩:=eR hn;cbv
structure LsOk (m:Int)(b:Nat)(Ls:`F):Prop where
 ok:∀(p:Nat)(L:`U),Ls[p]?∣L->bJ (p:Int) m false L
 dp:∀L∈Ls,dH L<=4
 hd:∀L∈Ls,iJ L
 rw:∀L∈Ls,bY L<=b
theorem DG (ns:Rv)(m k:Int)(hb:0<dE m):∀i,LsOk m (dE m).toNat (X6 ns m k i).1/\((X6 ns m k i).1.map bY).sum<=i*(dE m).toNat
 | 0=>⟨⟨(λp L h=>by simp[X6] at h),(λL h=>by simp[X6] at h),(λL h=>by simp[X6] at h),(λL h=>by simp[X6] at h)⟩,Uy _⟩
 | i+1=>by
   let⟨h,hs⟩:=DG ns m k hb i;let hl:=mI ns m k i;let g:=nh ns (fX i m) 4 true 0 ((X6 ns m k i).2,dE m) (Int.le_of_lt hb);let go:=Hr (lo:=(i:Int)) (m:=m) (ns:=ns) (Mr i m) 4 true 0 ((X6 ns m k i).2,dE m) (RY 0);let gh:=Kg ns (fX i m) (dE m) (X6 ns m k i).2 hb;let gr:bY (X8 ns (fX i m) 4 true 0 ((X6 ns m k i).2,dE m)).1<=(dE m).toNat:=by
    have:=g.c;dsimp only at this;cbv
   rw[X6];dsimp only;generalize X8 ns (fX i m) 4 true 0 ((X6 ns m k i).2,dE m)=r at g go gh gr;generalize X6 ns m k i=x at h hs hl;let mem:∀{L},L∈x.1++[r.1]->L∈x.1∨L=r.1:=λh=>(Sl.mp h).imp id Sa.mp;refine⟨⟨λp L hp=>?_,λL hL=>?_,λL hL=>?_,λL hL=>?_⟩,?_⟩
   ·obtain z | z:=UD p x.1.length
    ·rw[SD z] at hp;exact h.ok p L hp
    ·rw[SG z] at hp;let hz:p-x.1.length=0:=by
      have:=(R6.mp hp).1;simp at this;cbv
     rw[hz] at hp;let e:r.1=L:= ~~~hp
     let ep:p=i:=`a
     rw[← e,ep];exact go
   ·obtain z | rfl:=mem hL
    ·exact h.dp L z
    ·exact g.dp
   ·obtain z | rfl:=mem hL
    ·exact h.hd L z
    ·exact gh
   ·obtain z | rfl:=mem hL
    ·exact h.rw L z
    ·exact gr
   ·rw[So,Uu,Nat.add_mul];simp;cbv
theorem md (k:Nat)(y:α)(xs:`u):cy k y xs=xs.take k++y::xs.drop k:=rfl
theorem DV (k:Nat)(j:Int)(L:`U):bY (cy k (.call j) L)=bY L+1:=by
 rw[md,kP,bY,cn];have:=kP (L.take k) (L.drop k);rw[Tw] at this;cbv
theorem Lh (k:Nat)(j:Int)(L:`U):dH (cy k (.call j) L)=dH L:=by
 rw[md,ny,dH,show gA (.call j)=0 by simp[gA]];have:=ny (L.take k) (L.drop k);rw[Tw] at this;cbv
theorem Jb {k:Nat}{y x:Th}(h:x∈L):x∈cy k y L:=by
 rw[md];rw[← Tw k L] at h;obtain z | z:=Sl.mp h
 ·exact Sn _ z
 ·exact Sk _ (Sb _ z)
theorem E8 {k:Nat}{y:Th}:y∈cy k y L:=by
 rw[md];exact Sk _ Se
theorem JX {k:Nat}{j:Int}(h:iJ L):iJ (cy k (.call j) L):=by
 let⟨t,ts,rfl,h⟩:=h;cases k with
 | zero=>exact⟨_,_,rfl,rfl⟩
 | succ k=>exact⟨t,cy k (.call j) ts,rfl,h⟩
theorem sum_set:∀{l:List Nat}{n a b:Nat},l[n]?∣a->(l.set n b).sum+a=l.sum+b
 | x::l,0,a,b,h=>by
   let e:x=a:= ~~~h
   rw[List.set_cons_zero,T9,T9,e];cbv
 | x::l,n+1,a,b,h=>by
   have:=sum_set (l:=l) (n:=n) (a:=a) (b:=b) (~~~h);rw[Ue,T9,T9];cbv
theorem B8 (ns:Rv)(x:List (List Th)×Int)(m:Int)(b:Nat)(hx:LsOk m b x.1)(hl:(x.1.length:Int)=m):∀i:Nat,(i:Int)<m->LsOk m (b+i) (Ym ns x i).1/\(Ym ns x i).1.length=x.1.length/\((Ym ns x i).1.map bY).sum=(x.1.map bY).sum+i/\∀j:Nat,1<=j->j<=i->∃L∈(Ym ns x i).1,Th.call (j:Int)∈L
 | 0,_=>⟨hx,rfl,rfl,λj h1 h2=>`a⟩
 | i+1,hi=>by
   let⟨h,hll,hs,hc⟩:=B8 ns x m b hx hl i `a;rw[Ym];generalize Ym ns x i=y at h hll hs hc;unfold rh;let q0:=RU (aQ ns (y.2+1)) (show((i+1:Nat):Int)≠0 by cbv);let q1:=RS (aQ ns (y.2+1)) (show(0:Int)<((i+1:Nat):Int) by cbv);let Yw:Z6 ns y.2 (i+1)<=i:=by unfold Z6;cbv
   generalize Z6 ns y.2 (i+1)=n at Yw;let hn:n<y.1.length:=`a
   let hL:y.1[n]?∣(y.1.getD n []):=by rw[R8,R7 hn];rfl
   generalize y.1.getD n []=L at hL;let mL:=Sg hL;let l0:0<L.length:=by let⟨t,ts,rfl,_⟩:=h.hd L mL;simp
   let r0:=RU (aQ ns (y.2+2)) (show(L.length:Int)≠0 by cbv);let r1:=RS (aQ ns (y.2+2)) (show(0:Int)<(L.length:Int) by cbv);let hk:(aQ ns (y.2+2)%(L.length:Int)).toNat<L.length:=`a
   dsimp only;generalize (aQ ns (y.2+2)%(L.length:Int)).toNat=k at hk;refine⟨⟨λp L' hp=>?_,λL' hL'=>?_,λL' hL'=>?_,λL' hL'=>?_⟩,by rw[SR];exact hll,?_,λj h1 h2=>?_⟩
   ·by_cases e:p=n
    ·subst e;rw[Sh hn] at hp;cases hp
     exact zy (by simp only[bZ];cbv) (by simp only[fD]) (h.ok p L hL) hk
    ·rw[SF (UT e)] at hp;exact h.ok p L' hp
   ·obtain z | rfl:=mem_set hL'
    ·exact h.dp L' z
    ·rw[Lh];exact h.dp L mL
   ·obtain z | rfl:=mem_set hL'
    ·exact h.hd L' z
    ·exact JX (h.hd L mL)
   ·obtain z | rfl:=mem_set hL'
    ·have:=h.rw L' z;cbv
    ·rw[DV];have:=h.rw L mL;cbv
   ·rw[List.map_set];have:=sum_set (l:=y.1.map bY) (n:=n) (a:=bY L) (b:=bY (cy k (.call ((i+1:Nat):Int)) L)) (by rw[Sf,hL];rfl);rw[DV] at this ⊢;cbv
   ·let sets:∀{L':`U},L'∈y.1->∃L2∈y.1.set n (cy k (.call ((i+1:Nat):Int)) L),∀t∈L',t∈L2:=λ{L'} hL'=>by
     let⟨q,hq⟩:=Sr.mp hL';by_cases e:q=n
     ·subst e;rw[hL] at hq;cases hq
      exact⟨_,Sg (Sh hn),λt ht=>Jb ht⟩
     ·exact⟨L',Sg ((SF (UT e)).trans hq),λt ht=>ht⟩
    by_cases e:j=i+1
    ·subst e;exact⟨_,Sg (Sh hn),E8⟩
    ·let⟨L',hL',hj⟩:=hc j h1 `a;let⟨L2,m2,s2⟩:=sets hL';exact⟨L2,m2,s2 _ hj⟩
structure cj (xs:Rx)(Ls:`F):Prop where
 l:xs.length=Ls.length
 l1:1<=Ls.length
 l4:Ls.length<=4
 nm:∀x∈xs,cY x
 nd:xs.Nodup
 ok:∀(p:Nat)(L:`U),Ls[p]?∣L->bJ (p:Int) (Ls.length:Int) false L
 dp:∀L∈Ls,dH L<=4
 hd:∀L∈Ls,iJ L
 rw:∀L∈Ls,bY L<=14
 tot:(Ls.map bY).sum<=30
 cl:∀j:Nat,1<=j->j<Ls.length->∃L∈Ls,Th.call (j:Int)∈L
theorem Ir (ns:Rv)(s:Int):cj (YF ns s) (YO ns s):=by
 let⟨m1,m4⟩:=yL ns s;unfold YF YO;generalize Yz ns s=m at m1 m4;let⟨b6,b14⟩:=Bx m1 m4;let⟨h,hs⟩:=DG ns m (s+1+m) `a m.toNat;let hl:=mI ns m (s+1+m) m.toNat;generalize X6 ns m (s+1+m) m.toNat=x at h hs hl;let⟨o,oll,os,oc⟩:=B8 ns x m _ h `a (m-1).toNat `a;let bm:(dE m).toNat+(m-1).toNat<=14/\m.toNat*(dE m).toNat+(m-1).toNat<=30:=by
  have:∀j:Fin 4,(dE ((j.val:Int)+1)).toNat+j.val<=14/\(j.val+1)*(dE ((j.val:Int)+1)).toNat+j.val<=30:=`b
  have:=this ⟨(m-1).toNat,`a⟩;dsimp only at this;rw[show(((m-1).toNat:Nat):Int)+1=m by cbv,show(m-1).toNat+1=m.toNat by cbv] at this;exact this
 generalize Ym ns x (m-1).toNat=y at o oll os oc;let em:((y.1.length:Nat):Int)=m:=`a
 exact⟨by rw[mV];cbv,`a,`a,B0 ns s _,CV ns s _ `a,by rw[em];exact o.ok,o.dp,o.hd,λL hL=>Ux (o.rw L hL) bm.1,`a,λj h1 h2=>oc j h1 `a⟩
end
abbrev S1 (x:Str):Rx:=[x]
abbrev S2 (x y:Str):Rx:=[x,y]
mutual
noncomputable def c9 (XN:Rx):Th->Rx
 | .Yh x=>S2 "do" x
 | .call j=>S2 "call" (XN.getD j.toNat "")
 | .ifs x a b=>S2 "if" x++X5 XN a++S1 "else"++(X5 XN b++S1 "end")
 | .X1 x a=>S2 "while" x++X5 XN a++S1 "end"
 | .leave=>S1 "leave"
 | .back=>S1 "back"
noncomputable def X5 (XN:Rx):List Th->Rx
 | []=>[]
 | t::ts=>c9 XN t++X5 XN ts
end
theorem Au (XN:Rx):∀a b:List Th,X5 XN (a++b)=X5 XN a++X5 XN b
 | [],b=>by rw[X5];rfl
 | t::a,b=>by rw[Tq,X5,X5,Au XN a b,Su]
theorem IL (XN:Rx)(t:Th):X5 XN [t]=c9 XN t:=by rw[X5,X5,Sw]
mutual
theorem IB {XN:Rx}{lo m:Int}:∀(t:Th)(lp:Bool),bZ lo m lp t->(c9 XN t).length<=4*cn t+(if cn t=0 then 1 else 0)
 | .Yh x,_,_=>by simp[c9,cn]
 | .call j,_,_=>by simp[c9,cn]
 | .ifs x a b,lp,h=>by
   simp only[bZ] at h;let h1:=fV (XN:=XN) a lp h.2.1;let h2:=fV (XN:=XN) b lp h.2.2;simp[c9,cn];cbv
 | .X1 x a,lp,h=>by
   simp only[bZ] at h;let h1:=fV (XN:=XN) a true h.2;simp[c9,cn];cbv
 | .leave,_,_=>by simp[c9,cn]
 | .back,_,_=>by simp[c9,cn]
theorem fV {XN:Rx}{lo m:Int}:∀(ts:`U)(lp:Bool),bJ lo m lp ts->(X5 XN ts).length<=4*bY ts+1
 | [],_,_=>by simp[X5]
 | t::ts,lp,h=>by
   simp only[bJ] at h;let h1:=IB (XN:=XN) t lp h.1;let h2:=fV (XN:=XN) ts lp h.2.2;rw[X5,bY,Sd];by_cases e:cn t=0
   ·rw[e,XG rfl] at h1;let hp:fD t=false:=by cases t<;>simp[cn] at e<;>simp[fD]
    have:ts=[]:=h.2.1.resolve_left (by rw[hp];decide);subst this;simp[X5,bY];cbv
   ·rw[XF e] at h1;cbv
end
theorem Ad {lo m:Int}{lp:Bool}{t:Th}:∀{ts:`U},bJ lo m lp ts->t∈ts->bZ lo m lp t
 | s::ts,h,hm=>by
   simp only[bJ] at h;obtain rfl | hm:=Sj.mp hm
   ·exact h.1
   ·exact Ad h.2.2 hm
theorem BX {t:Th}:∀{ts:`U},t∈ts->cn t<=bY ts
 | s::ts,h=>by
   rw[bY];obtain rfl | h:=Sj.mp h
   ·cbv
   ·have:=BX h;cbv
theorem yr {lo m:Int}{lp:Bool}:∀{ts:`U}(i:Nat),bJ lo m lp ts->bJ lo m lp (ts.take i)
 | [],i,h=>by rw[take_nil];exact h
 | t::ts,0,h=>by simp only[TC,bJ]
 | t::ts,i+1,h=>by
   simp only[bJ] at h;rw[S3,bJ];exact⟨h.1,h.2.1.imp id λe=>by rw[e,take_nil],yr i h.2.2⟩
theorem Jj (ts:`U)(i:Nat):bY (ts.take i)<=bY ts:=by
 have:=kP (ts.take i) (ts.drop i);rw[Tw] at this;cbv
mutual
noncomputable def ig:Th->PV->Prop
 | .Yh x,v=>∃tl,v= .lst (.str "do":: .str x::tl)
 | .call j,v=>∃tl,v= .lst (.str "call":: .int j::tl)
 | .ifs x A B,v=>∃a b tl,v= .lst (.str "if":: .str x:: .lst a:: .lst b::tl)/\lW A a/\lW B b
 | .X1 x A,v=>∃a tl,v= .lst (.str "while":: .str x:: .lst a::tl)/\lW A a
 | .leave,v=>∃tl,v= .lst (.str "leave"::tl)
 | .back,v=>∃tl,v= .lst (.str "back"::tl)
noncomputable def lW:List Th->List PV->Prop
 | [],xs=>xs=[]
 | t::ts,xs=>∃v vs,xs=v::vs/\ig t v/\lW ts vs
end
theorem Gy:∀{ts:`U}{xs:`aQ},lW ts xs->xs.length=ts.length/\∀{i:Nat}{v:PV},xs[i]?∣v->∃t,ts[i]?∣t/\ig t v
 | [],xs,h=>by rw[lW] at h;subst h;exact⟨rfl,λh=>by simp at h⟩
 | t::ts,xs,h=>by
   rw[lW] at h;let⟨v,vs,rfl,h1,h2⟩:=h;let⟨l,a⟩:=Gy h2;refine⟨by rw[Si,Si,l],λ{i u} hi=>?_⟩;cases i with
   | zero=>simp at hi;subst hi;exact⟨t,rfl,h1⟩
   | succ i=>simpa using a (~~~hi)
variable {v:PV}
theorem OM (h:ig t v):∃tl,v= .lst (.str (eE t)::tl):=by
 cases t with
 | Yh x=>rw[ig] at h;let⟨tl,rfl⟩:=h;exact⟨_,rfl⟩
 | call x=>rw[ig] at h;let⟨tl,rfl⟩:=h;exact⟨_,rfl⟩
 | ifs x a b=>rw[ig] at h;let⟨_,_,tl,rfl,_⟩:=h;exact⟨_,rfl⟩
 | X1 x a=>rw[ig] at h;let⟨_,tl,rfl,_⟩:=h;exact⟨_,rfl⟩
 | leave=>rw[ig] at h;let⟨tl,rfl⟩:=h;exact⟨_,rfl⟩
 | back=>rw[ig] at h;let⟨tl,rfl⟩:=h;exact⟨_,rfl⟩
theorem oI {xs:`u}{y:α}(h:xs[i]?∣y):bX xs (i:Int)∣y:=by
 have:=(R6.mp h).1;rw[gb `a `a,RX];exact h
variable {Γ1:Ga}{j:Nat}
theorem ot {a:Expr}(hv:ig t v)(h:EV X a Z av v Γ1):EV X (.Subscript a (.Constant (.int 0) j p1) pos) Z aq (eE t) Γ1:=by
 let⟨tl,rfl⟩:=OM hv;exact EV.sP (aK (EV.lP h) ev_int (oI (i:=0) rfl))
variable {Ls:`F}{z:`bf}{ws:Rx}
abbrev Mj:Stmt:=top vj
abbrev nWD:Rx:=["_law_items","_law_names","_law_words_here","_law_one"]
theorem E7:bF nWD ["_law_items","_law_names"] (ao Mj):=Y6
def Pe (n:Nat):dh:=λK ps T=>∃(ts:`U)(xs:`aQ)(XN:Rx)(lo m:Int)(lp:Bool),ps=[⟨ae av,xs⟩,⟨ae aq,XN⟩]/\lW ts xs/\dH ts<n/\bJ lo m lp ts/\0<=lo/\m<=(XN.length:Int)/\bY ts<=100/\T=cR K (ae aq) (· =X5 XN ts)
theorem l1 (x:Str):([x]:Rx).length<=U9:=by show 1<=U9;decide
theorem l2 (x y:Str):([x,y]:Rx).length<=U9:=by show 2<=U9;decide
theorem OO (F:dO K "_law_words" "_law_words" Mj f fd)(hm:mg "_law_words"∣.ref f)(hb:Binds K fd ["_law_items","_law_names"] []):∀n:Nat,aE P w K mg base "_law_words" (n+1) (aR (Pe n) K):=by
 intro n;let nd:=E7.nd
 induction n with
 | zero=>
   refine gU F E7 hm hb (λqs T ⟨_,_,_,_,_,_,e,_⟩=>by rw[e];rfl) `ab;let⟨ts,_,_,_,_,_,_,_,h,_⟩:=hS;exact XE h (Nat.not_lt_zero _)
 | succ n ih=>
   refine gU F E7 hm hb (λqs T ⟨_,_,_,_,_,_,e,_⟩=>by rw[e];rfl) `ab;let⟨ts,xs,XN,lo,m,lp,rfl,hrp,hd,XX,lo0,hml,hrw,rfl⟩:=hS;let⟨xl,rpa⟩:=Gy hrp;refine ai (cD 2 (r:=aq) (ys:=[]) `az ?_);refine bD (N1:=λZ=>∃e3,Z=[.im (ae av) xs,.im (ae aq) XN,.mu aq (X5 XN ts),e3]) (bO (r:=av) (λi Z=>∃e3,Z=[.im (ae av) xs,.im (ae aq) XN,.mu aq (X5 XN (ts.take i)),e3]) (bI `e) (aW 3) ⟨_,rfl⟩ (λi x Z hx hΓ=>?_) `X) ?_
   ·let⟨e3,rfl⟩:=hΓ;let⟨t,ht,hv⟩:=rpa hx;let tm:=Sg ht;let tok:=Ad XX tm;let tdp:=ou tm;let trw:=BX tm;let wl:=fV (XN:=XN) (ts.take i) lp (yr i XX);let wr:=Jj ts i;let Y4:X5 XN (ts.take (i+1))=X5 XN (ts.take i)++c9 XN t:=by rw[SS,ht,Au];rw[show(some t).toList=[t] from rfl,IL]
    rw[Y4];generalize X5 XN (ts.take i)=ws at wl;let wz:ws.length<=401:=`a
    refine aj (a9 (ay cu (ot hv `p) aB) (λh=>?_) (λh1=>?_))
    ·let h:eE t="do":=XH h;cases t with
     | Yh x=>
       rw[ig] at hv;let⟨tl,rfl⟩:=hv;refine WS.freeze 2 rfl (aL `a) ?_;refine aj (cD 2 (ys:=ws++S2 "do" x) `ah ⟨.im av (.lst (.str "do":: .str x::tl)),?_⟩);rw[c9];rfl
     | _=>exact XE h (by simp only[eE];decide)
    let h1:¬eE t="do":=XI h1;refine aj (a9 (ay cu (ot hv `p) aB) (λh=>?_) (λh2=>?_))
    ·let h:eE t="call":=XH h;cases t with
     | call j=>
       rw[ig] at hv;let⟨tl,rfl⟩:=hv;simp only[bZ] at tok;refine WS.freeze 2 rfl (aL `a) ?_;refine aj (cD 2 (ys:=ws++S2 "call" (XN.getD j.toNat "")) (cJ `r (ba.im (aP (r:=aq) (ak aB (ak (aK `g (EV.iP (aK (EV.lP `p) ev_int (oI (i:=1) rfl))) (a7 (xs:=XN) (i:=j) "" `a `a)) aM)) (l2 _ _))) `bg) ⟨.im av (.lst (.str "call":: .int j::tl)),?_⟩);rw[c9];rfl
     | _=>exact XE h (by simp only[eE];decide)
    let h2:¬eE t="call":=XI h2;refine aj (a9 (ay cu (ot hv `p) aB) (λh=>?_) (λh3=>?_))
    ·let h:eE t="if":=XH h;cases t with
     | ifs x a b=>
       rw[ig] at hv;let⟨xa,xb,tl,rfl,ra,rb⟩:=hv;simp only[bZ] at tok;rw[gA] at tdp;rw[cn] at trw;let la:=fV (XN:=XN) a lp tok.2.1;let lb:=fV (XN:=XN) b lp tok.2.2;refine WS.freeze 2 rfl (aL `a) ?_;refine ai (cD 2 (ys:=ws++S2 "if" x++X5 XN a++S1 "else") (cJ (ba.im (cJ (ba.im `ah) (aJ ih hr (ah (EV.lP (aK (EV.lP `p) ev_int (oI (i:=2) rfl))) (ah `g ax)) ⟨a,xa,XN,lo,m,lp,rfl,ra,`a,tok.2.1,lo0,hml,`a,rfl⟩) `bg)) (ba.im (aP (r:=aq) (ak aB aM) (l1 _))) `bg) ?_);refine WS.freeze 2 rfl `bg ?_;refine aj (cD 2 (ys:=ws++S2 "if" x++X5 XN a++S1 "else"++X5 XN b++S1 "end") (cJ (ba.im (cJ `r (aJ ih hr (ah (EV.lP (aK (EV.lP `p) ev_int (oI (i:=3) rfl))) (ah `g ax)) ⟨b,xb,XN,lo,m,lp,rfl,rb,`a,tok.2.2,lo0,hml,`a,rfl⟩) `bg)) (ba.im (aP (r:=aq) (ak aB aM) (l1 _))) `bg) ⟨.im av (.lst (.str "if":: .str x:: .lst xa:: .lst xb::tl)),?_⟩);rw[c9];simp only[Su];rfl
     | _=>exact XE h (by simp only[eE];decide)
    let h3:¬eE t="if":=XI h3;refine aj (a9 (ay cu (ot hv `p) aB) (λh=>?_) (λh4=>?_))
    ·let h:eE t="while":=XH h;cases t with
     | X1 x a=>
       rw[ig] at hv;let⟨xa,tl,rfl,ra⟩:=hv;simp only[bZ] at tok;rw[gA] at tdp;rw[cn] at trw;let la:=fV (XN:=XN) a true tok.2;refine WS.freeze 2 rfl (aL `a) ?_;refine aj (cD 2 (ys:=ws++S2 "while" x++X5 XN a++S1 "end") (cJ (ba.im (cJ (ba.im `ah) (aJ ih hr (ah (EV.lP (aK (EV.lP `p) ev_int (oI (i:=2) rfl))) (ah `g ax)) ⟨a,xa,XN,lo,m,true,rfl,ra,`a,tok.2,lo0,hml,`a,rfl⟩) `bg)) (ba.im (aP (r:=aq) (ak aB aM) (l1 _))) `bg) ⟨.im av (.lst (.str "while":: .str x:: .lst xa::tl)),?_⟩);rw[c9];simp only[Su];rfl
     | _=>exact XE h (by simp only[eE];decide)
    let h4:¬eE t="while":=XI h4;let ew:c9 XN t=[eE t]:=by
     cases t with
     | Yh x=>exact XE rfl h1
     | call x=>exact XE rfl h2
     | ifs x a b=>exact XE rfl h3
     | X1 x a=>exact XE rfl h4
     | leave=>rw[c9];rfl
     | back=>rw[c9];rfl
    rw[ew];exact aj (eQ 2 (ot hv `p) rfl rfl (Uz wz `c) ⟨_,rfl⟩)
   ·let⟨e3,rfl⟩:=hΓ;rw[xl,SW];exact⟨e3,rfl⟩
   rintro _ ⟨e3,rfl⟩;let wl:=fV (XN:=XN) ts lp XX;refine WS.freeze 2 rfl (aL `a) ?_;exact aj (aX `r rfl)
def gw (XN:Rx)(z:`bf):Rx:=S2 "part" (z.1)++X5 XN z.2++S1 "end"
noncomputable def kq (XN:Rx)(Ls:`F):Rx:=(XN.zip Ls).flatMap (gw XN)
abbrev P6:Stmt:=top xR
abbrev nTX:Rx:=["_law_names","_law_lists","_law_words_here","_law_name_here","_law_items"]
def PD:dh:=λK ps T=>∃(XN:Rx)(Ls:`F)(Xs:List (List PV)),ps=[⟨ae aq,XN⟩,⟨ae (ae av),Xs⟩]/\cj XN Ls/\Xs.length=Ls.length/\(∀(i:Nat)(L:`U),Ls[i]?∣L->∃x,Xs[i]?∣x/\lW L x)/\T=cR K aq (· =W7 " " (kq XN Ls))
structure gZ (w:Str):Prop where
 l:w.length<=8
 f:32∉w.cps.toList
theorem cY.wo (h:cY x):gZ x:=⟨h.l8,λz=>by have:=(h.az _ z).1;cbv⟩
theorem gv {w:Str}(h:(decide (w.length<=8)&&decide (32∉w.cps.toList))=true):gZ w:=by
 rw[RJ] at h;exact⟨XH h.1,XH h.2⟩
theorem Jn (h:∀x∈XN,cY x)(i:Nat):gZ (XN.getD i ""):=by
 rw[R8];cases e:XN[i]? with
 | none=>exact gv `b
 | some x=>exact(h x (Sg e)).wo
theorem oq (hx:gZ x)(hy:gZ y):∀w∈S2 x y,gZ w:=λw hw=>by
 obtain rfl | hw:=Sj.mp hw
 ·exact hx
 ·rw[Sa.mp hw];exact hy
theorem nB (hx:gZ x):∀w∈S1 x,gZ w:=λw hw=>by rw[Sa.mp hw];exact hx
theorem gB {a b:Rx}(ha:∀w∈a,gZ w)(hb:∀w∈b,gZ w):∀w∈a++b,gZ w:=λw hw=>(Sl.mp hw).elim (ha w) (hb w)
mutual
theorem Mg {XN:Rx}{lo m:Int}(hn:∀x∈XN,cY x):∀(t:Th)(lp:Bool),bZ lo m lp t->∀w∈c9 XN t,gZ w
 | .Yh x,_,h=>by
   simp only[bZ] at h;rw[c9];exact oq (gv `b) h.wo
 | .call j,_,_=>by rw[c9];exact oq (gv `b) (Jn hn _)
 | .ifs x a b,lp,h=>by
   simp only[bZ] at h;rw[c9];exact gB (gB (gB (oq (gv `b) h.1.wo) (oZ hn a lp h.2.1)) (nB (gv `b))) (gB (oZ hn b lp h.2.2) (nB (gv `b)))
 | .X1 x a,lp,h=>by
   simp only[bZ] at h;rw[c9];exact gB (gB (oq (gv `b) h.1.wo) (oZ hn a true h.2)) (nB (gv `b))
 | .leave,_,_=>by rw[c9];exact nB (gv `b)
 | .back,_,_=>by rw[c9];exact nB (gv `b)
theorem oZ {XN:Rx}{lo m:Int}(hn:∀x∈XN,cY x):∀(ts:`U)(lp:Bool),bJ lo m lp ts->∀w∈X5 XN ts,gZ w
 | [],_,_=>by rw[X5];intro w h;cases h
 | t::ts,lp,h=>by
   simp only[bJ] at h;rw[X5];exact gB (Mg hn t lp h.1) (oZ hn ts lp h.2.2)
end
theorem ni (h:(XN.zip Ls)[i]?∣z):XN[i]?∣z.1/\Ls[i]?∣z.2:=by
 rw[TN] at h;exact h
theorem Ov (h:`aI)(hz:z∈XN.zip Ls):(gw XN z).length<=60/\∀w∈gw XN z,gZ w:=by
 let⟨i,hi⟩:=Sr.mp hz;let⟨h1,h2⟩:=ni hi;let hk:=h.ok i z.2 h2;let hl:=fV (XN:=XN) z.2 false hk;let hr:=h.rw z.2 (Sg h2);unfold gw;refine⟨by simp;cbv,gB (gB (oq (gv `b) (h.nm z.1 (Sg h1)).wo) (oZ h.nm z.2 false hk)) (nB (gv `b))⟩
theorem zF {XN:Rx}:∀{zs:`aX},(∀z∈zs,(gw XN z).length<=60/\∀w∈gw XN z,gZ w)->(zs.flatMap (gw XN)).length<=60*zs.length/\∀w∈zs.flatMap (gw XN),gZ w
 | [],_=>⟨Uy _,λw h=>by cases h⟩
 | z::zs,h=>by
   let⟨a,b⟩:=zF (zs:=zs) λy hy=>h y (Sb _ hy);let⟨c,d⟩:=h z Se;rw[Te];exact⟨by rw[Sd,Si];cbv,gB d b⟩
theorem zA (h:`aI)(i:Nat):(((XN.zip Ls).take i).flatMap (gw XN)).length<=240/\∀w∈((XN.zip Ls).take i).flatMap (gw XN),gZ w:=by
 let⟨a,b⟩:=zF (XN:=XN) (zs:=(XN.zip Ls).take i) λz hz=>Ov h (Um hz);refine⟨?_,b⟩;have:=h.l;have:=h.l4;rw[Sx,Ts] at a;cbv
theorem v5 (h:`aI):(kq XN Ls).length<=240/\∀w∈kq XN Ls,gZ w:=by
 have:=zA h (XN.zip Ls).length;rw[SW] at this;exact this
theorem zB (hl:ws.length<=240)(h:∀w∈ws,gZ w):JoinOk " " ws=true:=by
 unfold JoinOk;rw[StrLaws.joinFits (B:=8) (λy hy=>(h y hy).l) (by rw[show(" ":Str).length=1 by decide +kernel];cbv)];rfl
theorem Nw (M:`ba)(CW:aE P w K mg base "_law_words" 6 (aR (Pe 5) K))(Df:Def K mg "_law_text" P6 ["_law_names","_law_lists"]):aE P w K mg base "_law_text" 7 (aR PD K):=by
 refine bP (N:=nTX) (k:=6) Df `n;let⟨XN,Ls,Xs,rfl,hP,xl,hX,rfl⟩:=hS;refine ai (bc 2 (y:=([]:Rx)) (ba.im (aP (r:=aq) aM (Uy _))) ?_);refine bD (N1:=λZ=>∃e3 e4,Z=[.im (ae aq) XN,.im (ae (ae av)) Xs,.im (ae aq) (kq XN Ls),e3,e4]) (bO (λi Z=>∃e3 e4,Z=[.im (ae aq) XN,.im (ae (ae av)) Xs,.im (ae aq) (((XN.zip Ls).take i).flatMap (gw XN)),e3,e4]) (BU M.zip `e `g) (eL 3 4) ⟨_,_,rfl⟩ (λi x Z hx hΓ=>?_) `X) ?_
 ·let⟨e3,e4,rfl⟩:=hΓ;let⟨n,y⟩:=x;let hx2:XN[i]?∣n/\Xs[i]?∣y:=by rw[TN] at hx;exact hx
  let il:i<Ls.length:=by rw[← xl];exact(R6.mp hx2.2).1
  obtain⟨L,hL⟩:∃L,Ls[i]?∣L:=⟨_,R7 il⟩;let⟨y',hy',rp⟩:=hX i L hL;rw[hx2.2] at hy';cases hy'
  obtain⟨z,ez⟩:∃z:Str×List Th,z=(n,L):=⟨_,rfl⟩;let hz:(XN.zip Ls)[i]?∣z:=by rw[ez,TN];exact⟨hx2.1,hL⟩
  let h2:Ls[i]?∣z.2:=by rw[ez];exact hL
  let e1:n=z.1:=by rw[ez]
  let rp:lW z.2 y:=by rw[ez];exact rp
  subst e1;let⟨tl,_⟩:=zA hP i;let hk:=hP.ok i z.2 h2;let hl:=fV (XN:=XN) z.2 false hk;let hrw:=hP.rw z.2 (Sg h2);let hdp:=hP.dp z.2 (Sg h2);let hll:=hP.l;let Y4:((XN.zip Ls).take (i+1)).flatMap (gw XN)=((XN.zip Ls).take i).flatMap (gw XN)++gw XN z:=by
   rw[SS,hz,To];simp
  rw[Y4];generalize ((XN.zip Ls).take i).flatMap (gw XN)=ws at tl;refine aj (bc 2 (y:=ws++S2 "part" z.1++X5 XN z.2++S1 "end") (ba.im (cJ (ba.im (cJ (ba.im (cJ `r (ba.im (aP (r:=aq) (ak aB (ak `p aM)) (l2 _ _))) `bg)) (aJ CW hr (ah `T `bd) ⟨z.2,y,XN,(i:Int),(Ls.length:Int),false,rfl,rp,`a,hk,`a,`a,`a,rfl⟩) `bg)) (ba.im (aP (r:=aq) (ak aB aM) (l1 _))) `bg)) ⟨.im aq z.1,.im (ae av) y,?_⟩);unfold gw;simp only[Su];rfl
 ·let⟨e3,e4,rfl⟩:=hΓ;refine⟨e3,e4,?_⟩;rw[show(XN.zip Xs).length=(XN.zip Ls).length by rw[Ts,Ts,xl],SW];rfl
 rintro _ ⟨e3,e4,rfl⟩;let⟨pl,po⟩:=v5 hP;exact aj (aX (Jp aB `r (zB pl po)) (zt _ _))
structure aH where
 kind:Str
 name:Str
 word:Int
 within:Int
abbrev dC:aH:=⟨"","",0,0⟩
abbrev named:Rx:=["part","do","call","if","while"]
abbrev Yg:Rx:=["do","call","if","while","leave","back"]
abbrev Yp:Rx:=["part","if","else","while"]
abbrev XW:Rx:=["else","end"]
structure gf where
 S:List aH
 O:Rv
 w:Nat
def aU (S:`N)(o:Int):Str:=(S.getD o.toNat dC).kind
noncomputable def gD (k:Str)(ks:Rx):Bool:=
 if ks.isEmpty then decide (k="part")
 else if k="leave" then decide (("while":Str)∈ks)
 else if k="else" then decide (ks.getLast?.getD ""="if")
 else if k="end" then !decide (ks.getLast?.getD ""="if")
 else decide (k∈Yg)
abbrev yV (ws:Rx)(x:gf):Str:=ws.getD x.w ""
def qQ (k:Str)(n:Str)(x:gf):aH:=⟨k,n,(x.w:Int),x.O.getLast?.getD (-1)⟩
noncomputable def Za (k n:Str)(x:gf):gf:=
 ⟨x.S++[qQ k (if k∈named then n else "") x],(if k∈XW then x.O.dropLast else x.O)++(if k∈Yp then[(x.S.length:Int)] else[]),x.w+(if k∈named then 2 else 1)⟩
def kj (ws:Rx)(x:gf):gf:=Za (yV ws x) (ws.getD (x.w+1) "") x
structure K5 (ws:Rx)(x:gf):Prop where
 w:x.w<ws.length
 may:gD (yV ws x) (x.O.map (aU x.S))=true
 nm:yV ws x∈named->x.w+1<ws.length/\cY (ws.getD (x.w+1) "")
 o:∀o∈x.O,0<=o/\o<(x.S.length:Int)
theorem pU {α:Type}(f:α->α)(m:Nat)(x:α):∀n,Yj f (m+n) x=Yj f n (Yj f m x)
 | 0=>rfl
 | n+1=>by rw[← UQ,Yj,Yj,pU f m x n]
def hJ (ws:Rx)(n:Nat)(x y:gf):Prop:=Yj (kj ws) n x=y/\∀i,i<n->K5 ws (Yj (kj ws) i x)
theorem hJ.refl {x:gf}:hJ ws 0 x x:=⟨rfl,λi h=>`a⟩
theorem hJ.trans {m:Nat}{x y z:gf}(h:hJ ws m x y)(h':hJ ws n y z):hJ ws (m+n) x z:=by
 refine⟨by rw[pU,h.1];exact h'.1,λi hi=>?_⟩;by_cases q:i<m
 ·exact h.2 i q
 ·let e:i=m+(i-m):=`a
  rw[e,pU,h.1];exact h'.2 (i-m) `a
theorem hJ.cast {x y y':gf}(h:hJ ws n x y)(e:y=y'):hJ ws n x y':=e▸h
theorem hJ.one {x y:gf}(h:K5 ws x)(e:kj ws x=y):hJ ws 1 x y:=by
 refine⟨e,λi hi=>?_⟩;obtain rfl:i=0:=`a
 exact h
def rW (ws:Rx)(w:Nat)(vs:Rx):Prop:=∀(i:Nat)(v:Str),vs[i]?∣v->ws[w+i]?∣v
theorem rW.app {w:Nat}{a b:Rx}(h:rW ws w (a++b)):rW ws w a/\rW ws (w+a.length) b:=by
 refine⟨λi v hv=>h i v ?_,λi v hv=>?_⟩
 ·rw[SD (R6.mp hv).1];exact hv
 ·have:=h (a.length+i) v (by rw[SG `a,show a.length+i-a.length=i by cbv];exact hv);rw[show w+a.length+i=w+(a.length+i) by cbv];exact this
theorem rW.d {w:Nat}{vs:Rx}(h:rW ws w vs){v:Str}(hv:vs[i]?∣v):ws.getD (w+i) ""=v/\w+i<ws.length:=by
 have:=h i v hv;exact⟨by rw[R8,this];rfl,(R6.mp this).1⟩
mutual
noncomputable def bz:Th->Nat
 | .ifs _ a b=>3+XS a+XS b
 | .X1 _ a=>2+XS a
 | _=>1
noncomputable def XS:List Th->Nat
 | []=>0
 | t::ts=>bz t+XS ts
end
mutual
noncomputable def spT (XN:Rx)(a w u:Int):Th->List aH
 | .Yh x=>[⟨"do",x,w,u⟩]
 | .call j=>[⟨"call",XN.getD j.toNat "",w,u⟩]
 | .ifs x A B=>[⟨"if",x,w,u⟩]++cg XN (a+1) (w+2) a A++([⟨"else","",w+2+(X5 XN A).length,a⟩]++(cg XN (a+2+XS A) (w+3+(X5 XN A).length) (a+1+XS A) B++[⟨"end","",w+3+(X5 XN A).length+(X5 XN B).length,a+1+XS A⟩]))
 | .X1 x A=>[⟨"while",x,w,u⟩]++(cg XN (a+1) (w+2) a A++[⟨"end","",w+2+(X5 XN A).length,a⟩])
 | .leave=>[⟨"leave","",w,u⟩]
 | .back=>[⟨"back","",w,u⟩]
noncomputable def cg (XN:Rx)(a w u:Int):List Th->List aH
 | []=>[]
 | t::ts=>spT XN a w u t++cg XN (a+bz t) (w+(c9 XN t).length) u ts
end
mutual
theorem kR {XN:Rx}:∀(t:Th)(a w u:Int),(spT XN a w u t).length=bz t
 | .Yh _,_,_,_=>by simp[spT,bz]
 | .call _,_,_,_=>by simp[spT,bz]
 | .ifs x A B,a,w,u=>by
   simp only[spT,bz,Sd,cv A,cv B,Si,SH];cbv
 | .X1 x A,a,w,u=>by
   simp only[spT,bz,Sd,cv A,Si,SH];cbv
 | .leave,_,_,_=>by simp[spT,bz]
 | .back,_,_,_=>by simp[spT,bz]
theorem cv {XN:Rx}:∀(ts:`U)(a w u:Int),(cg XN a w u ts).length=XS ts
 | [],_,_,_=>by simp[cg,XS]
 | t::ts,a,w,u=>by rw[cg,XS,Sd,kR t,cv ts]
end
variable {s:aH}{O:Rv}{S:`N}{ks:Rx}
section
variable {x:gf}{n:Str}{a:Int}{S':`N}{f:Int->Str}
structure Ctx (x:gf)(lp:Bool):Prop where
 ne:x.O≠[]
 o:∀o∈x.O,0<=o/\o<(x.S.length:Int)
 lp:lp=true->("while":Str)∈x.O.map (aU x.S)
theorem I0 {o:Int}(h0:0<=o)(h1:o<(S.length:Int)):aU (S++S') o=aU S o:=by
 unfold aU;rw[R8,R8,SD `a]
theorem DJ:aU (S++s::S') (S.length:Int)=s.kind:=by
 unfold aU;rw[R8,show((S.length:Nat):Int).toNat=S.length by cbv];simp
theorem zT (h:∀o∈O,0<=o/\o<(S.length:Int)):O.map (aU (S++S'))=O.map (aU S):=Tu λo ho=>I0 (h o ho).1 (h o ho).2
theorem Ctx.more (h:Ctx x lp)(S':`N)(w:Nat):Ctx ⟨x.S++S',x.O,w⟩ lp:=
 ⟨h.ne,λo ho=>⟨(h.o o ho).1,by have:=(h.o o ho).2;show o<((x.S++S').length:Int);rw[Sd];cbv⟩,λe=>by show _∈x.O.map (aU (x.S++S'));rw[zT h.o];exact h.lp e⟩
theorem Ctx.inner {lp':Bool}(h:Ctx x lp)(s:aH)(w:Nat)(hl:lp'=true->lp=true∨s.kind="while"):Ctx ⟨x.S++[s],x.O++[(x.S.length:Int)],w⟩ lp':=by
 refine⟨`d,λo ho=>?_,λe=>?_⟩
 ·show _/\o<((x.S++[s]).length:Int);rw[Sd,SN];obtain z | z:=Sl.mp ho
  ·have:=h.o o z;cbv
  ·rw[Sa.mp z];cbv
 ·show _∈(x.O++[(x.S.length:Int)]).map (aU (x.S++[s]));rw[So,zT h.o];obtain z | z:=hl e
  ·exact Sn _ (h.lp z)
  ·refine Sk _ ?_;rw[Uv,DJ,z];exact Sa.mpr rfl
theorem lL {k:Str}(X3:ks≠[])(h:k∈Yg)(hl:k≠"leave"):gD k ks=true:=by
 unfold gD;let e:ks.isEmpty=false:=by cases ks with
  | nil=>exact XE rfl X3
  | cons _ _=>rfl
 let h1:k≠"else":=λz=>by rw[z] at h;revert h;decide +kernel
 let h2:k≠"end":=λz=>by rw[z] at h;revert h;decide +kernel
 rw[XF (by rw[e];decide),XF hl,XF h1,XF h2];exact XJ h
theorem o8 (h:O≠[]):O.map f≠[]:=λe=>h (List.map_eq_nil_iff.mp e)
theorem gK {k:Str}{vs:Rx}{i:Nat}(hk:ws.getD x.w ""=k/\x.w<ws.length)(hn:k∈named->ws.getD (x.w+1) ""=n/\x.w+1<ws.length/\cY n)(hm:gD k (x.O.map (aU x.S))=true)(ho:∀o∈x.O,0<=o/\o<(x.S.length:Int)):hJ ws 1 x (Za k n x):=by
 let⟨e1,h1⟩:=hk;let e:yV ws x=k:=e1;refine hJ.one ⟨h1,by rw[e];exact hm,λh=>?_,ho⟩ ?_
 ·rw[e] at h;let⟨e2,h2,h3⟩:=hn h;exact⟨h2,by rw[e2];exact h3⟩
 ·unfold kj;rw[e];by_cases h:k∈named
  ·rw[(hn h).1]
  ·unfold Za;rw[XF h,XF h,XF h]
theorem ye:((O++[a]).map f).getLast?.getD ""=f a:=`d
theorem EY (h:f a="if"):gD "else" ((O++[a]).map f)=true:=by
 unfold gD;rw[XF `d,XF `b,XG rfl,ye,h];rfl
theorem tY (h:f a≠"if"):gD "end" ((O++[a]).map f)=true:=by
 unfold gD;rw[XF `d,XF `b,XF `b,XG rfl,ye,XM h];rfl
theorem D8 (h:("while":Str)∈ks):gD "leave" ks=true:=by
 unfold gD;rw[XF (by cases ks with
  | nil=>cases h
  | cons _ _=>simp),XG rfl]
 exact XJ h
abbrev uF (x:gf):Int:=x.O.getLast?.getD (-1)
theorem vO {k:Str}(h1:k∈named)(h2:k∉XW)(h3:k∉Yp):Za k n x=⟨x.S++[⟨k,n,x.w,uF x⟩],x.O,x.w+2⟩:=by
 unfold Za qQ;rw[XG h1,XG h1,XF h2,XF h3,Sw]
theorem zh {k:Str}(h1:k∉named)(h2:k∉XW)(h3:k∉Yp):Za k n x=⟨x.S++[⟨k,"",x.w,uF x⟩],x.O,x.w+1⟩:=by
 unfold Za qQ;rw[XF h1,XF h1,XF h2,XF h3,Sw]
theorem ui {k:Str}(h1:k∈named)(h2:k∉XW)(h3:k∈Yp):Za k n x=⟨x.S++[⟨k,n,x.w,uF x⟩],x.O++[(x.S.length:Int)],x.w+2⟩:=by
 unfold Za qQ;rw[XG h1,XG h1,XF h2,XG h3]
theorem HU {w:Nat}:Za "else" n ⟨S,O++[a],w⟩=⟨S++[⟨"else","",w,a⟩],O++[(S.length:Int)],w+1⟩:=by
 unfold Za qQ;rw[XF (show¬("else":Str)∈named by decide +kernel),XF (show¬("else":Str)∈named by decide +kernel),XG (show("else":Str)∈XW by decide +kernel),XG (show("else":Str)∈Yp by decide +kernel)];simp
theorem oW {w:Nat}:Za "end" n ⟨S,O++[a],w⟩=⟨S++[⟨"end","",w,a⟩],O,w+1⟩:=by
 unfold Za qQ;rw[XF (show¬("end":Str)∈named by decide +kernel),XF (show¬("end":Str)∈named by decide +kernel),XG (show("end":Str)∈XW by decide +kernel),XF (show¬("end":Str)∈Yp by decide +kernel)];simp
theorem tf (h:∀o∈O,0<=o/\o<(S.length:Int))(S':`N):∀o∈O++[(S.length:Int)],0<=o/\o<(((S++[s])++S').length:Int):=λo ho=>by
 rw[Sd,Sd,SN];obtain z | z:=Sl.mp ho
 ·have:=h o z;cbv
 ·rw[Sa.mp z];cbv
theorem rO:aU ((S++[s])++S') (S.length:Int)=s.kind:=by rw[Su];exact DJ
mutual
theorem Q0 {ws XN:Rx}{lo m:Int}(hn:∀x∈XN,cY x)(hm:m<=(XN.length:Int))(hlo:0<=lo):∀(t:Th)(lp:Bool)(x:gf),bZ lo m lp t->rW ws x.w (c9 XN t)->Ctx x lp->
 hJ ws (bz t) x ⟨x.S++spT XN (x.S.length:Int) (x.w:Int) (uF x) t,x.O,x.w+(c9 XN t).length⟩
 | .Yh y,lp,x,h,hw,hc=>by
   simp only[bZ] at h;rw[c9] at hw;let e1:=hw.d (i:=0) rfl;let e2:=hw.d (i:=1) rfl;let s:=gK (n:=y) (vs:=[]) (i:=0) e1 (λ_=>⟨e2.1,e2.2,h⟩) (lL (o8 hc.ne) `b `b) hc.o;rw[vO `b `b `b] at s;simp only[bz,spT,c9];exact s
 | .call j,lp,x,h,hw,hc=>by
   simp only[bZ] at h;rw[c9] at hw;let e1:=hw.d (i:=0) rfl;let e2:=hw.d (i:=1) rfl;let hj:cY (XN.getD j.toNat ""):=by
    let hl:j.toNat<XN.length:=`a
    rw[R8,R7 hl];exact hn _ (SO hl)
   let s:=gK (n:=XN.getD j.toNat "") (vs:=[]) (i:=0) e1 (λ_=>⟨e2.1,e2.2,hj⟩) (lL (o8 hc.ne) `b `b) hc.o;rw[vO `b `b `b] at s;simp only[bz,spT,c9];exact s
 | .leave,lp,x,h,hw,hc=>by
   simp only[bZ] at h;rw[c9] at hw;let e1:=hw.d (i:=0) rfl;let s:=gK (n:="") (vs:=[]) (i:=0) e1 (λz=>XE z `b) (D8 (hc.lp h)) hc.o;rw[zh `b `b `b] at s;simp only[bz,spT,c9];exact s
 | .back,lp,x,h,hw,hc=>by
   rw[c9] at hw;let e1:=hw.d (i:=0) rfl;let s:=gK (n:="") (vs:=[]) (i:=0) e1 (λz=>XE z `b) (lL (o8 hc.ne) `b `b) hc.o;rw[zh `b `b `b] at s;simp only[bz,spT,c9];exact s
 | .X1 y A,lp,x,h,hw,hc=>by
   simp only[bZ] at h;rw[c9,Su] at hw;let⟨w1,w2⟩:=hw.app;let⟨w2,w3⟩:=w2.app;let e1:=w1.d (i:=0) rfl;let e2:=w1.d (i:=1) rfl;let s1:=gK (n:=y) (vs:=[]) (i:=0) e1 (λ_=>⟨e2.1,e2.2,h.1⟩) (lL (o8 hc.ne) `b `b) hc.o;rw[ui `b `b `b] at s1;let s2:=vS (lo:=lo) (m:=m) hn hm hlo A true ⟨x.S++[(⟨"while",y,x.w,uF x⟩:aH)],x.O++[(x.S.length:Int)],x.w+2⟩ h.2 w2 (hc.inner _ _ λ_=>.inr rfl);let hu:uF ⟨x.S++[(⟨"while",y,x.w,uF x⟩:aH)],x.O++[(x.S.length:Int)],x.w+2⟩=(x.S.length:Int):=by unfold uF;simp
   rw[hu] at s2;let e3:=w3.d (i:=0) rfl;let s3:=gK (ws:=ws) (x:=⟨x.S++[(⟨"while",y,x.w,uF x⟩:aH)]++cg XN ((x.S++[(⟨"while",y,x.w,uF x⟩:aH)]).length:Int) ((x.w+2:Nat):Int) (x.S.length:Int) A,x.O++[(x.S.length:Int)],x.w+2+(X5 XN A).length⟩) (n:="") (vs:=[]) (i:=0) e3 (λz=>XE z `b) (tY (by rw[rO];show("while":Str)≠"if";decide +kernel)) (tf hc.o _);rw[oW] at s3;let s:=(s1.trans s2).trans s3;simp only[bz,spT,c9];rw[show 1+XS A+1=2+XS A by cbv] at s;refine s.cast ?_;simp only[Sd,Si,SH,Su];push_cast;simp only[gf.mk.injEq];refine⟨?_,trivial,?_⟩
   ·rw[show(x.w:Int)+1+1=(x.w:Int)+2 by cbv]
   ·cbv
 | .ifs y A B,lp,x,h,hw,hc=>by
   simp only[bZ] at h;rw[c9,Su,Su] at hw;let⟨w1,w2⟩:=hw.app;let⟨w2,w3⟩:=w2.app;let⟨w3,w4⟩:=w3.app;let⟨w4,w5⟩:=w4.app;let e1:=w1.d (i:=0) rfl;let e2:=w1.d (i:=1) rfl;let s1:=gK (n:=y) (vs:=[]) (i:=0) e1 (λ_=>⟨e2.1,e2.2,h.1⟩) (lL (o8 hc.ne) `b `b) hc.o;rw[ui `b `b `b] at s1;generalize hs0:(⟨"if",y,x.w,uF x⟩:aH)=s0 at s1;let k0:s0.kind="if":=by rw[← hs0]
   let s2:=vS (lo:=lo) (m:=m) hn hm hlo A lp ⟨x.S++[s0],x.O++[(x.S.length:Int)],x.w+2⟩ h.2.1 w2 (hc.inner _ _ λz=>.inl z);let hu:uF ⟨x.S++[s0],x.O++[(x.S.length:Int)],x.w+2⟩=(x.S.length:Int):=by unfold uF;simp
   rw[hu] at s2;let e3:=w3.d (i:=0) rfl;generalize hSA:cg XN ((x.S++[s0]).length:Int) ((x.w+2:Nat):Int) (x.S.length:Int) A=SA at s2;let lSA:SA.length=XS A:=by rw[← hSA,cv]
   let s3:=gK (ws:=ws) (x:=(⟨x.S++[s0]++SA,x.O++[(x.S.length:Int)],x.w+2+(X5 XN A).length⟩:gf)) (n:="") (vs:=[]) (i:=0) e3 (λz=>XE z `b) (EY (by rw[rO,k0])) (tf hc.o _);rw[HU] at s3;let c3:=(hc.more (s0::SA) (x.w+2+(X5 XN A).length)).inner (⟨"else","",((x.w+2+(X5 XN A).length:Nat):Int),(x.S.length:Int)⟩:aH) (x.w+2+(X5 XN A).length+1) (lp':=lp) λz=>.inl z;let el:x.S++s0::SA=x.S++[s0]++SA:=`d
   dsimp only at c3;rw[el] at c3;generalize hs1:(⟨"else","",((x.w+2+(X5 XN A).length:Nat):Int),(x.S.length:Int)⟩:aH)=s1' at s3 c3;let k1:s1'.kind≠"if":=by rw[← hs1];show("else":Str)≠"if";decide +kernel
   let s4:=vS (lo:=lo) (m:=m) hn hm hlo B lp _ h.2.2 w4 c3;let hu2:uF ⟨x.S++[s0]++SA++[s1'],x.O++[((x.S++[s0]++SA).length:Int)],x.w+2+(X5 XN A).length+1⟩=((x.S++[s0]++SA).length:Int):=by unfold uF;simp
   rw[hu2] at s4;let e5:=w5.d (i:=0) rfl;dsimp only at s4;generalize hSB:cg XN ((x.S++[s0]++SA++[s1']).length:Int) ((x.w+2+(X5 XN A).length+1:Nat):Int) ((x.S++[s0]++SA).length:Int) B=SB at s4;let s5:=gK (ws:=ws) (x:=(⟨x.S++[s0]++SA++[s1']++SB,x.O++[((x.S++[s0]++SA).length:Int)],x.w+2+(X5 XN A).length+1+(X5 XN B).length⟩:gf)) (n:="") (vs:=[]) (i:=0) e5 (λz=>XE z `b) (tY (by rw[rO];exact k1)) (tf (by
    intro o ho;have:=(hc.more (s0::SA) 0).o o ho;dsimp only at this;rw[el] at this;exact this) _)
   rw[oW] at s5;let s:=(((s1.trans s2).trans s3).trans s4).trans s5;simp only[bz,spT,c9];rw[show 1+XS A+1+XS B+1=3+XS A+XS B by cbv] at s;refine s.cast ?_;subst hs0 hs1;simp only[Sd,Si,SH,Su,lSA] at hSA hSB ⊢;rw[← hSA,← hSB];push_cast;simp only[gf.mk.injEq];refine⟨?_,trivial,?_⟩
   ·rw[show(x.w:Int)+1+1=(x.w:Int)+2 by cbv,show(x.w:Int)+2+((X5 XN A).length:Int)+1=(x.w:Int)+3+((X5 XN A).length:Int) by cbv,show(x.S.length:Int)+(1+((XS A:Int)+1))=(x.S.length:Int)+2+(XS A:Int) by cbv,show(x.S.length:Int)+(1+(XS A:Int))=(x.S.length:Int)+1+(XS A:Int) by cbv]
   ·cbv
theorem vS {ws XN:Rx}{lo m:Int}(hn:∀x∈XN,cY x)(hm:m<=(XN.length:Int))(hlo:0<=lo):∀(ts:`U)(lp:Bool)(x:gf),bJ lo m lp ts->rW ws x.w (X5 XN ts)->Ctx x lp->
 hJ ws (XS ts) x ⟨x.S++cg XN (x.S.length:Int) (x.w:Int) (uF x) ts,x.O,x.w+(X5 XN ts).length⟩
 | [],lp,x,h,hw,hc=>by
   simp only[XS,cg,X5];refine hJ.refl.cast ?_;simp
 | t::ts,lp,x,h,hw,hc=>by
   simp only[bJ] at h;rw[X5] at hw;let⟨w1,w2⟩:=hw.app;let s1:=Q0 hn hm hlo t lp x h.1 w1 hc;let s2:=vS hn hm hlo ts lp ⟨x.S++spT XN (x.S.length:Int) (x.w:Int) (uF x) t,x.O,x.w+(c9 XN t).length⟩ h.2.2 w2 (hc.more _ _);let s:=s1.trans s2;simp only[XS,cg,X5];refine s.cast ?_;simp only[Sd,kR,Su];push_cast;simp only[gf.mk.injEq];refine⟨trivial,trivial,?_⟩;cbv
end
end
noncomputable def iY (XN:Rx)(a w:Int):List (Str×List Th)->List aH
 | []=>[]
 | z::r=>[⟨"part",z.1,w, -1⟩]++(cg XN (a+1) (w+2) a z.2++([⟨"end","",w+2+(X5 XN z.2).length,a⟩]++iY XN (a+2+XS z.2) (w+3+(X5 XN z.2).length) r))
noncomputable def du:List (Str×List Th)->Nat
 | []=>0
 | z::r=>2+XS z.2+du r
theorem zH {XN:Rx}:∀(zs:`aX)(a w:Int),(iY XN a w zs).length=du zs
 | [],_,_=>rfl
 | z::r,a,w=>by
   rw[iY,du];simp only[Sd,cv,zH r,Si,SH];cbv
theorem LM {ws XN:Rx}{m:Int}(hn:∀x∈XN,cY x)(hm:m<=(XN.length:Int)):∀(zs:`aX)(x:gf),(∀z∈zs,cY z.1/\∃lo,0<=lo/\bJ lo m false z.2)->rW ws x.w (zs.flatMap (gw XN))->x.O=[]->
 hJ ws (du zs) x ⟨x.S++iY XN (x.S.length:Int) (x.w:Int) zs,[],x.w+(zs.flatMap (gw XN)).length⟩
 | [],x,h,hw,hc=>by
   refine hJ.refl.cast ?_;simp[iY,← hc]
 | z::r,x,h,hw,hc=>by
   let⟨S,O,w⟩:=x;obtain rfl:O=[]:=hc;let⟨hz,lo,hlo,XX⟩:=h z Se;rw[Te] at hw;let⟨hw,hwr⟩:=hw.app;rw[show gw XN z=S2 "part" z.1++(X5 XN z.2++S1 "end") by unfold gw;rw[Su]] at hw;let⟨w1,w2⟩:=hw.app;let⟨w2,w3⟩:=w2.app;dsimp only at w1 w2 w3 hwr ⊢;let e1:=w1.d (i:=0) rfl;let e2:=w1.d (i:=1) rfl;let s1:=gK (x:=(⟨S,[],w⟩:gf)) (n:=z.1) (vs:=[]) (i:=0) e1 (λ_=>⟨e2.1,e2.2,hz⟩) (show gD "part" []=true by decide +kernel) (λo ho=>by cases ho);rw[ui `b `b `b] at s1;dsimp only at s1;rw[show uF ⟨S,[],w⟩= -1 from rfl] at s1;generalize hs0:(⟨"part",z.1,(w:Int), -1⟩:aH)=s0 at s1;let k0:s0.kind="part":=by rw[← hs0]
   let c1:Ctx ⟨S++[s0],[]++[(S.length:Int)],w+2⟩ false:=⟨`d,λo ho=>by
    let e:o=(S.length:Int):= ~~~ho
    show _/\o<((S++[s0]).length:Int);rw[Sd,SN,e];cbv,λe=>by cases e⟩
   let s2:=vS (lo:=lo) (m:=m) hn hm hlo z.2 false _ XX w2 c1;rw[show uF ⟨S++[s0],[]++[(S.length:Int)],w+2⟩=(S.length:Int) from rfl] at s2;dsimp only at s2;generalize hSA:cg XN ((S++[s0]).length:Int) ((w+2:Nat):Int) (S.length:Int) z.2=SA at s2;let lSA:SA.length=XS z.2:=by rw[← hSA,cv]
   let e3:=w3.d (i:=0) rfl;let s3:=gK (ws:=ws) (x:=(⟨S++[s0]++SA,[]++[(S.length:Int)],w+2+(X5 XN z.2).length⟩:gf)) (n:="") (vs:=[]) (i:=0) e3 (λz=>XE z `b) (tY (by rw[rO,k0];decide +kernel)) (tf (λo ho=>by cases ho) _);rw[oW] at s3;let s4:=LM hn hm r ⟨S++[s0]++SA++[⟨"end","",((w+2+(X5 XN z.2).length:Nat):Int),(S.length:Int)⟩],[],w+2+(X5 XN z.2).length+1⟩ (λy hy=>h y (Sb _ hy)) (by
    let e:w+2+(X5 XN z.2).length+1=w+(gw XN z).length:=by unfold gw;simp only[Sd,Si,SH];cbv
    dsimp only;rw[e];exact hwr) rfl
   let s:=((s1.trans s2).trans s3).trans s4;rw[du,show 2+XS z.2+du r=1+XS z.2+1+du r by cbv];refine s.cast ?_;subst hs0;dsimp only;rw[iY,Te];let lp:(gw XN z).length=3+(X5 XN z.2).length:=by unfold gw;simp only[Sd,Si,SH];cbv
   simp only[Sd,Si,SH,Su,lSA,lp] at hSA ⊢;rw[← hSA];push_cast;simp only[gf.mk.injEq];refine⟨?_,trivial,?_⟩
   ·rw[show(w:Int)+1+1=(w:Int)+2 by cbv,show(w:Int)+2+((X5 XN z.2).length:Int)+1=(w:Int)+3+((X5 XN z.2).length:Int) by cbv,show(S.length:Int)+(1+((XS z.2:Int)+1))=(S.length:Int)+2+(XS z.2:Int) by cbv]
   ·cbv
abbrev aw (XN:Rx)(Ls:`F):List aH:=iY XN 0 0 (XN.zip Ls)
theorem uS (h:`aI):hJ (kq XN Ls) (du (XN.zip Ls)) ⟨[],[],0⟩ ⟨aw XN Ls,[],(kq XN Ls).length⟩:=by
 have:=LM (ws:=kq XN Ls) (XN:=XN) (m:=(Ls.length:Int)) h.nm (by rw[h.l];cbv) (XN.zip Ls) ⟨[],[],0⟩ (λz hz=>by
  let⟨i,hi⟩:=Sr.mp hz;let⟨h1,h2⟩:=ni hi;exact⟨h.nm z.1 (Sg h1),(i:Int),`a,h.ok i z.2 h2⟩) (λi v hv=>by
   show(kq XN Ls)[0+i]?∣v;rw[UE];exact hv) rfl
 refine this.cast ?_;simp[aw,kq]
structure lX (K:Xh)(mg:Rt):Prop where
 most:∃t,mg "MOST_LETTERS"∣.int 8 t
 nost:∃t,mg "NO_STEP"∣(.int (-1) t)
 named:tW K mg "NAMED" named
 Yg:tW K mg "SENTENCES" Yg
 Yp:tW K mg "OPENING" Yp
 XW:tW K mg "CLOSING" XW
abbrev jg:Rx:=["kind","name","word","within"]
theorem jT (h:decide (x∈jg)=true):x∈jg:=XH h
def P0 (s:aH):lO:=[("kind",aq.at_ s.kind),("name",aq.at_ s.name),("word",ag.at_ s.word),("within",ag.at_ s.within)]
def bL (C:Addr):Rep aH:=⟨λK R v s=>∃x dx vs,v= .ref x/\R x∣.ins C dx vs/\g7 (P0 s) K R vs,λs ⟨x,dx,vs,e,h1,h2⟩=>⟨x,dx,vs,e,s _ _ h1,h2.mono s⟩⟩
variable {C:Addr}
theorem iu (hC:bM X.K C jg)(he:EV X e Z (bL C) s Γ1)(hb:fh X e "kind":=by rfl):EV X (.Attribute e "kind" pos) Z aq s.kind Γ1:=kH hC (jT `c) he (λK R v ⟨x,dx,vs,e,h1,h2⟩=>by let⟨u,q1,q2⟩:=h2.get (f:="kind") rfl;exact⟨x,dx,vs,u,e,h1,q1,q2⟩) hb
theorem rN (hC:bM X.K C jg)(he:EV X e Z (bL C) s Γ1)(hb:fh X e "name":=by rfl):EV X (.Attribute e "name" pos) Z aq s.name Γ1:=kH hC (jT `c) he (λK R v ⟨x,dx,vs,e,h1,h2⟩=>by let⟨u,q1,q2⟩:=h2.get (f:="name") rfl;exact⟨x,dx,vs,u,e,h1,q1,q2⟩) hb
theorem Oe (hC:bM X.K C jg)(he:EV X e Z (bL C) s Γ1)(hb:fh X e "word":=by rfl):EV X (.Attribute e "word" pos) Z ag s.word Γ1:=kH hC (jT `c) he (λK R v ⟨x,dx,vs,e,h1,h2⟩=>by let⟨u,q1,q2⟩:=h2.get (f:="word") rfl;exact⟨x,dx,vs,u,e,h1,q1,q2⟩) hb
theorem sj (hC:bM X.K C jg)(he:EV X e Z (bL C) s Γ1)(hb:fh X e "within":=by rfl):EV X (.Attribute e "within" pos) Z ag s.within Γ1:=kH hC (jT `c) he (λK R v ⟨x,dx,vs,e,h1,h2⟩=>by let⟨u,q1,q2⟩:=h2.get (f:="within") rfl;exact⟨x,dx,vs,u,e,h1,q1,q2⟩) hb
abbrev uZ:Stmt:=match top HF with
 | .ClassDef _ _ _ b _ _ _ _ _ _ _=>b.getD 0 (.Pass ⟨0,0,0,0⟩)
 | s=>s
abbrev xZ:Rx:=["self","kind","name","word","within"]
theorem L7:bF xZ xZ (ao uZ):=Y6
def PN (C0:Addr):Dl:=λK C ps Pd=>C=C0/\∃s:aH,ps=[⟨aq,s.kind⟩,⟨aq,s.name⟩,⟨ag,s.word⟩,⟨ag,s.within⟩]/\Pd=λfs=>fs=P0 s
theorem Ot {C0:Addr}(HC:bM K C0 jg)(F:dO K "__init__" "Step.__init__" uZ f fd):eZ P w K mg base eI 1 f fd xZ (zI (PN C0) K):=by
 let nd:=L7.nd;refine BP F L7 (λC qs Pd ⟨_,m,e,_⟩=>by rw[e];rfl) (λXU A outer st H E C x dx qs Pd hr hS=>?_);let⟨rfl,s,rfl,rfl⟩:=hS;refine ai (ja 0 HC (jT `c) `g rfl rfl (by show 0<1000;decide) ?_);refine ai (ja 0 HC (jT `c) `r rfl rfl (by show 1<1000;decide) ?_);refine ai (ja 0 HC (jT `c) `p rfl rfl (by show 2<1000;decide) ?_);exact aj (ja 0 HC (jT `c) `T rfl rfl (by show 3<1000;decide) ⟨_,rfl,rfl⟩)
abbrev Ka:Stmt:=top Bf
def Po:dh:=λK ps T=>∃x:Str,ps=[⟨aq,x⟩]/\cY x/\T=cR K dc (· =true)
theorem Mi (h:cY x)(hc:c∈iF x):∃n,c=⟨#[n]⟩/\97<=n/\n<=122:=by
 unfold iF at hc;let⟨i,hi,rfl⟩:=Sv.mp hc;let hi:i<x.cps.size:= ~~~hi
 refine⟨x.cps.getD i 0,rfl,h.az _ ?_⟩;rw[Array.getD_eq_getD_getElem?];simp[hi]
theorem OP (h:97<=n/\n<=122):(!decide ((⟨#[n]⟩:Str).cps.toList<("a":Str).cps.toList))=true/\(!decide (("z":Str).cps.toList<(⟨#[n]⟩:Str).cps.toList))=true:=by
 let ea:("a":Str).cps.toList=[97]:=`b
 let ez:("z":Str).cps.toList=[122]:=`b
 rw[ea,ez];let e1:¬([n]:List Nat) < [97]:=by intro z;cases z with
  | rel h1=>cbv
  | cons h1=>cases h1
 let e2:¬([122]:List Nat) < [n]:=by intro z;cases z with
  | rel h1=>cbv
  | cons h1=>cases h1
 exact⟨by rw[show(⟨#[n]⟩:Str).cps.toList=[n] from rfl,XM e1];rfl,by rw[show(⟨#[n]⟩:Str).cps.toList=[n] from rfl,XM e2];rfl⟩
theorem Oz (M:`ba)(M2:lX K mg)(Df:Def K mg "is_name" Ka ["word"]):aE P w K mg base "is_name" 1 (aR Po K):=by
 let Zd:SJ [("sign":Str)]:=`c
 refine bP (N:=["word"]) Df `n;let⟨x,rfl,hx,rfl⟩:=hS;let⟨t,hmo⟩:=M2.most;let hl:x.cps.size<=U9:=Ux hx.l8 `c;let hasc:x.cps.all (· < 128)=true:=by
  rw[Array.all_eq_true];intro i hi;have:=hx.az x.cps[i] `d;exact XJ `a
 let l1:=hx.l1;let l8:=hx.l8;refine aj (aX (oz (qZ xB xB ev_int (Jl M.len `e hl) (fT hmo)) (λ_=>tE (sA M.all (ba.im (bW (own:=["sign"]) (fr:=[]) (ix:=[]) (ra:=aq) (rb:=dc) (p:=λ_=>true) (f:=λ_=>true) (bH (so:=ao Ka) (N0:=["word"]) rfl rfl `R `b) (BK `e hasc hl)
  `G `W (λC s H ex c hc=>dy) (λC s H ex c hc _=>?_)))))) ?_)
 ·let⟨n,rfl,hn⟩:=Mi hx hc;let⟨q1,q2⟩:=OP hn;exact EV.cast (qZ Hj Hj aB `e aB) (by rw[q1,q2];rfl)
 ·let e1:decide ((1:Int)<=(x.length:Int))=true:=XJ `a;let e2:decide ((x.length:Int)<=8)=true:=XJ `a;rw[e1,e2];simp
abbrev Qh:Stmt:=top t8
def OY:dh:=λK ps T=>∃(ws:Rx)(i:Nat),ps=[⟨ae aq,ws⟩,⟨ag,(i:Int)⟩]/\i+1<ws.length/\cY (ws.getD (i+1) "")/\T=cR K aq (· =ws.getD (i+1) "")
theorem N2 (M:`ba)(CI:aE P w K mg base "is_name" 1 (aR Po K))(Df:Def K mg "name_behind" Qh ["words","word"]):aE P w K mg base "name_behind" 2 (aR OY K):=by
 refine bP (N:=["words","word"]) Df `n;let⟨ws,i,rfl,hi,hn,rfl⟩:=hS;let Yw:bX ws ((i:Int)+1)∣(ws.getD (i+1) ""):=a7 (xs:=ws) (i:=((i:Int)+1)) "" `a `a;refine ai (a9 (TW.tv (jd (ay gi (bR `g ev_int) (cX M.len `e)) (λ_=>jb (gz (bV (aJ CI hr (ah (aK `e (bR `g ev_int) Yw) ax) ⟨_,rfl,hn,rfl⟩)))))) (λh=>?_) `J)
 ·rw[XM (show¬(i:Int)+1=(ws.length:Int) by cbv)] at h;cases h
 ·exact aj (aX (aK `e (bR `g ev_int) Yw) rfl)
abbrev Pc:Stmt:=top wj
def Qp:dh:=λK ps T=>∃(k:Str)(ks:Rx),ps=[⟨aq,k⟩,⟨ae aq,ks⟩]/\T=cR K dc (· =gD k ks)
theorem An (h:ks≠[]):bX ks (-1)∣(ks.getLast?.getD ""):=by
 obtain⟨l,x,rfl⟩:∃l x,ks=l++[x]:=⟨ks.dropLast,ks.getLast h,(S5 h).symm⟩;unfold bX;rw[show fL (l++[x]).length (-1)∣l.length by unfold fL;simp;cbv];simp
theorem Ou (M2:lX K mg)(Df:Def K mg "may_stand" Pc ["kind","opened"]):aE P w K mg base "may_stand" 1 (aR Qp K):=by
 refine bP (N:=["kind","opened"]) Df `n;let⟨k,ks,rfl,rfl⟩:=hS;refine ai (a9 (gz (xM `g)) (λh=>?_) `J)
 ·let h:ks.isEmpty=true:= ~~~h
  exact aj (aX (jt cu `e aB) (by unfold gD;rw[XG h]))
 let h0:¬ks.isEmpty=true:= ~~~h
 let X3:ks≠[]:=λz=>h0 (by rw[z];rfl);refine ai (a9 (ay cu `e aB) (λh=>?_) `J)
 ·let h:k="leave":=XH h;exact aj (aX (jt wx aB `g) (by unfold gD;rw[XF h0,XG h]))
 let h1:¬k="leave":=XI h;refine ai (a9 (ay cu `e aB) (λh=>?_) `J)
 ·let h:k="else":=XH h;exact aj (aX (jt cu (aK `g `af (An X3)) aB) (by unfold gD;rw[XF h0,XF h1,XG h]))
 let h2:¬k="else":=XI h;refine ai (a9 (ay cu `e aB) (λh=>?_) `J)
 ·let h:k="end":=XH h;exact aj (aX (jt vD (aK `g `af (An X3)) aB) (by unfold gD;rw[XF h0,XF h1,XF h2,XG h]))
 let h3:¬k="end":=XI h;exact aj (aX (jt lR `e (iK M2.Yg)) (by unfold gD;rw[XF h0,XF h1,XF h2,XF h3]))
theorem yi (ws:Rx):∀i,(Yj (kj ws) i ⟨[],[],0⟩).S.length=i/\i<=(Yj (kj ws) i ⟨[],[],0⟩).w/\(Yj (kj ws) i ⟨[],[],0⟩).O.length<=i
 | 0=>⟨rfl,Uw _,Uw _⟩
 | i+1=>by
   let⟨a,b,c⟩:=yi ws i;rw[Yj];generalize Yj (kj ws) i ⟨[],[],0⟩=x at a b c;unfold kj Za;refine⟨by rw[Sd,a];rfl,?_,?_⟩
   ·dsimp only;split<;>cbv
   ·rw[Sd];let h1:(if yV ws x∈XW then x.O.dropLast else x.O).length<=x.O.length:=by
     split
     ·rw[TQ];cbv
     ·exact Uw _
    let h2:(if yV ws x∈Yp then[(x.S.length:Int)] else[]).length<=1:=by split<;>simp
    cbv
theorem FA (h:O≠[]):bX O (-1)∣(O.getLast?.getD (-1)):=by
 obtain⟨l,x,rfl⟩:∃l x,O=l++[x]:=⟨O.dropLast,O.getLast h,(S5 h).symm⟩;unfold bX;rw[show fL (l++[x]).length (-1)∣l.length by unfold fL;simp;cbv];simp
theorem FY (h:O≠[]):O[O.length-1]?∣(O.getLast?.getD (-1)):=by
 obtain⟨l,x,rfl⟩:∃l x,O=l++[x]:=⟨O.dropLast,O.getLast h,(S5 h).symm⟩;simp
structure Bs (P:Ve)(w:World)(K:Xh)(mg:Rt)(base:Heap)(C:Addr):Prop where
 cl:bM K C jg
 ex:∃fi ZA,Mk K C fi/\eZ P w K mg base eI 1 fi ZA xZ (zI (PN C) K)/\Binds K ZA xZ []
 mg:mg "Step"∣.ref C
theorem IM {p:Pos}(G:Bs X.prog X.w X.K X.mg X.base C)(hr:bG 2 X.A)(ha:HA X (e::es) Z [⟨aq,s.kind⟩,⟨aq,s.name⟩,⟨ag,s.word⟩,⟨ag,s.within⟩] Γ1)(hg:Gl X "Step":=by rfl)(he:dq X e es:=by rfl)(Yb:fc X pos es:=by rfl):EV X (.Call (.Name "Step" p) (e::es) [] pos) Z (bL C) s Γ1:=by
 let⟨fi,ZA,MK,SI,bi⟩:=G.ex;exact Ai MK SI hr G.mg bi ha ⟨rfl,s,rfl,rfl⟩ (λfs R x dx vs hP h1 h2=>by subst hP;exact⟨x,dx,vs,rfl,h2,h1⟩) hg `c he Yb
abbrev MJ:Stmt:=top Ik
abbrev O0:Rx:=["text","words","steps","opened","word","kind","name"]
def Qe (C:Addr):dh:=λK ps T=>∃(ws:Rx)(n:Nat)(S:`N),ps=[⟨aq,W7 " " ws⟩]/\ws≠[]/\ws.length<=240/\(∀w∈ws,gZ w)/\hJ ws n ⟨[],[],0⟩ ⟨S,[],ws.length⟩/\T=cR K (ae (bL C)) (· =S)
theorem E9 (h:∀w∈ws,gZ w)(hl:ws.length<=240):(W7 " " ws).length<=U9:=by
 have:=joinOk_length (zB hl h);rwa [zt] at this
theorem Nz (M:`ba)(M2:lX K mg)(G:Bs P w K mg base C)(CM:aE P w K mg base "may_stand" 1 (aR Qp K))(CN:aE P w K mg base "name_behind" 2 (aR OY K))(Df:Def K mg "read" MJ ["text"]):aE P w K mg base "read" 3 (aR (Qe C) K):=by
 let Zd:SJ [("number":Str),"steps"]:=`c
 let CM:=CM.mono (show 1<=2 by decide);refine bP (N:=O0) (k:=2) Df `n;let⟨ws,n,S,rfl,X3,hl,hw,hsim,rfl⟩:=hS;let⟨t,Z3⟩:=M2.nost;let ZL:W9 (W7 " " ws) " "=ws:=by
  rw[F5];exact Bn X3 λw h=>(hw w h).f
 generalize hj:W7 " " ws=txt at ZL;let htl:txt.length<=U9:=by rw[← hj];exact E9 hw hl
 refine ai (bc 1 (y:=ws) (EV.cast (ba.im (Ce `e aB `b htl (by rw[ZL];exact aL `a))) ZL) ?_);refine ai (cD 2 (r:=bL C) (ys:=[]) `az ?_);refine ai (cD 3 (r:=ag) (ys:=[]) `az ?_);refine ai (bc 4 (y:=(0:Int)) ev_int ?_);let hinv:=yi ws;let YD:∀i,Yj (kj ws) (i+1) ⟨[],[],0⟩=kj ws (Yj (kj ws) i ⟨[],[],0⟩):=λi=>rfl;let h0:Yj (kj ws) 0 ⟨[],[],0⟩=⟨[],[],0⟩:=rfl;let⟨YQ,hrd⟩:=hsim;generalize hx:(λi=>Yj (kj ws) i ⟨[],[],0⟩)=x at *;let hxi:∀i,Yj (kj ws) i ⟨[],[],0⟩=x i:=λi=>by rw[← hx]
 simp only[hxi] at hinv YD h0 YQ hrd;refine bD (N1:=λZ=>∃e5 e6,Z=[.im aq txt,.im (ae aq) ws,.mu (bL C) S,.mu ag [],aA (ws.length:Int),e5,e6]) (jA (λk Z=>∃i,k+i=n/\∃e5 e6,Z=[.im aq txt,.im (ae aq) ws,.mu (bL C) (x i).S,.mu ag (x i).O,aA ((x i).w:Int),e5,e6]) (m0:=n) ⟨0,rfl,_,_,by rw[h0];rfl⟩ (λk Z hI=>?_)) ?_
 ·let⟨i,hki,e5,e6,rfl⟩:=hI;let⟨iS,iw,iO⟩:=hinv i;refine⟨decide (((x i).w:Int)<(ws.length:Int)),_,ay nO `T (cX M.len `g),λh=>?_,λh=>?_⟩
  ·let h:((x i).w:Int)<(ws.length:Int):=XH h;let Y5:i<n:=by
    obtain z | z:=UD i n
    ·exact z
    ·exfalso;have:i=n:=`a
     rw[this,YQ] at h;exact XE h (Int.lt_irrefl _)
   let⟨rw_,Zt,rnm,ro⟩:=hrd i Y5;let hs:=YD i;generalize x i=y at iS iw iO rw_ Zt rnm ro hs h;let⟨Sy,Oy,wy⟩:=y;dsimp only at iS iw iO rw_ Zt rnm ro h ⊢;let Yw:bX ws (wy:Int)∣(ws.getD wy ""):=a7 (xs:=ws) (i:=(wy:Int)) "" `a h;refine ai (bc 5 (y:=ws.getD wy "") (aK `g `T Yw) ?_);rw[show kj ws ⟨Sy,Oy,wy⟩=Za (ws.getD wy "") (ws.getD (wy+1) "") ⟨Sy,Oy,wy⟩ from rfl] at hs;change gD (ws.getD wy "") (Oy.map (aU Sy))=true at Zt;change ws.getD wy ""∈named->wy+1<ws.length/\cY (ws.getD (wy+1) "") at rnm;generalize hkd:ws.getD wy ""=kd at Zt rnm hs;let cc:(Oy.filter λ_=>true).map (aU Sy)=Oy.map (aU Sy):=by rw[SQ.mpr λ_ _=>rfl]
   refine ai (a9 (TV.YI (Ht (i:=2) (j:=3) `c rfl rfl (aL `a) (aL `a)) (gz (bV (aJ CM hr (ah `ai (ah (ba.im (bW (own:=["number"]) (fr:=["steps"]) (ix:=[2]) (ra:=ag) (rb:=aq) (p:=λ_=>true) (f:=aU Sy) (bH (so:=ao MJ) (N0:=O0) rfl rfl `R `b) (bI `p)
    `G `O (λC s H ex c hc=>dy) (λC' s H ex o ho _=>iu (C:=C) G.cl (aK `g `e (a7 (xs:=Sy) (i:=o) dC (ro o ho).1 (ro o ho).2))))) ax)) ⟨kd,Oy.map (aU Sy),by rw[cc],rfl⟩)))) (λhh=>?_) (λ_=>aG ?_))
   ·rw[Zt] at hh;cases hh
   let hnm:kd∈named->wy+1<ws.length/\cY (ws.getD (wy+1) ""):=rnm;refine ai (bc 6 (y:=if kd∈named then ws.getD (wy+1) "" else "") (EV.cast (lY (ay lR `ai (iK M2.named)) (λhh=>aJ CN hr (ah `g (ah `T ax)) ⟨ws,wy,rfl,(hnm (XH hh)).1,(hnm (XH hh)).2,rfl⟩) (λ_=>aB)) (by by_cases z:kd∈named<;>simp[z])) ?_)
   generalize hnam:(if kd∈named then ws.getD (wy+1) "" else "")=nam;let hlast:(if(!Oy.isEmpty)=true then Oy.getLast?.getD (-1) else -1)=Oy.getLast?.getD (-1):=by cases Oy<;>rfl
   refine ai (eQ 2 (y:=(⟨kd,nam,(wy:Int),Oy.getLast?.getD (-1)⟩:aH)) (IM (s:=⟨kd,nam,(wy:Int),Oy.getLast?.getD (-1)⟩) G hr (ah `ai (ah `an (ah `T (ah (EV.cast (lY (mX 3 rfl) (λhh=>pj 3 `af rfl rfl (FA (λz=>by rw[z] at hh;cases hh))) (λ_=>fT Z3)) hlast) ax))))) rfl rfl (Uz (show _<=1000 by cbv) `c) ?_)
   change WS _ _ [.im aq txt,.im (ae aq) ws,.mu (bL C) (Sy++[⟨kd,nam,(wy:Int),Oy.getLast?.getD (-1)⟩]),.mu ag Oy,aA (wy:Int),.im aq kd,.im aq nam] _ _;let hS':(Za kd (ws.getD (wy+1) "") ⟨Sy,Oy,wy⟩).S=Sy++[⟨kd,nam,(wy:Int),Oy.getLast?.getD (-1)⟩]:=by unfold Za qQ;dsimp only;rw[hnam]
   rw[← hS'];let hSl:(Za kd (ws.getD (wy+1) "") ⟨Sy,Oy,wy⟩).S.length=Sy.length+1:=by rw[hS',Sd];rfl
   let hOe:(Za kd (ws.getD (wy+1) "") ⟨Sy,Oy,wy⟩).O=(if kd∈XW then Oy.dropLast else Oy)++(if kd∈Yp then[(Sy.length:Int)] else[]):=rfl;let hwe:(Za kd (ws.getD (wy+1) "") ⟨Sy,Oy,wy⟩).w=wy+(if kd∈named then 2 else 1):=rfl;generalize Za kd (ws.getD (wy+1) "") ⟨Sy,Oy,wy⟩=z at hs hS' hSl hOe hwe;refine bD (N1:=λZ=>Z=[.im aq txt,.im (ae aq) ws,.mu (bL C) z.S,.mu ag (if kd∈XW then Oy.dropLast else Oy),aA (wy:Int),.im aq kd,.im aq nam]) (a9 (ay lR `ai (iK M2.XW)) (λhh=>?_) (λhh=>aG ?_)) ?_
   ·let hh:kd∈XW:=XH hh;let hOne:Oy≠[]:=λe=>by
     rw[e] at Zt;have:kd="part":=XH Zt;rw[this] at hh;exact XE hh `b
    refine aj (oV (wH 3 rfl (FY hOne)) ?_);rw[XG hh];rfl
   ·let hh:¬kd∈XW:=XI hh;rw[XF hh]
   rintro _ rfl;let hOl:(if kd∈XW then Oy.dropLast else Oy).length<=Oy.length:=by
    split
    ·rw[TQ];cbv
    ·exact Uw _
   generalize (if kd∈XW then Oy.dropLast else Oy)=O1 at hOe hOl;refine bD (N1:=λZ=>Z=[.im aq txt,.im (ae aq) ws,.mu (bL C) z.S,.mu ag z.O,aA (wy:Int),.im aq kd,.im aq nam]) (a9 (ay lR `ai (iK M2.Yp)) (λhh=>?_) (λhh=>aG ?_)) ?_
   ·let hh:kd∈Yp:=XH hh;refine aj (eQ 3 (EV.cast (y':=(Sy.length:Int)) (gy (tU 2 M.len rfl) ev_int) `a) rfl rfl (Uz (show _<=1000 by cbv) `c) ?_);rw[hOe,XG hh];rfl
   ·let hh:¬kd∈Yp:=XI hh;rw[hOe,XF hh,Sw]
   rintro _ rfl;refine aj (BM 4 (c:=if kd∈named then 2 else 1) (EV.cast (lY (ay lR `ai (iK M2.named)) (λ_=>ev_int) (λ_=>ev_int)) (by by_cases z:kd∈named<;>simp[z])) rfl ⟨k-1,`a,i+1,`a,.im aq kd,.im aq nam,?_⟩)
   rw[hs,hwe];by_cases q:kd∈named
   ·rw[XG q,XG q];rfl
   ·rw[XF q,XF q];rfl
  ·let h:¬((x i).w:Int)<(ws.length:Int):=XI h;let Y5:i=n:=by
    obtain z | z:=UD i n
    ·exact XE (by have:=(hrd i z).w;cbv) h
    ·cbv
   subst Y5;refine⟨e5,e6,?_⟩;rw[YQ]
 rintro _ ⟨e5,e6,rfl⟩;let hSn:S.length<=240:=by
  let⟨a,b,c⟩:=hinv n;rw[YQ] at a b;dsimp only at a b;cbv
 refine ai (a9 (mX 3 rfl) (λhh=>by cases hh) (λ_=>aG ?_));refine WS.freeze 2 rfl (aL `a) ?_;exact aj (aX `r rfl)
theorem ru {k:Nat}(hr:bG k A):A.units+1<cLine:=by have:=hr.units;cbv
noncomputable def g8 (F:RF)(z:Int×aH):RF:=if z.2.kind∈XW then jM F z.2.within z.1 else F
noncomputable def eY (S:`N):RF:=(nums S).foldl g8 []
variable {F:RF}
theorem FR {z:Int×aH}:(g8 F z).length<=F.length+1:=by
 unfold g8;split
 ·exact EU _ _ _
 ·cbv
theorem KR (S:`N)(i:Nat):(((nums S).take i).foldl g8 []).length<=i:=by
 induction i with
 | zero=>exact Uw _
 | succ i ih=>
   rw[SS,Tg];cases e:(nums S)[i]? with
   | none=>exact Nat.le_succ_of_le ih
   | some z=>
     show(g8 _ z).length<=_;exact Ux FR `a
abbrev cN (S:`N)(o:Int):Int:=(S.getD o.toNat dC).within
def Ar (S:`N)(n:Int)(kd:Str)(a:Int):Prop:=∃k:Nat,Yj (cN S) k (cN S n)=a/\(∀j,j<=k->0<=Yj (cN S) j (cN S n)/\Yj (cN S) j (cN S n)<(S.length:Int))/\(∀j,j<k->aU S (Yj (cN S) j (cN S n))≠kd)/\aU S a=kd
inductive ft (S:`N) (F:RF) (n:Int):Rv->Prop
 | row {c:Int} (h:aU S n="if"∨aU S n="while") (hc:bo F n∣c):ft S F n [n+1,c+1]
 | els {c:Int} (h:aU S n="else") (hc:bo F n∣c):ft S F n [c]
 | lev {a c:Int} (h:aU S n="leave") (ha:Ar S n "while" a) (hc:bo F a∣c):ft S F n [c+1]
 | bck {a c:Int} (h:aU S n="back") (ha:Ar S n "part" a) (hc:bo F a∣c):ft S F n [c]
 | enw (h:aU S n="end") (h0:0<=cN S n) (h1:cN S n<(S.length:Int)) (hk:aU S (cN S n)="while"):ft S F n [cN S n]
 | enp (h:aU S n="end") (h0:0<=cN S n) (h1:cN S n<(S.length:Int)) (hk:aU S (cN S n)="part"):ft S F n []
 | ene (h:aU S n="end") (h0:0<=cN S n) (h1:cN S n<(S.length:Int)) (hk:aU S (cN S n)="else"):ft S F n [n+1]
 | Z9 (h:aU S n="part"∨aU S n="do"∨aU S n="call"):ft S F n [n+1]
abbrev Qu:Stmt:=top rq
abbrev nCS:Rx:=["steps","closing","number","step"]
def Lr (C:Addr):dh:=λK ps T=>∃S:List aH,ps=[⟨ae (bL C),S⟩]/\S.length<=1000/\T=cR K jw (· =eY S)
theorem Nv (M:`ba)(M2:lX K mg)(HC:bM K C jg)(Df:Def K mg "closing_steps" Qu ["steps"]):aE P w K mg base "closing_steps" 1 (aR (Lr C) K):=by
 refine bP (N:=nCS) Df `n;let⟨S,rfl,hl,rfl⟩:=hS;refine ai (pG 1 ?_);refine bD (N1:=λZ=>∃e2 e3,Z=[.im (ae (bL C)) S,.di (cH (eY S)),e2,e3]) (bO (λi Z=>∃e2 e3,Z=[.im (ae (bL C)) S,.di (cH (((nums S).take i).foldl g8 [])),e2,e3]) (iQ M.enumerate `e) (eL 2 3) ⟨_,_,rfl⟩ (λi z Z hz hΓ=>?_) `X) ?_
 ·let⟨e2,e3,rfl⟩:=hΓ;let⟨n,st⟩:=z;let fl:=KR S i;let il:i<S.length:=by have:=(R6.mp hz).1;rwa [cK] at this
  let Y4:((nums S).take (i+1)).foldl g8 []=g8 (((nums S).take i).foldl g8 []) (n,st):=by rw[SS,hz,Tg];rfl
  rw[Y4];generalize ((nums S).take i).foldl g8 []=Fd at fl;change WS _ _ [.im (ae (bL C)) S,.di (cH Fd),aA n,.im (bL C) st] _ _;refine aj (a9 (ay lR (iu (C:=C) HC `p) (iK M2.XW)) (λh=>?_) (λh=>aG ⟨aA n,.im (bL C) st,?_⟩))
  ·let h:st.kind∈XW:=XH h;refine aj (sf 1 (ru hr) (sj (C:=C) HC `p) `r rfl (Uz (show _<=1000 by cbv) `c) ⟨aA n,.im (bL C) st,?_⟩);unfold g8;rw[XG h];rfl
  ·let h:¬st.kind∈XW:=XI h;unfold g8;rw[XF h]
 ·let⟨e2,e3,rfl⟩:=hΓ;refine⟨e2,e3,?_⟩;rw[SW];rfl
 rintro _ ⟨e2,e3,rfl⟩;exact aj (yY 1 rfl rfl)
abbrev Qj:Stmt:=top Cn
abbrev nAR:Rx:=["steps","number","kind","found"]
def PH (C:Addr):dh:=λK ps T=>∃(S:`N)(n a:Int)(kd:Str),ps=[⟨ae (bL C),S⟩,⟨ag,n⟩,⟨aq,kd⟩]/\0<=n/\n<(S.length:Int)/\Ar S n kd a/\T=cR K ag (· =a)
theorem MU (HC:bM K C jg)(Df:Def K mg "around" Qj ["steps","number","kind"]):aE P w K mg base "around" 1 (aR (PH C) K):=by
 refine bP (N:=nAR) Df `n;let⟨S,n,a,kd,rfl,n0,n1,⟨k,ha,Y5,X3,hk⟩,rfl⟩:=hS;refine ai (bc 3 (y:=cN S n) (sj (C:=C) HC (aK `e `g (a7 (xs:=S) (i:=n) dC n0 n1))) ?_);refine bD (N1:=λZ=>Z=[.im (ae (bL C)) S,aA n,.im aq kd,aA a]) (jA (λm Z=>∃i,m+i=k/\Z=[.im (ae (bL C)) S,aA n,.im aq kd,aA (Yj (cN S) i (cN S n))]) (m0:=k) ⟨0,rfl,rfl⟩ (λm Z hI=>?_)) ?_
 ·let⟨i,hi,rfl⟩:=hI;let⟨o0,o1⟩:=Y5 i `a;let hs:Yj (cN S) (i+1) (cN S n)=cN S (Yj (cN S) i (cN S n)):=rfl;let hne':=X3 i;let hki:i=k->aU S (Yj (cN S) i (cN S n))=kd/\Yj (cN S) i (cN S n)=a:=λe=>by rw[e,ha];exact⟨hk,rfl⟩
  generalize Yj (cN S) i (cN S n)=o at o0 o1 hs hne' hki;refine⟨!decide (aU S o=kd),_,ay vD (iu (C:=C) HC (aK `e `p (a7 (xs:=S) (i:=o) dC o0 o1))) `r,λh=>?_,λh=>?_⟩
  ·let h:¬aU S o=kd:= ~~~h
   let ik:i<k:=by
    obtain z | z:=UD i k
    ·exact z
    ·exact XE (hki `a).1 h
   exact aj (bc 3 (sj (C:=C) HC (aK `e `p (a7 (xs:=S) (i:=o) dC o0 o1))) ⟨m-1,`a,i+1,`a,by rw[hs];rfl⟩)
  ·let h:aU S o=kd:= ~~~h
   let ik:i=k:=by
    obtain z | z:=UD i k
    ·exact XE h (hne' z)
    ·cbv
   rw[(hki ik).2]
 rintro _ rfl;exact aj (aX `p rfl)
abbrev O3:Stmt:=top vq
abbrev nLF:Rx:=["steps","closing","number","kind","ended"]
abbrev pLF:Rx:=["steps","closing","number"]
def Pm (C:Addr):dh:=λK ps T=>∃(S:`N)(F:RF)(n:Int)(ls:Rv),ps=[⟨ae (bL C),S⟩,⟨jw,F⟩,⟨ag,n⟩]/\0<=n/\n<(S.length:Int)/\ft S F n ls/\T=cR K (ae ag) (· =ls)
noncomputable def DX (S:`N)(n:Int):Str:=if aU S n="end" then aU S (cN S n) else ""
theorem Nk (HC:bM K C jg)(CA:aE P w K mg base "around" 1 (aR (PH C) K))(Df:Def K mg "leads_from" O3 pLF):aE P w K mg base "leads_from" 2 (aR (Pm C) K):=by
 refine bP (N:=nLF) Df `n;let⟨S,Fd,n,ls,rfl,n0,n1,hL,rfl⟩:=hS;let hu:=ru hr;let Yw:bX S n∣S.getD n.toNat dC:=a7 (xs:=S) (i:=n) dC n0 n1;let hen:aU S n="end"->0<=cN S n/\cN S n<(S.length:Int):=λh=>by
  cases hL with
  | row g hc=>rcases g with g | g<;>rw[g] at h<;>exact XE h `b
  | els g hc=>rw[g] at h;exact XE h `b
  | lev g ha hc=>rw[g] at h;exact XE h `b
  | bck g ha hc=>rw[g] at h;exact XE h `b
  | enw g h0 h1 hk=>exact⟨h0,h1⟩
  | enp g h0 h1 hk=>exact⟨h0,h1⟩
  | ene g h0 h1 hk=>exact⟨h0,h1⟩
  | Z9 g=>rcases g with g | g | g<;>rw[g] at h<;>exact XE h `b
 refine ai (bc 3 (y:=aU S n) (iu (C:=C) HC (aK `e `r Yw)) ?_);refine ai (bc 4 (y:=DX S n) (EV.cast (lY (x:=aU S (cN S n)) (ay cu `p aB) (λh=>iu (C:=C) HC (aK `e (sj (C:=C) HC (aK `e `r Yw)) (a7 (xs:=S) (i:=cN S n) dC (hen (XH h)).1 (hen (XH h)).2))) (λ_=>aB)) (by unfold DX;by_cases h:aU S n="end"<;>simp[h])) ?_)
 let en0:aU S n≠"end"->DX S n="":=λh=>XF h;let en1:aU S n="end"->DX S n=aU S (cN S n):=λh=>XG h;generalize hE:DX S n=ed at en0 en1;let one_le:(1:Nat)<=U9:=`c
 refine ai (a9 (ay lR `p (yS (xs:=["if","while"]) (ak (EV.pS aB) (ak (EV.pS aB) aM)) (by show 2<=U9;decide))) (λh=>?_) `J)
 ·let h:aU S n∈(["if","while"]:Rx):=XH h;cases hL with
  | row g hc=>exact aj (aX (ba.im (aP (r:=ag) (ak (bR `r ev_int) (ak (bR (jr hu `g `r hc) ev_int) aM)) (by show 2<=U9;decide))) rfl)
  | els g hc=>rw[g] at h;exact XE h `b
  | lev g ha hc=>rw[g] at h;exact XE h `b
  | bck g ha hc=>rw[g] at h;exact XE h `b
  | enw g h0 h1 hk=>rw[g] at h;exact XE h `b
  | enp g h0 h1 hk=>rw[g] at h;exact XE h `b
  | ene g h0 h1 hk=>rw[g] at h;exact XE h `b
  | Z9 g=>rcases g with g | g | g<;>rw[g] at h<;>exact XE h `b
 let h1:¬aU S n∈(["if","while"]:Rx):=XI h;refine ai (a9 (ay cu `p aB) (λh=>?_) `J)
 ·let h:aU S n="else":=XH h;cases hL with
  | row g hc=>rcases g with g | g<;>rw[g] at h<;>exact XE h `b
  | els g hc=>exact aj (aX (ba.im (aP (r:=ag) (ak (jr hu `g `r hc) aM) one_le)) rfl)
  | lev g ha hc=>rw[g] at h;exact XE h `b
  | bck g ha hc=>rw[g] at h;exact XE h `b
  | enw g h0 h1 hk=>rw[g] at h;exact XE h `b
  | enp g h0 h1 hk=>rw[g] at h;exact XE h `b
  | ene g h0 h1 hk=>rw[g] at h;exact XE h `b
  | Z9 g=>rcases g with g | g | g<;>rw[g] at h<;>exact XE h `b
 let h2:¬aU S n="else":=XI h;refine ai (a9 (ay cu `p aB) (λh=>?_) `J)
 ·let h:aU S n="leave":=XH h;cases hL with
  | row g hc=>rcases g with g | g<;>rw[g] at h<;>exact XE h `b
  | els g hc=>rw[g] at h;exact XE h `b
  | lev g ha hc=>exact aj (aX (ba.im (aP (r:=ag) (ak (bR (jr hu `g (aJ CA hr (ah `e (ah `r (ah aB ax))) ⟨S,n,_,_,rfl,n0,n1,ha,rfl⟩) hc) ev_int) aM) one_le)) rfl)
  | bck g ha hc=>rw[g] at h;exact XE h `b
  | enw g h0 h1 hk=>rw[g] at h;exact XE h `b
  | enp g h0 h1 hk=>rw[g] at h;exact XE h `b
  | ene g h0 h1 hk=>rw[g] at h;exact XE h `b
  | Z9 g=>rcases g with g | g | g<;>rw[g] at h<;>exact XE h `b
 let h3:¬aU S n="leave":=XI h;refine ai (a9 (ay cu `p aB) (λh=>?_) `J)
 ·let h:aU S n="back":=XH h;cases hL with
  | row g hc=>rcases g with g | g<;>rw[g] at h<;>exact XE h `b
  | els g hc=>rw[g] at h;exact XE h `b
  | lev g ha hc=>rw[g] at h;exact XE h `b
  | bck g ha hc=>exact aj (aX (ba.im (aP (r:=ag) (ak (jr hu `g (aJ CA hr (ah `e (ah `r (ah aB ax))) ⟨S,n,_,_,rfl,n0,n1,ha,rfl⟩) hc) aM) one_le)) rfl)
  | enw g h0 h1 hk=>rw[g] at h;exact XE h `b
  | enp g h0 h1 hk=>rw[g] at h;exact XE h `b
  | ene g h0 h1 hk=>rw[g] at h;exact XE h `b
  | Z9 g=>rcases g with g | g | g<;>rw[g] at h<;>exact XE h `b
 let h4:¬aU S n="back":=XI h;let Z3:∀{k:Str},k≠""->aU S n≠"end"->ed≠k:=λhk h z=>hk (by rw[← z,en0 h]);refine ai (a9 (ay cu `T aB) (λh=>?_) `J)
 ·let h:ed="while":=XH h;cases hL with
  | row g hc=>exact XE h (Z3 `b (by rcases g with g | g<;>rw[g]<;>decide +kernel))
  | els g hc=>exact XE g h2
  | lev g ha hc=>exact XE g h3
  | bck g ha hc=>exact XE g h4
  | enw g h0 h1 hk=>exact aj (aX (ba.im (aP (r:=ag) (ak (sj (C:=C) HC (aK `e `r Yw)) aM) one_le)) rfl)
  | enp g h0 h1 hk=>rw[en1 g,hk] at h;exact XE h `b
  | ene g h0 h1 hk=>rw[en1 g,hk] at h;exact XE h `b
  | Z9 g=>exact XE h (Z3 `b (by rcases g with g | g | g<;>rw[g]<;>decide +kernel))
 let h5:¬ed="while":=XI h;cases hL with
 | row g hc=>exact XE (by rcases g with g | g<;>rw[g]<;>decide +kernel) h1
 | els g hc=>exact XE g h2
 | lev g ha hc=>exact XE g h3
 | bck g ha hc=>exact XE g h4
 | enw g h0 h1 hk=>exact XE ((en1 g).trans hk) h5
 | enp g h0 h1 hk=>
   let e:ed="part":=(en1 g).trans hk;exact aj (aX (y:=([]:Rv)) (EV.cast (lY (y:=([]:Rv)) (ay cu `T aB) (λ_=>ba.im (aP (r:=ag) aM (Uy _))) (λh=>XE e (XI h))) (by split<;>rfl)) rfl)
 | ene g h0 h1 hk=>
   let e:ed≠"part":=by rw[en1 g,hk];decide +kernel
   exact aj (aX (y:=[n+1]) (EV.cast (lY (x:=[n+1]) (ay cu `T aB) (λh=>XE (XH h) e) (λ_=>ba.im (aP (r:=ag) (ak (bR `r ev_int) aM) one_le))) (by split<;>rfl)) rfl)
 | Z9 g=>
   let e:ed≠"part":=Z3 `b (by rcases g with g | g | g<;>rw[g]<;>decide +kernel)
   exact aj (aX (y:=[n+1]) (EV.cast (lY (x:=[n+1]) (ay cu `T aB) (λh=>XE (XH h) e) (λ_=>ba.im (aP (r:=ag) (ak (bR `r ev_int) aM) one_le))) (by split<;>rfl)) rfl)
abbrev LQ:Stmt:=top yA
abbrev Pg:Rx:=["steps","closing"]
def Br (S:`N)(Ld:List Rv):Prop:=Ld.length=S.length/\∀n:Nat,n<S.length->ft S (eY S) (n:Int) (Ld.getD n [])
def PU (C:Addr):dh:=λK ps T=>∃(S:`N)(Ld:List Rv),ps=[⟨ae (bL C),S⟩]/\S.length<=1000/\Br S Ld/\T=cR K (ae (ae ag)) (· =Ld)
theorem EZ (Ld:List Rv):((ups 0 Ld.length).filter λ_=>true).map (λn=>Ld.getD n.toNat [])=Ld:=by
 rw[SQ.mpr λ_ _=>rfl];refine S6 λi=>?_;unfold ups;rw[Sf,Sf];obtain h | h:=UD i Ld.length
 ·rw[SY h,R7 h];show some (Ld.getD (0+(i:Int)).toNat [])=_;rw[show(0+(i:Int)).toNat=i by cbv,R8,R7 h];rfl
 ·rw[SE (~~~h),SE h];rfl
theorem Np (M:`ba)(CC:aE P w K mg base "closing_steps" 1 (aR (Lr C) K))(CF:aE P w K mg base "leads_from" 2 (aR (Pm C) K))(Df:Def K mg "leads_in" LQ ["steps"]):aE P w K mg base "leads_in" 3 (aR (PU C) K):=by
 let Zd:SJ [("number":Str),"steps","closing"]:=`c
 let CC:=CC.mono (show 1<=2 by decide);refine bP (N:=Pg) (k:=2) Df `n;let⟨S,Ld,rfl,hl,⟨hll,hL⟩,rfl⟩:=hS;refine ai (bc 1 (y:=eY S) (aJ CC hr `bd ⟨S,rfl,hl,rfl⟩) ?_);change WS _ _ [.im (ae (bL C)) S,.im jw (eY S)] _ _;let cc:=EZ Ld;rw[hll] at cc;refine aj (aX (ba.im (bW (own:=["number"]) (fr:=["steps","closing"]) (ix:=[0,1]) (ra:=ag) (rb:=ae ag) (p:=λ_=>true) (f:=λn=>Ld.getD n.toNat []) (bH (so:=ao LQ) (N0:=Pg) rfl rfl `R `b) (dA M.range (cX M.len `e) ⟨`a,`a⟩)
  `G (λx=>⟨.inr rfl,.inl rfl,.inl rfl,trivial⟩) (λC s H ex c hc=>dy) (λC' s H ex o ho _=>?_))) ?_)
 ·let⟨i,hi⟩:=Sr.mp ho;let⟨il,rfl⟩:=eR hi;let il:i<S.length:=`a
  have:=hL i il;rw[show(i:Int)=0+(i:Int) by cbv] at this;exact aJ CF hr (ah `g (ah `r `bd)) ⟨S,eY S,0+(i:Int),_,rfl,`a,`a,by rw[show(0+(i:Int)).toNat=i by cbv];exact this,rfl⟩
 ·rw[show((S.length:Int)).toNat=S.length by cbv];exact cc
abbrev Lo:Stmt:=top yH
abbrev PQ:Rx:=["steps","closing"]
abbrev hV:=Str×Int×Int
def og (p:hV):PV:=.tup [.str p.1,.int p.2.1,.int p.2.2]
def Lu (z:Int×aH):Bool:=decide (z.2.kind="part")
def L1 (S:`N)(z:Int×aH):hV:=(z.2.name,z.1,(bo (eY S) z.1).getD 0)
noncomputable def c5 (S:`N):List hV:=((nums S).filter Lu).map (L1 S)
noncomputable def Qv (C:Addr):dh:=λK ps T=>∃S:List aH,ps=[⟨ae (bL C),S⟩]/\S.length<=1000/\(∀n:Nat,n<S.length->aU S (n:Int)="part"->(bo (eY S) (n:Int)).isSome)/\T=cR K (ae av) (· =(c5 S).map og)
theorem pP {z:Int×aH}(h:z∈nums S):∃n:Nat,n<S.length/\z.1=(n:Int)/\S.getD n dC=z.2:=by
 let⟨i,hi⟩:=Sr.mp h;let⟨e1,e2⟩:=fw hi;exact⟨i,(R6.mp e2).1,e1,by rw[R8,e2];rfl⟩
theorem NK (M:`ba)(HC:bM K C jg)(CC:aE P w K mg base "closing_steps" 1 (aR (Lr C) K))(Df:Def K mg "parts_in" Lo ["steps"]):aE P w K mg base "parts_in" 2 (aR (Qv C) K):=by
 let Zd:SJ [("number":Str),"step","closing"]:=`c
 refine bP (N:=PQ) (k:=1) Df `n;let⟨S,rfl,hl,hp,rfl⟩:=hS;refine ai (bc 1 (y:=eY S) (aJ CC hr `bd ⟨S,rfl,hl,rfl⟩) ?_);refine aj (aX (ba.im (bW (own:=["number","step"]) (fr:=["closing"]) (ix:=[1]) (ra:=cQ ag (bL C)) (rb:=av) (p:=Lu) (f:=λz=>og (L1 S z)) (bH (so:=ao Lo) (N0:=PQ) rfl rfl `R `b) (iQ M.enumerate `e)
  (λC s H ex=>eL 0 1) (λx=>⟨.inr rfl,.inr rfl,.inl rfl,trivial⟩) (λC' s H ex z hz=>?_) (λC' s H ex z hz hpz=>?_))) ?_)
 ·exact ic (ay cu (iu (C:=C) HC `g) aB)
 ·let⟨n,nl,e1,e2⟩:=pP hz;let hk:aU S (n:Int)="part":=by
   unfold aU;rw[show((n:Nat):Int).toNat=n by cbv,e2];exact XH hpz
  let hs:=hp n nl hk;rw[← e1] at hs;let hc:bo (eY S) z.1∣((bo (eY S) z.1).getD 0):=by
   cases q:bo (eY S) z.1 with
   | none=>rw[q] at hs;cases hs
   | some c=>rfl
  exact fP (ak (EV.pS (rN (C:=C) HC `g)) (ak (EV.pI `e) (ak (EV.pI (jr (ru hr) `r `e hc)) aM))) (by show 3<=U9;decide)
 ·unfold c5;rw[Ta];rfl
abbrev dI:List (Str×Rx):=[("do",["do"]),("call",["call"]),("if",["yes","no"]),("while",["yes","no"])]
def aY (k:Str):Bool:=(cM dI k).isSome
noncomputable def rT (S:`N)(Ld:List Rv)(td:Rv)(n:Int):Rv:=
 if(Ld.getD n.toNat []).isEmpty=false/\aY (aU S n)=false then td.set n.toNat (td.getD ((Ld.getD n.toNat []).getD 0 0).toNat 0) else td
variable {Ld:List Rv}
theorem IT {td:Rv}{n:Int}:(rT S Ld td n).length=td.length:=by
 unfold rT;split
 ·rw[SR]
 ·rfl
noncomputable def ZD (S:`N)(Ld:List Rv)(i:Nat):Rv:=((downs ((S.length:Int)-1) S.length).take i).foldl (rT S Ld) (ups 0 S.length)
theorem lM (h:i<S.length):ZD S Ld (i+1)=rT S Ld (ZD S Ld i) ((S.length:Int)-1-(i:Int)):=by
 let hd:(downs ((S.length:Int)-1) S.length)[i]?∣((S.length:Int)-1-(i:Int)):=by
  unfold downs;rw[Sf,SY h];rfl
 unfold ZD;rw[SS,hd,Tg];rfl
theorem kS {S:`N}{Ld:List Rv}:∀i,i<=S.length->(ZD S Ld i).length=S.length
 | 0,_=>bp _ _
 | i+1,h=>by rw[lM h,IT];exact kS i `a
abbrev aZ (S:`N)(Ld:List Rv):Rv:=ZD S Ld S.length
def x8 (S:`N)(Ld:List Rv):Prop:=Ld.length=S.length/\∀ls∈Ld,∀l∈ls,0<=l/\l<(S.length:Int)
abbrev Pl:Stmt:=top vX
abbrev nST:Rx:=["steps","leads","told","number"]
def Qa (C:Addr):dh:=λK ps T=>∃(S:`N)(Ld:List Rv),ps=[⟨ae (bL C),S⟩,⟨ae (ae ag),Ld⟩]/\S.length<=1000/\x8 S Ld/\T=cR K (ae ag) (· =aZ S Ld)
theorem Ni (M:`ba)(HC:bM K C jg)(RW:nH P w K mg "ROW_WORDS" dI)(Df:Def K mg "stands_in" Pl ["steps","leads"]):aE P w K mg base "stands_in" 1 (aR (Qa C) K):=by
 refine bP (N:=nST) Df `n;let⟨S,Ld,rfl,hl,⟨hll,Y5⟩,rfl⟩:=hS;change WS _ _ [.im (ae (bL C)) S,.im (ae (ae ag)) Ld,.no,.no] _ _;refine ai (cD 2 (r:=ag) (ys:=ups 0 S.length) (ba.cst (vf M.list M.range (cX M.len `e) ⟨`a,`a⟩) (by rw[show((S.length:Int)).toNat=S.length by cbv])) ?_);refine bD (N1:=λZ=>∃e3,Z=[.im (ae (bL C)) S,.im (ae (ae ag)) Ld,.mu ag `al,e3]) (bO (λi Z=>∃e3,Z=[.im (ae (bL C)) S,.im (ae (ae ag)) Ld,.mu ag (ZD S Ld i),e3]) (Dk M.range (ah (gy (cX M.len `e) ev_int) (ah `af (ah `af ax))) ⟨`a,`a,`a,`a⟩) (aW 3) ⟨_,rfl⟩ (λi n Z hn hΓ=>?_) `X) ?_
 ·let⟨e3,rfl⟩:=hΓ;let⟨il,rfl⟩:=vV hn;let il:i<S.length:=`a
  rw[lM il];let tl:=kS (S:=S) (Ld:=Ld) i `a;generalize ZD S Ld i=td at tl;generalize hnn:(S.length:Int)-1-(i:Int)=n;let n0:0<=n:=`a
  let n1:n<(S.length:Int):=`a
  change WS _ _ [.im (ae (bL C)) S,.im (ae (ae ag)) Ld,.mu ag td,aA n] _ _;let Yw:bX Ld n∣(Ld.getD n.toNat []):=a7 (xs:=Ld) (i:=n) [] n0 `a;let ZM:Ld.getD n.toNat []∈Ld:=by
   rw[R8,R7 (show n.toNat<Ld.length by cbv)];exact SO _
  refine aj (a9 (TW.tv (cZ (xM (aK `g `p Yw)) (λ_=>eK (Cb RW (iu (C:=C) HC (aK `e `p (a7 (xs:=S) (i:=n) dC n0 n1))))))) (λh=>?_) (λh=>aG ⟨aA n,?_⟩))
  ·let h:(Ld.getD n.toNat []).isEmpty=false/\aY (aU S n)=false:=by simpa[aY,aU] using h
   let hls:=Y5 _ ZM;obtain⟨l,r,hlr⟩:∃l r,Ld.getD n.toNat []=l::r:=by
    cases e:Ld.getD n.toNat [] with
    | nil=>rw[e] at h;exact XE h.1 `c
    | cons l r=>exact⟨l,r,rfl⟩
   let e0:(Ld.getD n.toNat []).getD 0 0=l:=by rw[hlr];rfl
   let hl0:bX (Ld.getD n.toNat []) 0∣l:=by rw[hlr,gb `c `d];rfl
   let⟨l0,l1⟩:=hls l (by rw[hlr];exact Se);refine aj (Ho 2 (y:=td.getD l.toNat 0) (j:=n.toNat) (pj 2 (aK (aK `g `p Yw) ev_int hl0) rfl rfl (a7 (xs:=td) (i:=l) 0 l0 `a)) `p rfl rfl (wq n0 `a) ⟨aA n,?_⟩);unfold rT;rw[XG h,e0];rfl
  ·let h:¬((Ld.getD n.toNat []).isEmpty=false/\aY (aU S n)=false):=by
    intro z;unfold aY at z;unfold aU at z;rw[z.1,z.2] at h;exact XE h `c
   unfold rT;rw[XF h]
 ·let⟨e3,rfl⟩:=hΓ;rw[jn,show((S.length:Int)-1 - -1).toNat=S.length by cbv];exact⟨e3,rfl⟩
 rintro _ ⟨e3,rfl⟩;refine WS.freeze 2 rfl (aL (by rw[kS S.length (Uw _)];cbv)) ?_;exact aj (aX `r rfl)
abbrev Rw:=Int×Int×Str×Str
def j5 (r:Rw):PV:=.tup [.int r.1,.int r.2.1,.str r.2.2.1,.str r.2.2.2]
def j6 (Ld:List Rv)(z:Int×aH):List (Str×Int):=((cM dI z.2.kind).getD []).zip (Ld.getD z.1.toNat [])
def sL (St:Rv)(z:Int×aH)(y:Str×Int):Rw:=(z.1,St.getD y.2.toNat 0,y.1,z.2.name)
noncomputable def dZ (Ld:List Rv)(St:Rv)(z:Int×aH):List Rw:=(j6 Ld z).map (sL St z)
noncomputable def gj (S:`N)(Ld:List Rv)(St:Rv):List Rw:=(nums S).flatMap (dZ Ld St)
theorem yM (Ld:List Rv)(z:Int×aH):(j6 Ld z).length<=2:=by
 unfold j6;rw[Ts];refine Ux (UK _ _) ?_;unfold cM;split
 ·decide
 unfold cM;split
 ·decide
 unfold cM;split
 ·decide
 unfold cM;split
 ·decide
 ·exact Uy _
theorem qY {α β:Type}{f:α->List β}{n:Nat}(h:∀x,(f x).length<=n):∀xs:List α,(xs.flatMap f).length<=n*xs.length
 | []=>Uy _
 | x::xs=>by
   rw[Te,Sd,Si,Nat.mul_succ];have:=h x;have:=qY h xs;cbv
theorem sq (Ld:List Rv)(St:Rv)(z:Int×aH):(dZ Ld St z).length<=2:=by unfold dZ;rw[R9];exact yM Ld z
abbrev P8:Stmt:=top Bl
abbrev nRI:Rx:=["steps","leads","stands","told","number","step","word","lead"]
abbrev pRI:Rx:=["steps","leads","stands"]
noncomputable def Pf (C:Addr):dh:=λK ps T=>∃(S:`N)(Ld:List Rv)(St:Rv),ps=[⟨ae (bL C),S⟩,⟨ae (ae ag),Ld⟩,⟨ae ag,St⟩]/\S.length<=1000/\x8 S Ld/\St.length=S.length/\T=cR K (ae av) (· =(gj S Ld St).map j5)
theorem OB (M:`ba)(HC:bM K C jg)(RW:nH P w K mg "ROW_WORDS" dI)(Df:Def K mg "rows_in" P8 pRI):aE P w K mg base "rows_in" 1 (aR (Pf C) K):=by
 refine bP (N:=nRI) Df `n;let⟨S,Ld,St,rfl,hl,⟨hll,Y5⟩,hst,rfl⟩:=hS;change WS _ _ [.im (ae (bL C)) S,.im (ae (ae ag)) Ld,c8 St,.no,.no,.no,.no,.no] _ _;refine ai (cD 3 (r:=av) (ys:=[]) `az ?_);refine bD (N1:=λZ=>∃e4 e5 e6 e7,Z=[.im (ae (bL C)) S,.im (ae (ae ag)) Ld,c8 St,.mu av ((gj S Ld St).map j5),e4,e5,e6,e7]) (bO (λi Z=>∃e4 e5 e6 e7,Z=[.im (ae (bL C)) S,.im (ae (ae ag)) Ld,c8 St,.mu av ((((nums S).take i).flatMap (dZ Ld St)).map j5),e4,e5,e6,e7]) (iQ M.enumerate `e) (eL 4 5) ⟨_,_,_,_,rfl⟩ (λi z Z hz hΓ=>?_) `X) ?_
 ·let⟨e4,e5,e6,e7,rfl⟩:=hΓ;let⟨n,nl,e1,e2⟩:=pP (Sg hz);let il:i<S.length:=by have:=(R6.mp hz).1;rwa [cK] at this
  let fl:=qY (sq Ld St) ((nums S).take i);let hti:((nums S).take i).length<=i:=by rw[Sx];cbv
  let Y4:((nums S).take (i+1)).flatMap (dZ Ld St)=((nums S).take i).flatMap (dZ Ld St)++dZ Ld St z:=by
   rw[SS,hz,To];simp
  rw[Y4];generalize ((nums S).take i).flatMap (dZ Ld St)=rs at fl;let rl:rs.length<=2000:=`a
  let⟨zn,zs⟩:=z;dsimp only at e1 e2;subst e1;change WS _ _ [.im (ae (bL C)) S,.im (ae (ae ag)) Ld,c8 St,.mu av (rs.map j5),aA (n:Int),.im (bL C) zs,e6,e7] _ _;let Yw:bX Ld (n:Int)∣(Ld.getD n []):=a7 (xs:=Ld) (i:=(n:Int)) [] `a `a;let ZM:Ld.getD n []∈Ld:=by
   rw[R8,R7 (show n<Ld.length by cbv)];exact SO _
  let hls:=Y5 _ ZM;let hzl:=yM Ld ((n:Int),zs);let hzz:j6 Ld ((n:Int),zs)=((cM dI zs.kind).getD []).zip (Ld.getD n []):=rfl;refine aj (bO (λj Z=>∃e6 e7,Z=[.im (ae (bL C)) S,.im (ae (ae ag)) Ld,c8 St,.mu av ((rs++((j6 Ld ((n:Int),zs)).take j).map (sL St ((n:Int),zs))).map j5),aA (n:Int),.im (bL C) zs,e6,e7]) (Jg M.zip (HY RW (iu (C:=C) HC `ai) (yS (xs:=[]) aM (Uy _))) (aK `g `T Yw)) (eL 6 7) ⟨e6,e7,by rw[TC,T4,Sw]⟩ (λj y Z hy hΓ=>?_) `X)
  ·let⟨e6,e7,rfl⟩:=hΓ;rw[← hzz] at hy;let hjl:j<(j6 Ld ((n:Int),zs)).length:=(R6.mp hy).1;let htj:(((j6 Ld ((n:Int),zs)).take j).map (sL St ((n:Int),zs))).length<=2:=by rw[R9,Sx];cbv
   let hnj:((j6 Ld ((n:Int),zs)).take (j+1)).map (sL St ((n:Int),zs))=((j6 Ld ((n:Int),zs)).take j).map (sL St ((n:Int),zs))++[sL St ((n:Int),zs) y]:=by
    rw[SS,hy,So];rfl
   rw[hnj];let hyl:y.2∈Ld.getD n []:=by
    rw[hzz] at hy;exact(T5 (Sg hy)).2
   let⟨y0,y1⟩:=hls y.2 hyl;generalize ((j6 Ld ((n:Int),zs)).take j).map (sL St ((n:Int),zs))=ts at htj;let⟨yw,yl⟩:=y;refine aj (eQ 3 (y:=j5 (sL St ((n:Int),zs) (yw,yl))) (fP (ak (EV.pI `T) (ak (EV.pI (aK `r (aa 7 rfl) (a7 (xs:=St) (i:=yl) 0 y0 `a))) (ak (EV.pS `an) (ak (EV.pS (rN (C:=C) HC `ai)) aM)))) (by show 4<=U9;decide)) rfl rfl (Uz (show _<=3000 by rw[R9,Sd];cbv) `c) ⟨.im aq yw,aA yl,?_⟩);rw[← Su,So (l₁:=rs++ts)];rfl
  ·let⟨e6,e7,rfl⟩:=hΓ;refine⟨aA (n:Int),.im (bL C) zs,e6,e7,?_⟩;rw[← hzz,SW];rfl
 ·let⟨e4,e5,e6,e7,rfl⟩:=hΓ;refine⟨e4,e5,e6,e7,?_⟩;rw[SW];rfl
 rintro _ ⟨e4,e5,e6,e7,rfl⟩;let fl:=qY (sq Ld St) (nums S);rw[cK] at fl;refine WS.freeze 3 rfl (aL (by rw[R9];unfold gj;cbv)) ?_;exact aj (aX `p rfl)
structure iV where
 S:List aH
 parts:List hV
 Ld:List Rv
 St:Rv
 rows:List Rw
abbrev gH:Rx:=["steps","parts","leads","stands","rows"]
theorem d6 (h:decide (x∈gH)=true):x∈gH:=XH h
noncomputable def Pz (C:Addr)(s:iV):lO:=[("steps",(ae (bL C)).at_ s.S),("parts",(ae av).at_ (s.parts.map og)),("leads",(ae (ae ag)).at_ s.Ld),("stands",(ae ag).at_ s.St),("rows",(ae av).at_ (s.rows.map j5))]
def cV (C D:Addr):Rep iV:=⟨λK R v s=>∃x dx vs,v= .ref x/\R x∣.ins D dx vs/\g7 (Pz C s) K R vs,λs ⟨x,dx,vs,e,h1,h2⟩=>⟨x,dx,vs,e,s _ _ h1,h2.mono s⟩⟩
variable {D:Addr}
section
variable {s:iV}
theorem AA (hC:bM X.K D gH)(he:EV X e Z (cV C D) s Γ1)(hb:fh X e "steps":=by rfl):EV X (.Attribute e "steps" pos) Z (ae (bL C)) s.S Γ1:=kH hC (d6 `c) he (λK R v ⟨x,dx,vs,e,h1,h2⟩=>by let⟨u,q1,q2⟩:=h2.get (f:="steps") rfl;exact⟨x,dx,vs,u,e,h1,q1,q2⟩) hb
theorem jq (hC:bM X.K D gH)(he:EV X e Z (cV C D) s Γ1)(hb:fh X e "parts":=by rfl):EV X (.Attribute e "parts" pos) Z (ae av) (s.parts.map og) Γ1:=kH hC (d6 `c) he (λK R v ⟨x,dx,vs,e,h1,h2⟩=>by let⟨u,q1,q2⟩:=h2.get (f:="parts") rfl;exact⟨x,dx,vs,u,e,h1,q1,q2⟩) hb
theorem NN (hC:bM X.K D gH)(he:EV X e Z (cV C D) s Γ1)(hb:fh X e "leads":=by rfl):EV X (.Attribute e "leads" pos) Z (ae (ae ag)) s.Ld Γ1:=kH hC (d6 `c) he (λK R v ⟨x,dx,vs,e,h1,h2⟩=>by let⟨u,q1,q2⟩:=h2.get (f:="leads") rfl;exact⟨x,dx,vs,u,e,h1,q1,q2⟩) hb
theorem Ny (hC:bM X.K D gH)(he:EV X e Z (cV C D) s Γ1)(hb:fh X e "stands":=by rfl):EV X (.Attribute e "stands" pos) Z (ae ag) s.St Γ1:=kH hC (d6 `c) he (λK R v ⟨x,dx,vs,e,h1,h2⟩=>by let⟨u,q1,q2⟩:=h2.get (f:="stands") rfl;exact⟨x,dx,vs,u,e,h1,q1,q2⟩) hb
theorem vC (hC:bM X.K D gH)(he:EV X e Z (cV C D) s Γ1)(hb:fh X e "rows":=by rfl):EV X (.Attribute e "rows" pos) Z (ae av) (s.rows.map j5) Γ1:=kH hC (d6 `c) he (λK R v ⟨x,dx,vs,e,h1,h2⟩=>by let⟨u,q1,q2⟩:=h2.get (f:="rows") rfl;exact⟨x,dx,vs,u,e,h1,q1,q2⟩) hb
end
structure rj (S:`N)(Ld:List Rv):Prop where
 l:S.length<=240
 ld:Br S Ld
 li:x8 S Ld
 pt:∀n:Nat,n<S.length->aU S (n:Int)="part"->(bo (eY S) (n:Int)).isSome
def Yc (S:`N)(Ld:List Rv):iV:=⟨S,c5 S,Ld,aZ S Ld,gj S Ld `al⟩
def uc (x:Str)(S:`N):Prop:=∃(ws:Rx)(n:Nat),x=W7 " " ws/\ws≠[]/\ws.length<=240/\(∀w∈ws,gZ w)/\hJ ws n ⟨[],[],0⟩ ⟨S,[],ws.length⟩
abbrev u9:Stmt:=match top Fp with
 | .ClassDef _ _ _ b _ _ _ _ _ _ _=>b.getD 0 (.Pass ⟨0,0,0,0⟩)
 | s=>s
abbrev wm:Rx:=["self","text"]
theorem Kk:bF wm wm (ao u9):=Y6
def Pq (C D0:Addr):Dl:=λK D ps Pd=>D=D0/\∃(x:Str)(S:`N)(Ld:List Rv),ps=[⟨aq,x⟩]/\uc x S/\rj S Ld/\Pd=λfs=>fs=Pz C (Yc S Ld)
theorem MO (HD:bM K D gH)(CR:aE P w K mg base "read" 3 (aR (Qe C) K))(CP:aE P w K mg base "parts_in" 2 (aR (Qv C) K))(CL:aE P w K mg base "leads_in" 3 (aR (PU C) K))(CS:aE P w K mg base "stands_in" 1 (aR (Qa C) K))(CW:aE P w K mg base "rows_in" 1 (aR (Pf C) K))(F:dO K "__init__" "Spots.__init__" u9 f fd):eZ P w K mg base eI 4 f fd wm (zI (Pq C D) K):=by
 let nd:=Kk.nd;let CP:=CP.mono (show 2<=3 by decide);let CS:=CS.mono (show 1<=3 by decide);let CW:=CW.mono (show 1<=3 by decide);refine BP (k:=3) F Kk (λD qs Pd ⟨_,_,_,_,e,_⟩=>by rw[e];rfl) (λXU A outer st H E D' x dx qs Pd hr hS=>?_);let⟨rfl,tx,S,Ld,rfl,⟨ws,n,et,X3,hl,hw,hsim⟩,hOk,rfl⟩:=hS;let ZG:S.length<=1000:=by have:=hOk.l;cbv
 refine ai (ja 0 HD (d6 `c) (aJ (y:=S) (r:=ae (bL C)) CR hr (ah `g ax) ⟨ws,n,S,by rw[et],X3,hl,hw,hsim,rfl⟩) rfl rfl (by show 0<1000;decide) ?_);refine ai (ja 0 HD (d6 `c) (aJ CP hr (ah (nX 0 HD (d6 `c) rfl rfl) ax) ⟨S,rfl,ZG,hOk.pt,rfl⟩) rfl rfl (by show 1<1000;decide) ?_);refine ai (ja 0 HD (d6 `c) (aJ CL hr (ah (nX 0 HD (d6 `c) rfl rfl) ax) ⟨S,Ld,rfl,ZG,hOk.ld,rfl⟩) rfl rfl (by show 2<1000;decide) ?_);refine ai (ja 0 HD (d6 `c) (aJ CS hr (ah (nX 0 HD (d6 `c) rfl rfl) (ah (nX 0 HD (d6 `c) rfl rfl) ax)) ⟨S,Ld,rfl,ZG,hOk.li,rfl⟩) rfl rfl (by show 3<1000;decide) ?_);exact aj (ja 0 HD (d6 `c) (aJ CW hr (ah (nX 0 HD (d6 `c) rfl rfl) (ah (nX 0 HD (d6 `c) rfl rfl) (ah (nX 0 HD (d6 `c) rfl rfl) ax))) ⟨S,Ld,aZ S Ld,rfl,ZG,hOk.li,kS S.length (Uw _),rfl⟩) rfl rfl (by show 4<1000;decide) ⟨_,rfl,rfl⟩)
structure xh (P:Ve)(w:World)(K:Xh)(mg:Rt)(base:Heap)(C D:Addr):Prop where
 cl:bM K D gH
 ex:∃fi ZA,Mk K D fi/\eZ P w K mg base eI 4 fi ZA wm (zI (Pq C D) K)/\Binds K ZA wm []
 mg:mg "Spots"∣.ref D
theorem Fy {p:Pos}(G:xh X.prog X.w X.K X.mg X.base C D)(hr:bG 5 X.A)(ha:HA X [e] Z [⟨aq,x⟩] Γ1)(hx:uc x S)(hk:rj S Ld)(hg:Gl X "Spots":=by rfl)(he:dq X e []:=by rfl)(Yb:fc X pos []:=by rfl):EV X (.Call (.Name "Spots" p) [e] [] pos) Z (cV C D) (Yc S Ld) Γ1:=by
 let⟨fi,ZA,MK,SI,bi⟩:=G.ex;exact Ai MK SI hr G.mg bi ha ⟨rfl,x,S,Ld,rfl,hx,hk,rfl⟩ (λfs R x dx vs hP h1 h2=>by subst hP;exact⟨x,dx,vs,rfl,h2,h1⟩) hg `c he Yb
theorem Mp {xs:`u}(h:i<=xs.length):cut xs none (some (i:Int))=xs.take i:=by
 let e:HT.X7 xs.length xs.length (some (i:Int))=i:=by
  show(if(i:Int)<0 then((i:Int)+(xs.length:Int)).toNat else min (i:Int).toNat xs.length)=i;rw[XF `a];cbv
 unfold cut;rw[e];rfl
theorem oN {xs:`u}:cut xs (some (i:Int)) none=xs.drop i:=by
 let e:HT.X7 xs.length 0 (some (i:Int))=min i xs.length:=by
  show(if(i:Int)<0 then((i:Int)+(xs.length:Int)).toNat else min (i:Int).toNat xs.length)=_;rw[XF `a];rfl
 let e2:HT.X7 xs.length xs.length none=xs.length:=rfl;unfold cut;rw[e,e2];obtain h | h:=UD i xs.length
 ·rw[Nat.min_eq_left `a,Tr (by rw[TJ];cbv)]
 ·rw[Nat.min_eq_right h,TK (Uw _),TK h,take_nil]
theorem tF:∀(n:Nat)(l:Rv),l.Nodup->(∀x∈l,0<=x/\x<(n:Int))->l.length<=n
 | 0,l,_,h=>by
   cases l with
   | nil=>exact Uw _
   | cons x r=>have:=h x Se;cbv
 | n+1,l,nd,h=>by
   by_cases q:(n:Int)∈l
   ·have:=tF n (l.erase (n:Int)) (nd.erase _) λx hx=>by
     let hm:=(nd.mem_erase_iff.mp hx);have:=h x hm.2;have:=hm.1;cbv
    rw[List.length_erase_of_mem q] at this;cbv
   ·have:=tF n l nd λx hx=>by
     have:=h x hx;have:x≠(n:Int):=λe=>q (e▸hx);cbv
    cbv
noncomputable def cU (F:RF)(k:Int):RF:=if(bo F k).isSome then F else F++[(k,(F.length:Int))]
def ip (p:hV)(r:Rw):Bool:=decide (p.2.1<r.1)&&decide (r.1<p.2.2)
noncomputable def eh (p:hV)(F:RF)(r:Rw):RF:=if ip p r then cU (cU F r.1) r.2.1 else F
noncomputable def cL (s:iV)(p:hV):RF:=s.rows.foldl (eh p) [(s.St.getD p.2.1.toNat 0,0),(p.2.2,1)]
def Reach (s:iV)(fd:Rv):Prop:=(∀p∈s.parts,p.2.1∈fd)/\∀n∈fd,∀l∈s.Ld.getD n.toNat [],l∈fd
structure Good (s:iV):Prop where
 l:s.S.length<=240
 pl:s.parts.length<=4
 pn:(s.parts.map (·.1)).Nodup
 pv:∀p∈s.parts,0<=p.2.1/\p.2.1<(s.S.length:Int)
 li:x8 s.S s.Ld
 l2:∀ls∈s.Ld,ls.length<=2
 sl:s.St.length=s.S.length
 sn:((s.S.filter λt=>decide (t.kind=("part":Str))).map (·.name)).Nodup
 ca:∀(n:Nat)(t:aH),s.S[n]?∣t->t.kind="call"->∃(m:Nat)(u:aH),n<m/\s.S[m]?∣u/\u.kind="part"/\u.name=t.name
 ct:∀fd,Reach s fd->∀n:Nat,n<s.S.length->aU s.S (n:Int)∈Yg->(n:Int)∈fd
 nc:∀p∈s.parts.drop 1,∃t∈s.S,t.kind="call"/\t.name=p.1
 eb:∀p∈s.parts,s.St.getD p.2.1.toNat 0≠p.2.2
 rl:s.rows.length<=30
 rk:∀r∈s.rows,(0<=r.1/\r.1<(s.S.length:Int))/\aU s.S r.1∈Yg
 pc:∀p∈s.parts,(cL s p).length<=16
noncomputable def vN:PV->Str
 | .tup (.str x::_)=>x
 | _=>""
theorem DY (p:hV):vN (og p)=p.1:=rfl
abbrev JQ:Stmt:=top vg
def y8 (C D:Addr):dh:=λK ps T=>∃s:iV,ps=[⟨cV C D,s⟩,⟨ae av,[]⟩]/\T=cR K (ae ag) (· =[])
theorem M5 (Df:Def K mg "name_words" JQ ["spots","parts"]):aE P w K mg base "name_words" 1 (aR (y8 C D) K):=by
 let Zd:SJ [("part":Str),"spots"]:=`c
 refine bP (N:=["spots","parts"]) Df `z;let⟨s,rfl,rfl⟩:=hS;exact aj (aX (ba.im (bW (own:=["part"]) (fr:=["spots"]) (ix:=[0]) (ra:=av) (rb:=ag) (p:=λ_=>true) (f:=λ_=>0) (bH (so:=ao JQ) (N0:=["spots","parts"]) rfl rfl `R `b) (bI `g)
  `G `O `ak (λC' s H ex o ho _=>by cases ho))) rfl)
abbrev G1:Stmt:=top tP
abbrev L6:Rx:=["spots","names"]
def jy (C D:Addr):dh:=λK ps T=>∃s:iV,ps=[⟨cV C D,s⟩]/\Good s/\T=cR K (ae ag) (· =[])
theorem j7 {β:Type}{xs:`u}{p:α->Bool}{f:α->β}(h:∀x∈xs,p x=false):(xs.filter p).map f=[]:=by
 rw[Tj.mpr λx hx=>by rw[h x hx];decide];rfl
theorem Jc {xs:Rx}(h:xs.Nodup)(hx:xs[i]?∣x):x∉xs.take i:=by
 intro hm;let⟨j,hj⟩:=Sr.mp hm;let⟨jl,ej⟩:=R6.mp hj;let⟨il,ei⟩:=R6.mp hx;rw[Sx] at jl;rw[List.getElem_take] at ej;have:=(Ua (h₀:=by cbv) (h₁:=il) h).mp (ej.trans ei.symm);cbv
theorem OW (M:`ba)(HD:bM K D gH)(CN:`aH)(Df:Def K mg "named_again" G1 ["spots"]):aE P w K mg base "named_again" 2 `av:=by
 let Zd:SJ [("part":Str)]:=`c
 let ZZ:SJ [("place":Str),"part","names"]:=`c
 refine bP (N:=L6) (k:=1) Df `z;let⟨s,rfl,hG,rfl⟩:=hS;let hnm:((s.parts.map og).filter λ_=>true).map vN=s.parts.map (·.1):=by rw[SQ.mpr λ_ _=>rfl,Ta];rfl
 refine ai (bc 1 (y:=s.parts.map (·.1)) (EV.cast (ba.im (bW (own:=["part"]) (fr:=[]) (ix:=[]) (ra:=av) (rb:=aq) (p:=λ_=>true) (f:=vN) (bH (so:=ao G1) (N0:=L6) rfl rfl `R `b) (bI (jq (C:=C) HD `e))
  `G `W `ak (λC' s H ex o ho _=>by
   let⟨p,_,rfl⟩:=Sv.mp ho;exact EV.sP (x:=p.1) (dz `e ev_int rfl)))) hnm) ?_)
 change WS _ _ [.im (cV C D) s,.im (ae aq) (s.parts.map (·.1))] _ _;refine aj (aX (y:=([]:Rv)) (aJ CN hr (ah `e (ah (x:=([]:List PV)) (EV.cast (ba.im (bW (own:=["place","part"]) (fr:=["names"]) (ix:=[1]) (ra:=cQ ag av) (rb:=av) (p:=λz=>decide (vN z.2∈cut (s.parts.map (·.1)) none (some z.1))) (f:=λz=>z.2) (bH (so:=ao G1) (N0:=L6) rfl rfl `R `b) (iQ M.enumerate (jq (C:=C) HD `e))
  (λC s H ex=>eL 0 1) (λx=>⟨.inr rfl,.inr rfl,.inl rfl,trivial⟩) (λC' s H ex z hz=>?_) (λC' s H ex z hz _=>aa 1 rfl))) ?_) ax)) ⟨s,rfl,rfl⟩) rfl)
 ·let⟨i,hi⟩:=Sr.mp hz;let⟨e1,e2⟩:=fw hi;rw[Sf] at e2;let⟨p,_,ep⟩:=UU.mp e2;let⟨zn,zp⟩:=z;dsimp only at e1 ep;subst ep;exact ic (ay wx (EV.sP (x:=p.1) (dz `g ev_int rfl)) (ba.im (jR `r ov_none (ov_some `e))))
 ·refine j7 λz hz=>?_;let⟨i,hi⟩:=Sr.mp hz;let⟨e1,e2⟩:=fw hi;rw[Sf] at e2;let⟨p,hp,ep⟩:=UU.mp e2;rw[e1,← ep,DY];let il:=(R6.mp hp).1;rw[Mp (by rw[R9];cbv)];exact XM (Jc hG.pn (by rw[Sf,hp];rfl))
abbrev Pw:Stmt:=top qK
abbrev nCA:Rx:=["spots","found","behind","step"]
noncomputable def YC (S:`N):Rx:=(S.filter λt=>decide (t.kind=("part":Str))).map (·.name)
theorem nt (a b:`N):YC (a++b)=YC a++YC b:=by unfold YC;rw[SU,So]
theorem KC (h:(YC S).Nodup):(YC S.reverse).Nodup:=by
 unfold YC at h ⊢;rw[List.filter_reverse,List.map_reverse];exact List.pairwise_reverse.mpr (h.imp λz=>UT z)
theorem Nc (M:`ba)(HC:bM K C jg)(HD:bM K D gH)(Df:Def K mg "called_astray" Pw ["spots"]):aE P w K mg base "called_astray" 1 `av:=by
 refine bP (N:=nCA) Df `z;let⟨s,rfl,hG,rfl⟩:=hS;let hu:=ru hr;let hl:=hG.l;let hnd:=KC (S:=s.S) hG.sn;refine ai (cD 1 (r:=ag) (ys:=[]) `az ?_);refine ai (pG 2 ?_);refine WS.MQ 2 rfl λa=>?_;refine bD (N1:=λZ=>∃ks e3,Z=[.im (cV C D) s,.mu ag [],.ob (rX a ks),e3]) (bO (λi Z=>∃e3,Z=[.im (cV C D) s,.mu ag [],.ob (rX a (YC (s.S.reverse.take i))),e3]) (JC M.reversed (AA (C:=C) HD `e)) (aW 3) ⟨_,rfl⟩ (λi t Z ht hΓ=>?_) `X) ?_
 ·let⟨e3,rfl⟩:=hΓ;let il:i<s.S.length:=by have:=(R6.mp ht).1;rwa [T8] at this
  let Y4:YC (s.S.reverse.take (i+1))=YC (s.S.reverse.take i)++YC [t]:=by rw[SS,ht,nt];rfl
  let Yl:(YC (s.S.reverse.take (i+1))).Nodup:=by
   have:YC s.S.reverse=YC (s.S.reverse.take (i+1))++YC (s.S.reverse.drop (i+1)):=by rw[← nt,Tw]
   rw[this] at hnd;exact(S0.mp hnd).1
  let hkl:(YC (s.S.reverse.take i)).length<=240:=by
   unfold YC;rw[R9];refine Ux (Tv _ _) ?_;rw[Sx];cbv
  let hcall:t.kind="call"->t.name∈YC (s.S.reverse.take i):=λhk=>by
   rw[Uk il] at ht;let⟨m,u,hm',Z1,Zl,hn'⟩:=hG.ca _ t ht hk;let ml:=(R6.mp Z1).1;unfold YC;refine Sv.mpr ⟨u,SV.mpr ⟨Sg (i:=s.S.length-1-m) ?_,XJ Zl⟩,hn'⟩;rw[List.getElem?_take,XG `a,Uk `a,show s.S.length-1-(s.S.length-1-m)=m by cbv];exact Z1
  rw[Y4];generalize YC (s.S.reverse.take i)=ks at Y4 hkl hcall;rw[Y4] at Yl;change WS _ _ [.im (cV C D) s,.mu ag [],.ob (rX a ks),.im (bL C) t] _ _;refine bD (N1:=λZ=>Z=[.im (cV C D) s,.mu ag [],.ob (rX a (ks++YC [t])),.im (bL C) t]) (a9 (ay cu (iu (C:=C) HC `p) aB) (λh=>?_) `J) ?_
  ·let h:t.kind="part":=XH h;let hp:YC [t]=[t.name]:=by unfold YC;rw[Tc (~~~h)];rfl
   rw[hp] at Yl ⊢;refine aj (HH 2 hu (rN (C:=C) HC `p) AQ rfl (λz=>?_) (Uz hkl `c) rfl);exact(S0.mp Yl).2.2 t.name z t.name (Sa.mpr rfl) rfl
  ·let h:¬t.kind="part":=XI h;let hp:YC [t]=[]:=by unfold YC;rw[Td (~~~h)];rfl
   rw[hp,Sw]
  rintro _ rfl;refine aj (a9 (TW.tv (cZ (ay cu (iu (C:=C) HC `p) aB) (λ_=>eK (F3 2 hu (rN (C:=C) HC `p) rfl)))) (λh=>?_) (λh=>aG ⟨.im (bL C) t,rfl⟩));exfalso;let⟨h1,h2⟩:=Bool.and_eq_true_iff.mp h;let h1:t.kind="call":=XH h1;rw[XJ (Sn _ (hcall h1))] at h2;cases h2
 ·let⟨e3,rfl⟩:=hΓ;exact⟨_,e3,rfl⟩
 rintro _ ⟨ks,e3,rfl⟩;refine WS.freeze 1 rfl (Uy _) ?_;exact aj (aX `g rfl)
abbrev Gh:Stmt:=top A2
abbrev Ph:Rx:=["spots","found","waiting","number"]
theorem JS:bF Ph ["spots"] (ao Gh):=Y6
noncomputable def dT (fd:Rv):List (Int×V):=fd.map λk=>(k,V.bl true)
theorem oE (fd:Rv)(k:Int):jk (dT fd) k=decide (k∈fd):=by
 unfold jk dT;rw[List.any_map];by_cases h:k∈fd
 ·rw[XJ h,Uo];exact⟨k,h,`d⟩
 ·rw[XM h];rw[List.any_eq_false];intro x hx;have:x≠k:=λe=>h (e▸hx);simpa using this
def Ll (C D:Addr):dh:=λK ps T=>∃s:iV,ps=[⟨cV C D,s⟩]/\Good s/\T=cR K nF (λkvs=>∃fd,kvs=dT fd/\Reach s fd)
structure CtI (s:iV)(fd wt:Rv):Prop where
 nd:fd.Nodup
 fv:∀n∈fd,0<=n/\n<(s.S.length:Int)
 wv:∀n∈wt,0<=n/\n<(s.S.length:Int)
 st:∀p∈s.parts,p.2.1∈fd∨p.2.1∈wt
 cl:∀n∈fd,∀l∈s.Ld.getD n.toNat [],l∈fd∨l∈wt
noncomputable def AJ:PV->Int
 | .tup (_:: .int n::_)=>n
 | _=>0
theorem NO (M:`ba)(HD:bM K D gH)(F:dO K "come_to" "come_to" Gh f fd)(hm:mg "come_to"∣.ref f)(hb:Binds K fd ["spots"] []):aE P w K mg base "come_to" 1 (aR (Ll C D) K):=by
 let nd:=JS.nd;let Zd:SJ [("part":Str)]:=`c
 refine gU F JS hm hb (λqs T ⟨_,e,_⟩=>by rw[e];rfl) (λXU A outer st H E qs T hr hS=>?_);let⟨s,rfl,hG,rfl⟩:=hS;let hu:=ru hr;let hl:=hG.l;let⟨hll,Y5⟩:=hG.li;let Yb:=hG.pl;refine ai (pG 1 ?_);let hst:((s.parts.map og).filter λ_=>true).map AJ=s.parts.map (·.2.1):=by rw[SQ.mpr λ_ _=>rfl,Ta];rfl
 refine ai (mM 2 (own:=["part"]) (fr:=[]) (ix:=[]) (ra:=av) (rb:=ag) (p:=λ_=>true) (f:=AJ) (bH (so:=ao Gh) (N0:=Ph) rfl rfl `R `b) (bI (jq (C:=C) HD `e))
  `G `W `ak (λC' s H ex o ho _=>by
   let⟨p,_,rfl⟩:=Sv.mp ho;exact EV.iP (n:=p.2.1) (dz `e ev_int rfl)) ?_)
 rw[hst];refine bD (N1:=λZ=>∃fd e3,Z=[.im (cV C D) s,.di (dT fd),.mu ag [],e3]/\Reach s fd) (jA (λm Z=>∃fd wt e3,Z=[.im (cV C D) s,.di (dT fd),.mu ag wt,e3]/\CtI s fd wt/\3*(s.S.length-fd.length)+wt.length=m/\m<=1000) (m0:=3*s.S.length+s.parts.length) ⟨[],s.parts.map (·.2.1),.no,rfl,⟨TR,(λn h=>by cases h),(λn h=>?_),(λp hp=>.inr (Sv.mpr ⟨p,hp,rfl⟩)),(λn h=>by cases h)⟩,by rw[R9];rfl,`a⟩ (λm Z hI=>?_)) ?_
 ·let⟨p,hp,rfl⟩:=Sv.mp h;exact hG.pv p hp
 ·let⟨fd,wt,e3,rfl,hC,hmm,hm1⟩:=hI;let fl:=tF s.S.length fd hC.nd hC.fv;refine⟨!wt.isEmpty,_,mX 2 rfl,λh=>?_,λh=>?_⟩
  ·let X3:wt≠[]:=λz=>by rw[z] at h;cases h
   obtain⟨wi,n,rfl⟩:∃l x,wt=l++[x]:=⟨wt.dropLast,wt.getLast X3,(S5 X3).symm⟩;rw[Sd,SN] at hmm;let⟨n0,n1⟩:=hC.wv n (Sk _ (Sa.mpr rfl));refine ai (bc 3 (y:=n) (wH 2 rfl `d) ?_);rw[show(wi++[n]).dropLast=wi by simp];refine aj (a9 (Jq 1 true hu `p rfl) (λh=>?_) `J)
   ·let hnf:n∉fd:=by rw[XG rfl,oE] at h;simpa using h
    let Yw:bX s.Ld n∣(s.Ld.getD n.toNat []):=a7 (xs:=s.Ld) (i:=n) [] n0 `a;let ZM:s.Ld.getD n.toNat []∈s.Ld:=by
     rw[R8,R7 (show n.toNat<s.Ld.length by cbv)];exact SO _
    let h2:=hG.l2 _ ZM;let hls:=Y5 _ ZM;let fl2:=tF s.S.length (fd++[n]) (iW hC.nd hnf) λx hx=>by
     obtain z | z:=Sl.mp hx
     ·exact hC.fv x z
     ·rw[Sa.mp z];exact⟨n0,n1⟩
    rw[Sd,SN] at fl2;refine ai (Dp 1 hu `p AQ rfl (by rw[oE];exact XM hnf) (by unfold dT;rw[R9];exact Uz (show _<=1000 by cbv) `c) ?_);let e:dT fd++[(n,V.bl true)]=dT (fd++[n]):=by unfold dT;rw[So];rfl
    rw[e];refine aj (DD 2 (aK (NN (C:=C) HD `e) `p Yw) rfl rfl (aL `a) ⟨3*(s.S.length-(fd++[n]).length)+(wi++s.Ld.getD n.toNat []).length,by rw[Sd,Sd,SN];cbv,fd++[n],wi++s.Ld.getD n.toNat [],aA n,rfl,⟨iW hC.nd hnf,λx hx=>?_,λx hx=>?_,λp hp=>?_,λx hx l Zj=>?_⟩,rfl,by rw[Sd,Sd,SN];cbv⟩)
    ·obtain z | z:=Sl.mp hx
     ·exact hC.fv x z
     ·rw[Sa.mp z];exact⟨n0,n1⟩
    ·obtain z | z:=Sl.mp hx
     ·exact hC.wv x (Sn _ z)
     ·exact hls x z
    ·obtain z | z:=hC.st p hp
     ·exact .inl (Sn _ z)
     ·obtain z | z:=Sl.mp z
      ·exact .inr (Sn _ z)
      ·exact .inl (Sk _ z)
    ·obtain z | z:=Sl.mp hx
     ·obtain q | q:=hC.cl x z l Zj
      ·exact .inl (Sn _ q)
      ·obtain q | q:=Sl.mp q
       ·exact .inr (Sn _ q)
       ·exact .inl (Sk _ q)
     ·rw[Sa.mp z] at Zj;exact .inr (Sk _ Zj)
   ·let hnf:n∈fd:=by rw[XG rfl,oE] at h;simpa using h
    refine⟨3*(s.S.length-fd.length)+wi.length,`a,fd,wi,aA n,rfl,⟨hC.nd,hC.fv,λx hx=>hC.wv x (Sn _ hx),λp hp=>?_,λx hx l Zj=>?_⟩,rfl,`a⟩
    ·obtain z | z:=hC.st p hp
     ·exact .inl z
     ·obtain z | z:=Sl.mp z
      ·exact .inr z
      ·rw[Sa.mp z];exact .inl hnf
    ·obtain q | q:=hC.cl x hx l Zj
     ·exact .inl q
     ·obtain q | q:=Sl.mp q
      ·exact .inr q
      ·rw[Sa.mp q];exact .inl hnf
  ·let hwt:wt=[]:=by cases wt with
    | nil=>rfl
    | cons _ _=>cases h
   subst hwt;exact⟨fd,e3,rfl,λp hp=>(hC.st p hp).resolve_right `d,λn hn l Zj=>(hC.cl n hn l Zj).resolve_right `d⟩
 rintro _ ⟨fd,e3,rfl,hR⟩;exact aj (LA 1 rfl ⟨fd,rfl,hR⟩)
abbrev Dg:Stmt:=top uf
abbrev Lq:Rx:=["spots","known","lost"]
theorem Kf:bF Lq ["spots"] (ao Dg):=Y6
theorem Nh (M:`ba)(M2:lX K mg)(HC:bM K C jg)(HD:bM K D gH)(CT:aE P w K mg base "come_to" 1 (aR (Ll C D) K))(F:dO K "not_come_to" "not_come_to" Dg f fd)(hm:mg "not_come_to"∣.ref f)(hb:Binds K fd ["spots"] []):aE P w K mg base "not_come_to" 2 `av:=by
 let nd:=Kf.nd;let Zd:SJ [("number":Str),"step","known"]:=`c
 let ZZ:SJ [("step":Str)]:=`c
 refine gU (k:=1) F Kf hm hb (λqs T ⟨_,e,_⟩=>by rw[e];rfl) (λXU A outer st H E qs T hr hS=>?_);let⟨s,rfl,hG,rfl⟩:=hS;let hu:=ru hr;let hl:=hG.l;refine ai (Ao 1 CT hr `bd ⟨s,rfl,hG,rfl⟩ ?_);rintro _ ⟨fd,rfl,hR⟩;change WS _ _ [.im (cV C D) s,.im nF (dT fd),.no] _ _;refine ai (mM 2 (own:=["number","step"]) (fr:=["known"]) (ix:=[1]) (ra:=cQ ag (bL C)) (rb:=bL C) (p:=λz=> !jk (dT fd) z.1) (f:=λz=>z.2) (bH (so:=ao Dg) (N0:=Lq) rfl rfl `R `b) (iQ M.enumerate (AA (C:=C) HD `e))
  (λC s H ex=>eL 0 1) (λx=>⟨.inr rfl,.inr rfl,.inl rfl,trivial⟩) (λC' s H ex z hz=>ic (Aa hu `e `r)) (λC' s H ex z hz _=>aa 1 rfl) ?_)
 let lz:(((nums s.S).filter λz=> !jk (dT fd) z.1).map λz=>z.2).length<=240:=by
  rw[R9];refine Ux (Tv _ _) ?_;rw[cK];exact hl
 refine WS.freeze 2 rfl (aL `a) ?_;refine aj (aX (ba.im (bW (own:=["step"]) (fr:=[]) (ix:=[]) (ra:=bL C) (rb:=ag) (p:=λt=>decide (t.kind∈Yg)) (f:=λt=>t.word) (bH (so:=ao Dg) (N0:=Lq) rfl rfl `R `b) (bI `r)
  `G `W (λC' s H ex t ht=>ic (ay lR (iu (C:=C) HC `e) (iK M2.Yg))) (λC' s H ex t ht _=>Oe (C:=C) HC `e))) ?_)
 refine j7 λt ht=>?_;let⟨z,hz,rfl⟩:=Sv.mp ht;let⟨hz,hp⟩:=SV.mp hz;let⟨n,nl,e1,e2⟩:=pP hz;refine XM λhk=>?_;have:=hG.ct fd hR n nl (by unfold aU;rw[show((n:Nat):Int).toNat=n by cbv,e2];exact hk);rw[oE,e1,XJ this] at hp;cases hp
abbrev GN:Stmt:=top vo
abbrev Lz:Rx:=["spots","called"]
theorem Nt (M:`ba)(HC:bM K C jg)(HD:bM K D gH)(CN:`aH)(Df:Def K mg "not_called" GN ["spots"]):aE P w K mg base "not_called" 2 `av:=by
 let Zd:SJ [("step":Str)]:=`c
 let ZZ:SJ [("part":Str),"called"]:=`c
 refine bP (N:=Lz) (k:=1) Df `z;let⟨s,rfl,hG,rfl⟩:=hS;refine ai (bc 1 (ba.im (bW (own:=["step"]) (fr:=[]) (ix:=[]) (ra:=bL C) (rb:=aq) (p:=λt=>decide (t.kind="call")) (f:=λt=>t.name) (bH (so:=ao GN) (N0:=Lz) rfl rfl `R `b) (bI (AA (C:=C) HD `e))
  `G `W (λC' s H ex t ht=>ic (ay cu (iu (C:=C) HC `e) aB)) (λC' s H ex t ht _=>rN (C:=C) HC `e))) ?_)
 generalize hcl:(s.S.filter λt=>decide (t.kind=("call":Str))).map (λt=>t.name)=cs;refine aj (aX (y:=([]:Rv)) (aJ CN hr (ah `e (ah (x:=([]:List PV)) (EV.cast (ba.im (bW (own:=["part"]) (fr:=["called"]) (ix:=[1]) (ra:=av) (rb:=av) (xs:=cut (s.parts.map og) (some 1) none) (p:=λz=> !decide (vN z∈cs)) (f:=λz=>z) (bH (so:=ao GN) (N0:=Lz) rfl rfl `R `b) (bI (ba.im (jR (jq (C:=C) HD `e) (ov_some ev_int) ov_none)))
  `G `O (λC' s H ex z hz=>?_) (λC' s H ex z hz _=>aa 0 rfl))) ?_) ax)) ⟨s,rfl,rfl⟩) rfl)
 ·rw[show((1:Int))=((1:Nat):Int) from rfl,oN,← Ut] at hz;let⟨p,_,rfl⟩:=Sv.mp hz;exact ic (ay Di (EV.sP (x:=p.1) (dz `e ev_int rfl)) `g)
 ·refine j7 λz hz=>?_;rw[show((1:Int))=((1:Nat):Int) from rfl,oN,← Ut] at hz;let⟨p,hp,rfl⟩:=Sv.mp hz;let⟨t,ht,hk,hn⟩:=hG.nc p hp;rw[DY,XJ (show p.1∈cs from by rw[← hcl];exact Sv.mpr ⟨t,SV.mpr ⟨ht,XJ hk⟩,hn⟩)];rfl
noncomputable def uj (ts:`U)(k bh lp:Int):Int:=match ts with
 | []=>bh
 | .leave::_=>lp
 | .back::_=> -1
 | _::_=>k
mutual
noncomputable def gm:Th->Int->Int->Int->List je
 | .Yh x,k,af,lp=>[("do",x,k,af, -1)]
 | .call j,k,af,lp=>[("call","",k,af,j)]
 | .ifs x A B,k,af,lp=>([(("yes":Str),x,k,uj A (k+1) af lp, -1),(("no":Str),x,k,uj B (aT A (k+1)).2 af lp, -1)]:List je)++(jP A (k+1) af lp++jP B (aT A (k+1)).2 af lp)
 | .X1 x A,k,af,lp=>([(("yes":Str),x,k,uj A (k+1) k af, -1),(("no":Str),x,k,af, -1)]:List je)++jP A (k+1) k af
 | .leave,_,_,_=>[]
 | .back,_,_,_=>[]
noncomputable def jP:List Th->Int->Int->Int->List je
 | [],_,_,_=>[]
 | t::ts,k,bh,lp=>gm t k (uj ts (bu t k).2 bh lp) lp++jP ts (bu t k).2 bh lp
end
noncomputable def zP (lp:Bool)(l:Int):PV:=if lp=true then .int l else .X4
variable {l:Int}
theorem vA :∀{ts:`U}(k bh:Int),bJ lo m lp ts->lK ts k (.int bh) (zP lp l)= .int (uj ts k bh l)
 | [],k,bh,_=>rfl
 | .leave::ts,k,bh,h=>by
   simp only[bJ,bZ] at h;show zP lp l= .int l;rw[zP,XG h.1]
 | .back::ts,k,bh,_=>rfl
 | .Yh _::ts,k,bh,_=>rfl
 | .call _::ts,k,bh,_=>rfl
 | .ifs _ _ _::ts,k,bh,_=>rfl
 | .X1 _ _::ts,k,bh,_=>rfl
mutual
theorem JG {lo m:Int}:∀(t:Th){lp:Bool}(l k af:Int),bZ lo m lp t->fk t k (.int af) (zP lp l)=(gm t k af l).map f9
 | .Yh x,lp,l,k,af,_=>by rw[fk,gm];rfl
 | .call j,lp,l,k,af,_=>by rw[fk,gm];rfl
 | .leave,lp,l,k,af,_=>by rw[fk,gm];rfl
 | .back,lp,l,k,af,_=>by rw[fk,gm];rfl
 | .ifs x A B,lp,l,k,af,h=>by
   simp only[bZ] at h;rw[fk,gm,vA (k+1) af h.2.1,vA _ af h.2.2,oA A l (k+1) af h.2.1,oA B l _ af h.2.2,So,So];rfl
 | .X1 x A,lp,l,k,af,h=>by
   simp only[bZ] at h;let e:(PV.int af)=zP true af:=rfl;rw[fk,gm,e,vA (k+1) k h.2,oA A af (k+1) k h.2,So];rfl
theorem oA {lo m:Int}:∀(ts:`U){lp:Bool}(l k bh:Int),bJ lo m lp ts->fu ts k (.int bh) (zP lp l)=(jP ts k bh l).map f9
 | [],lp,l,k,bh,_=>by rw[fu,jP];rfl
 | t::ts,lp,l,k,bh,h=>by
   simp only[bJ] at h;rw[fu,jP,vA _ bh h.2.2,JG t l k _ h.1,oA ts l _ bh h.2.2,So]
end
structure kK (mg:Rt):Prop where
 beg:∃t,mg "BEGIN"∣.int 0 t
 end_:∃t,mg "END"∣.int 1 t
 parts:∃t,mg "MOST_PARTS"∣.int 4 t
 places:∃t,mg "MOST_PLACES"∣.int 16 t
 rows:∃t,mg "MOST_PROGRAM_ROWS"∣.int 30 t
theorem we (i j:Nat){z:Str}{p2 ap:Pos}{s:iV}{k y:Int}(hD:bM X.K D gH)(hΓ:Z[i]?∣(.im (cV C D) s))(hj:Z[j]?∣aA k)(hk:bX s.St k∣y)(hN:`o)(hN':autoParam (At X j z) cb)(hb:fh X `h "stands":=by rfl)(hsx:dP (.Name z p2):=by exact λ_ _=>rfl):sM X (.Subscript (.Attribute `h "stands" ap) (.Name z p2) pos) Z y:=λσ H0 R0 H R E H' Q sR q=>by
 let⟨v,ea,xx,dx,vs,rfl,h1,h2⟩:=E.ent i _ hΓ;let⟨u,q1,q2⟩:=h2.get (f:="stands") rfl;let⟨b,ws,rfl,Y0,pp,hz⟩:=(show(ae ag).R X.K R u s.St from q2);let⟨v0,e0,Zh⟩:=E.ent j _ hj;cases Zh
 let⟨w,e3,e4⟩:=jf pp hk;cases e4
 exact eS (iy gT (vY (aV hN) hb) (aV hN') hsx) ⟨.ref xx,at_of ea,xx,D,dx,vs,.ref b,rfl,sR _ _ h1,hD.cl,hD.no _ (d6 `c),q1,.int k,at_of e0,b,ws,k,.int y,rfl,rfl,bw.of (sR _ _ Y0),e3,q⟩
abbrev KP:Stmt:=top qm
noncomputable def QB:PV->Int
 | .tup (_::_:: .int n::_)=>n
 | _=>0
theorem N4 (HD:bM K D gH)(CN:`aH)(Df:Def K mg "ended_at_begin" KP ["spots"]):aE P w K mg base "ended_at_begin" 2 `av:=by
 let Zd:SJ [("part":Str),"spots"]:=`c
 refine bP (N:=["spots"]) (k:=1) Df `z;let⟨s,rfl,hG,rfl⟩:=hS;refine aj (aX (y:=([]:Rv)) (aJ CN hr (ah `e (ah (x:=([]:List PV)) (EV.cast (ba.im (bW (own:=["part"]) (fr:=["spots"]) (ix:=[0]) (ra:=av) (rb:=av) (p:=λz=>decide (s.St.getD (AJ z).toNat 0=QB z)) (f:=λz=>z) (bH (so:=ao KP) (N0:=["spots"]) rfl rfl `R `b) (bI (jq (C:=C) HD `e))
  `G `O (λC' s' H ex z hz=>?_) (λC' s H ex z hz _=>aa 0 rfl))) ?_) ax)) ⟨s,rfl,rfl⟩) rfl)
 ·let⟨p,hp,rfl⟩:=Sv.mp hz;let⟨p0,p1⟩:=hG.pv p hp;exact ic (ay gi (aK (Ny (C:=C) HD `g) (EV.iP (n:=p.2.1) (dz `e ev_int rfl)) (a7 (xs:=s.St) (i:=p.2.1) 0 p0 (by rw[hG.sl];exact p1))) (EV.iP (n:=p.2.2) (dz `e ev_int rfl)))
 ·refine j7 λz hz=>?_;let⟨p,hp,rfl⟩:=Sv.mp hz;exact XM (hG.eb p hp)
abbrev Lx:Stmt:=top ua
theorem Od (M3:kK mg)(HD:bM K D gH)(Df:Def K mg "rows_beyond" Lx ["spots"]):aE P w K mg base "rows_beyond" 1 `av:=by
 let Zd:SJ [("row":Str),"spots"]:=`c
 refine bP (N:=["spots"]) Df `z;let⟨s,rfl,hG,rfl⟩:=hS;let⟨t,ht⟩:=M3.rows;let hc:cut (s.rows.map j5) (some 30) none=[]:=by
  rw[show((30:Int))=((30:Nat):Int) from rfl,oN,← Ut,TK hG.rl];rfl
 exact aj (aX (ba.im (bW (own:=["row"]) (fr:=["spots"]) (ix:=[0]) (ra:=av) (rb:=ag) (xs:=[]) (p:=λ_=>true) (f:=λ_=>0) (bH (so:=ao Lx) (N0:=["spots"]) rfl rfl `R `b) (bI (EV.cast (ba.im (jR (vC (C:=C) HD `e) (ov_some (fT ht)) ov_none)) hc))
  `G `O `ak (λC' s H ex o ho _=>by cases ho))) rfl)
abbrev Qw:Stmt:=top sX
theorem Oq (M3:kK mg)(HD:bM K D gH)(CN:`aH)(Df:Def K mg "parts_beyond" Qw ["spots"]):aE P w K mg base "parts_beyond" 2 `av:=by
 refine bP (N:=["spots"]) (k:=1) Df `z;let⟨s,rfl,hG,rfl⟩:=hS;let⟨t,ht⟩:=M3.parts;let hc:cut (s.parts.map og) (some 4) none=[]:=by
  rw[show((4:Int))=((4:Nat):Int) from rfl,oN,← Ut,TK hG.pl];rfl
 exact aj (aX (y:=([]:Rv)) (aJ CN hr (ah `e (ah (x:=([]:List PV)) (EV.cast (ba.im (jR (jq (C:=C) HD `e) (ov_some (fT ht)) ov_none)) hc) ax)) ⟨s,rfl,rfl⟩) rfl)
abbrev J0:Stmt:=top xG
abbrev QT:Rx:=["spots","part","first","last","told","row","step"]
def Fs (C D:Addr):dh:=λK ps T=>∃(s:iV)(i:Nat)(p:hV),ps=[⟨cV C D,s⟩,⟨ag,(i:Int)⟩]/\Good s/\s.parts[i]?∣p/\T=cR K jw (· =cL s p)
theorem pC (F:RF)(k:Int):(cU F k).length<=F.length+1:=by
 unfold cU;split
 ·cbv
 ·rw[Sd];simp
theorem Iz (p:hV)(F:RF)(r:Rw):(eh p F r).length<=F.length+2:=by
 unfold eh;split
 ·exact Ux (pC _ _) (by have:=pC F r.1;cbv)
 ·cbv
theorem Me (p:hV)(F:RF)(rs:List Rw):(rs.foldl (eh p) F).length<=F.length+2*rs.length:=by
 induction rs generalizing F with
 | nil=>exact Uw _
 | cons r rs ih=>
   rw[S9,Si];have:=ih (eh p F r);have:=Iz p F r;cbv
theorem KW (M:`ba)(M3:kK mg)(HD:bM K D gH)(Df:Def K mg "places_in" J0 ["spots","part"]):aE P w K mg base "places_in" 1 (aR (Fs C D) K):=by
 refine bP (N:=QT) Df `z;let⟨s,i,p,rfl,hG,hp,rfl⟩:=hS;let⟨t1,hbg⟩:=M3.beg;let⟨t2,hen⟩:=M3.end_;let pm:=Sg hp;let il:=(R6.mp hp).1;let⟨p0,p1⟩:=hG.pv p pm;let hrl:=hG.rl;let Yw:bX (s.parts.map og) (i:Int)∣og p:=by
  rw[gb `a (by rw[R9];cbv),show((i:Nat):Int).toNat=i by cbv,Sf,hp];rfl
 refine ai (bc 2 (y:=p.2.1) (EV.iP (dz (xs:=[.str p.1,.int p.2.1,.int p.2.2]) (aK (jq (C:=C) HD `e) `g Yw) ev_int rfl)) ?_);refine ai (bc 3 (y:=p.2.2) (EV.iP (dz (xs:=[.str p.1,.int p.2.1,.int p.2.2]) (aK (jq (C:=C) HD `e) `g Yw) ev_int rfl)) ?_);refine ai (IP 4 (v:=0) (u:=1) (we (C:=C) 0 2 HD rfl rfl (a7 (xs:=s.St) (i:=p.2.1) 0 p0 (by rw[hG.sl];exact p1))) (yE 3 rfl) (jI rfl hbg ⟨t1,rfl⟩) (jI rfl hen ⟨t2,rfl⟩) (hG.eb p pm) ?_);generalize hF0:[(s.St.getD p.2.1.toNat 0,(0:Int)),(p.2.2,1)]=F0;let Yb:cL s p=s.rows.foldl (eh p) F0:=by unfold cL;rw[hF0]
 let f0l:F0.length=2:=by rw[← hF0];rfl
 rw[Yb];refine bD (N1:=λZ=>∃e5 e6,Z=[.im (cV C D) s,aA (i:Int),aA p.2.1,aA p.2.2,.di (cH (s.rows.foldl (eh p) F0)),e5,e6]) (bO (λj Z=>∃e5 e6,Z=[.im (cV C D) s,aA (i:Int),aA p.2.1,aA p.2.2,.di (cH ((s.rows.take j).foldl (eh p) F0)),e5,e6]) (bI (vC (C:=C) HD `e)) (aW 5) ⟨_,_,rfl⟩ (λj z Z hz hΓ=>?_) `X) ?_
 ·let⟨e5,e6,rfl⟩:=hΓ;rw[Sf] at hz;let⟨r,YW,rfl⟩:=UU.mp hz;let jl:=(R6.mp YW).1;let fl:=Me p F0 (s.rows.take j);let tl:(s.rows.take j).length<=30:=by rw[Sx];cbv
  let Y4:(s.rows.take (j+1)).foldl (eh p) F0=eh p ((s.rows.take j).foldl (eh p) F0) r:=by rw[SS,YW,Tg];rfl
  rw[Y4];generalize (s.rows.take j).foldl (eh p) F0=Fj at fl;let fj:Fj.length<=62:=`a
  change WS _ _ [.im (cV C D) s,aA (i:Int),aA p.2.1,aA p.2.2,.di (cH Fj),.im av (j5 r),e6] _ _;refine aj (a9 (EE nO nO `r (EV.iP (n:=r.1) (dz `ai ev_int rfl)) `p) (λh=>?_) (λh=>aG ⟨.im av (j5 r),e6,?_⟩))
  ·let Y5:ip p r=true:=h;let hcut:cut [PV.int r.1,.int r.2.1,.str r.2.2.1,.str r.2.2.2] none (some 2)=[.int r.1,.int r.2.1]:=rfl;let g:eh p Fj r=cU (cU Fj r.1) r.2.1:=XG Y5;rw[g];let l1:=pC Fj r.1;refine aj (bO (r:=av) (xs:=[.int r.1,.int r.2.1]) (λq Z=>∃e6,Z=[.im (cV C D) s,aA (i:Int),aA p.2.1,aA p.2.2,.di (cH (([r.1,r.2.1].take q).foldl cU Fj)),.im av (j5 r),e6]) (Ja (by show 2<=U9;decide) (EV.cast (JB `ai ov_none (ov_some ev_int)) (congrArg PV.tup hcut))) (aW 6) ⟨_,rfl⟩ (λq y Z hy hΓ=>?_) `X)
   ·let⟨e6,rfl⟩:=hΓ;obtain⟨n,hn,rfl⟩:∃n,[r.1,r.2.1][q]?∣n/\PV.int n=y:=by
     have:([r.1,r.2.1].map PV.int)[q]?∣y:=hy;rw[Sf] at this;exact UU.mp this
    let hnq:([r.1,r.2.1].take (q+1)).foldl cU Fj=cU (([r.1,r.2.1].take q).foldl cU Fj) n:=by rw[SS,hn,Tg];rfl
    rw[hnq];let hql:(([r.1,r.2.1].take q).foldl cU Fj).length<=64:=by
     let key:∀(ks:Rv)(G:RF),(ks.foldl cU G).length<=G.length+ks.length:=by
      intro ks
      induction ks with
      | nil=>intro G;exact Uw _
      | cons k ks ih=>intro G;rw[S9,Si];have:=ih (cU G k);have:=pC G k;cbv
     have:=key ([r.1,r.2.1].take q) Fj;have:([r.1,r.2.1].take q).length<=2:=by rw[Sx];exact UO _ _
     cbv
    generalize ([r.1,r.2.1].take q).foldl cU Fj=G at hql;change WS _ _ [.im (cV C D) s,aA (i:Int),aA p.2.1,aA p.2.2,.di (cH G),.im av (j5 r),.im av (.int n)] _ _;refine aj (LY 4 (k:=n) (EV.iP `an) (n8 4 M.len rfl) rfl (Uz hql `c) ⟨.im av (.int n),?_⟩);unfold cU;rfl
   ·let⟨e6,rfl⟩:=hΓ;exact⟨.im av (j5 r),e6,rfl⟩
  ·let Y5:¬ip p r=true:=by
    rw[show ip p r=false from h];decide
   rw[show eh p Fj r=Fj from XF Y5]
 ·let⟨e5,e6,rfl⟩:=hΓ;refine⟨e5,e6,?_⟩;rw[R9,SW]
 rintro _ ⟨e5,e6,rfl⟩;exact aj (yY 4 rfl rfl)
noncomputable def A6:PV->Int
 | .tup (.int n::_)=>n
 | _=>0
abbrev Cj:Stmt:=top qI
abbrev KD:Rx:=["spots","known","lost","found","number","part","whole"]
theorem J8:bF KD ["spots"] (ao Cj):=Y6
theorem Ob (M:`ba)(M3:kK mg)(HD:bM K D gH)(CN:`aH)(CT:aE P w K mg base "come_to" 1 (aR (Ll C D) K))(CP:aE P w K mg base "places_in" 1 (aR (Fs C D) K))(F:dO K "places_beyond" "places_beyond" Cj f fd)(hm:mg "places_beyond"∣.ref f)(hb:Binds K fd ["spots"] []):aE P w K mg base "places_beyond" 2 `av:=by
 let nd:=J8.nd;let Zd:SJ [("row":Str),"known"]:=`c
 let ZZ:SJ [("row":Str),"part"]:=`c
 refine gU (k:=1) F J8 hm hb (λqs T ⟨_,e,_⟩=>by rw[e];rfl) (λXU A outer st H E qs T hr hS=>?_);let⟨s,rfl,hG,rfl⟩:=hS;let⟨t,hmp⟩:=M3.places;let hu:=ru hr;refine ai (Ao 1 CT hr `bd ⟨s,rfl,hG,rfl⟩ ?_);rintro _ ⟨fd,rfl,hR⟩;let hlost:(((s.rows.map j5).filter λz=> !jk (dT fd) (A6 z)).map A6)=[]:=j7 λz hz=>by
  let⟨r,YW,rfl⟩:=Sv.mp hz;let⟨⟨r0,r1⟩,rk⟩:=hG.rk r YW;have:=hG.ct fd hR r.1.toNat `a (by rw[show((r.1.toNat:Nat):Int)=r.1 by cbv];exact rk);rw[show((r.1.toNat:Nat):Int)=r.1 by cbv] at this;show(!jk (dT fd) r.1)=false;rw[oE,XJ this];rfl
 refine ai (mM 2 (own:=["row"]) (fr:=["known"]) (ix:=[1]) (ra:=av) (rb:=ag) (p:=λz=> !jk (dT fd) (A6 z)) (f:=A6) (bH (so:=ao Cj) (N0:=KD) rfl rfl `R `b) (bI (vC (C:=C) HD `e))
  `G `O (λC' s H ex z hz=>by
   let⟨r,_,rfl⟩:=Sv.mp hz;exact ic (Aa hu (EV.iP (n:=r.1) (dz `e ev_int rfl)) `g)) (λC' s H ex z hz _=>by
   let⟨r,_,rfl⟩:=Sv.mp hz;exact EV.iP (n:=r.1) (dz `e ev_int rfl)) ?_)
 rw[hlost];refine WS.freeze 2 rfl (Uy _) ?_;refine ai (cD 3 (r:=av) (ys:=[]) `az ?_);refine bD (N1:=λZ=>∃e4 e5 e6,Z=[.im (cV C D) s,.im nF (dT fd),c8 [],.mu av [],e4,e5,e6]) (bO (λi Z=>∃e4 e5 e6,Z=[.im (cV C D) s,.im nF (dT fd),c8 [],.mu av [],e4,e5,e6]) (iQ M.enumerate (jq (C:=C) HD `e)) (eL 4 5) ⟨_,_,_,rfl⟩ (λi z Z hz hΓ=>?_) (λZ hΓ=>hΓ)) ?_
 ·let⟨e4,e5,e6,rfl⟩:=hΓ;let⟨e1,e2⟩:=fw hz;rw[Sf] at e2;let⟨p,hp,ep⟩:=UU.mp e2;let⟨zn,zp⟩:=z;dsimp only at e1 ep;subst ep;subst e1;refine ai (bc 6 (y:=true) (EV.cast (wu (KJ M.any (ba.im (bW (own:=["row"]) (fr:=["part"]) (ix:=[5]) (ra:=ag) (rb:=dc) (p:=λ_=>true) (f:=λ_=>true) (bH (so:=ao Cj) (N0:=KD) rfl rfl `R `b) (bI `r)
   `G `O `ak (λC' s H ex o ho _=>by cases ho))))) rfl) ?_)
  refine aj (a9 (TW.tv (cZ (bV `an) (λ_=>eK (ay iL (qL M.len (aJ CP hr (ah `e (ah `T ax)) ⟨s,i,p,rfl,hG,hp,rfl⟩)) (fT hmp))))) (λh=>?_) (λh=>aG ⟨_,_,_,rfl⟩));exfalso;have:=hG.pc p (Sg hp);rw[XM (show¬(16:Int)<((cL s p).length:Int) by cbv)] at h;cases h
 rintro _ ⟨e4,e5,e6,rfl⟩;refine WS.freeze 3 rfl (Uy _) ?_;exact aj (aX (y:=([]:Rv)) (aJ CN hr (ah `e (ah `p ax)) ⟨s,rfl,rfl⟩) rfl)
abbrev Ql:Stmt:=top vp
abbrev nHI:Rx:=["spots","found"]
theorem Nm (NA:aE P w K mg base "named_again" 2 `av)(CA:aE P w K mg base "called_astray" 1 `av)(NC:aE P w K mg base "not_come_to" 2 `av)(NL:aE P w K mg base "not_called" 2 `av)(EB:aE P w K mg base "ended_at_begin" 2 `av)(RB:aE P w K mg base "rows_beyond" 1 `av)(PY:aE P w K mg base "places_beyond" 2 `av)(PB:aE P w K mg base "parts_beyond" 2 `av)(Df:Def K mg "hindrances" Ql ["spots"]):aE P w K mg base "hindrances" 3 `av:=by
 let CA:=CA.mono (show 1<=2 by decide);let RB:=RB.mono (show 1<=2 by decide);refine bP (N:=nHI) (k:=2) Df `z;let⟨s,rfl,hG,rfl⟩:=hS;let z:(([]:Rv)).length+(([]:Rv)).length<=U9:=Uy _;refine ai (bc 1 (y:=([]:Rv)) (ba.im (cJ (xs:=[]) (ys:=[]) (ba.im (cJ (xs:=[]) (ys:=[]) (ba.im (cJ (xs:=[]) (ys:=[]) (aJ NA hr `bd ⟨s,rfl,hG,rfl⟩) (aJ CA hr `bd ⟨s,rfl,hG,rfl⟩) z)) (aJ NC hr `bd ⟨s,rfl,hG,rfl⟩) z)) (aJ NL hr `bd ⟨s,rfl,hG,rfl⟩) z)) ?_);exact aj (aX (y:=([]:Rv)) (ba.im (cJ (xs:=[]) (ys:=[]) (ba.im (cJ (xs:=[]) (ys:=[]) (ba.im (cJ (xs:=[]) (ys:=[]) (ba.im (cJ (xs:=[]) (ys:=[]) `g (aJ EB hr `bd ⟨s,rfl,hG,rfl⟩) z)) (aJ RB hr `bd ⟨s,rfl,hG,rfl⟩) z)) (aJ PY hr `bd ⟨s,rfl,hG,rfl⟩) z)) (aJ PB hr `bd ⟨s,rfl,hG,rfl⟩) z)) rfl)
abbrev O4:Stmt:=top sN
abbrev nNP:Rx:=["text","spots","found"]
def O6 (C D:Addr):dh:=λK ps T=>∃(x:Str)(S:`N)(Ld:List Rv),ps=[⟨aq,x⟩]/\uc x S/\rj S Ld/\Good (Yc S Ld)/\T=cR K (cV C D) (· =Yc S Ld)
theorem OR (G:xh P w K mg base C D)(CH:aE P w K mg base "hindrances" 3 `av)(Df:Def K mg "need_program" O4 ["text"]):aE P w K mg base "need_program" 6 (aR (O6 C D) K):=by
 let CH:=CH.mono (show 3<=5 by decide);refine bP (N:=nNP) (k:=5) Df `z;let⟨x,S,Ld,rfl,hx,hk,hG,rfl⟩:=hS;refine ai (bc 1 (y:=Yc S Ld) (Fy G hr `bd hx hk) ?_);refine ai (bc 2 (y:=([]:Rv)) (aJ CH hr (ah `g ax) ⟨Yc S Ld,rfl,hG,rfl⟩) ?_);refine ai (a9 (xM `r) (λh=>by cases h) (λ_=>aG ?_));exact aj (aX `g rfl)
section
variable {a b:Int}{l:Rv}
def Pure:Prop:=∀(XN:Rx)(Ls:`F),cj XN Ls->∃Ld,rj `i Ld/\Good (Yc `i Ld)
theorem HN (h:`aI):uc (W7 " " (kq XN Ls)) `i:=by
 let⟨pl,po⟩:=v5 h;refine⟨kq XN Ls,_,rfl,λe=>?_,pl,po,uS h⟩;have:=h.l1;let hl:=h.l;cases XN with
 | nil=>rw[SH] at hl;cbv
 | cons x XN=>cases Ls with
   | nil=>exact XE h.l1 `d
   | cons L Ls=>
     unfold kq at e;rw[List.zip_cons_cons,Te] at e;unfold gw at e;simp at e
def cG (S:`u)(a:Nat)(vs:`u):Prop:=∀(i:Nat)(v:α),vs[i]?∣v->S[a+i]?∣v
theorem cG.app {S:`u}{w:Nat}{a b:`u}(h:cG S w (a++b)):cG S w a/\cG S (w+a.length) b:=by
 refine⟨λi v hv=>h i v ?_,λi v hv=>?_⟩
 ·rw[SD (R6.mp hv).1];exact hv
 ·have:=h (a.length+i) v (by rw[SG `a,show a.length+i-a.length=i by cbv];exact hv);rw[show w+a.length+i=w+(a.length+i) by cbv];exact this
theorem cG.self (S:`u):cG S 0 S:=λi v hv=>by rw[UE];exact hv
theorem cG.d {α:Type}{S:`u}{a:Nat}{vs:`u}(h:cG S a vs){i:Nat}{v:α}(hv:vs[i]?∣v)(d:α):S.getD (a+i) d=v/\a+i<S.length:=by
 have:=h i v hv;exact⟨by rw[R8,this];rfl,(R6.mp this).1⟩
theorem cG.k {a:Nat}{vs:`N}(h:cG S a vs){v:aH}(hv:vs[i]?∣v):aU S ((a+i:Nat):Int)=v.kind/\cN S ((a+i:Nat):Int)=v.within/\a+i<S.length:=by
 let⟨e,l⟩:=h.d hv dC;unfold aU;rw[show(((a+i:Nat)):Int).toNat=a+i by cbv,e];refine⟨rfl,?_,l⟩;show(S.getD (((a+i:Nat)):Int).toNat dC).within=_;rw[show(((a+i:Nat)):Int).toNat=a+i by cbv,e]
noncomputable def cw (S:`N):Rv:=(S.filter λt=>decide (t.kind∈XW)).map (·.within)
theorem ie (a b:`N):cw (a++b)=cw a++cw b:=by unfold cw;rw[SU,So]
theorem nN (h:s.kind∉XW):cw [s]=[]:=by unfold cw;rw[Td (~~~h)];rfl
theorem rV (h:s.kind∈XW):cw [s]=[s.within]:=by unfold cw;rw[Tc (~~~h)];rfl
def jv (a b:Int)(l:Rv):Prop:=l.Nodup/\∀x∈l,a<=x/\x<b
theorem jv.app {c:Int}{m:Rv}(h:jv a b l)(h':jv b c m)(h1:a<=b)(h2:b<=c):jv a c (l++m):=by
 refine⟨S0.mpr ⟨h.1,h'.1,λx hx y hy e=>?_⟩,λx hx=>?_⟩
 ·have:=h.2 x hx;have:=h'.2 y hy;cbv
 ·obtain z | z:=Sl.mp hx
  ·have:=h.2 x z;cbv
  ·have:=h'.2 x z;cbv
theorem jv.wide {a' b':Int}(h:jv a b l)(h1:a'<=a)(h2:b<=b'):jv a' b' l:=⟨h.1,λx hx=>by have:=h.2 x hx;cbv⟩
theorem jv.add {x:Int}(h:jv a b l)(hx:x<a∨b<=x)(lo hi:Int)(h1:lo<=a)(h2:b<=hi)(h3:lo<=x)(h4:x<hi):jv lo hi (l++[x]):=by
 refine⟨iW h.1 λz=>by have:=h.2 x z;cbv,λy hy=>?_⟩;obtain z | z:=Sl.mp hy
 ·have:=h.2 y z;cbv
 ·rw[Sa.mp z];cbv
theorem jv.nil (a b:Int):jv a b []:=⟨TR,λx h=>by cases h⟩
mutual
theorem cwT {XN:Rx}:∀(t:Th)(a w u:Int),jv a (a+bz t) (cw (spT XN a w u t))
 | .Yh _,a,w,u=>by rw[spT,nN (show("do":Str)∉XW by decide +kernel)];exact .nil _ _
 | .call _,a,w,u=>by rw[spT,nN (show("call":Str)∉XW by decide +kernel)];exact .nil _ _
 | .leave,a,w,u=>by rw[spT,nN (show("leave":Str)∉XW by decide +kernel)];exact .nil _ _
 | .back,a,w,u=>by rw[spT,nN (show("back":Str)∉XW by decide +kernel)];exact .nil _ _
 | .X1 x A,a,w,u=>by
   let h:=Cu (XN:=XN) A (a+1) (w+2) a;rw[spT,bz,ie,ie,nN (show("while":Str)∉XW by decide +kernel),rV (show("end":Str)∈XW by decide +kernel),S8];push_cast;exact h.add (.inl `a) _ _ `a `a `a `a
 | .ifs x A B,a,w,u=>by
   let h:=Cu (XN:=XN) A (a+1) (w+2) a;let h':=Cu (XN:=XN) B (a+2+XS A) (w+3+(X5 XN A).length) (a+1+XS A);rw[spT,bz,ie,ie,ie,ie,nN (show("if":Str)∉XW by decide +kernel),rV (show("else":Str)∈XW by decide +kernel),rV (show("end":Str)∈XW by decide +kernel),S8];push_cast;let g1:jv a (a+1+XS A) (cw (cg XN (a+1) (w+2) a A)++[a]):=h.add (.inl `a) _ _ `a `a `a `a;let g2:jv (a+1+XS A) (a+2+XS A+XS B) (cw (cg XN (a+2+XS A) (w+3+(X5 XN A).length) (a+1+XS A) B)++[a+1+XS A]):=h'.add (.inl `a) _ _ `a `a `a `a;let g:=g1.app g2 `a `a;rw[Su] at g;exact g.wide `a `a
theorem Cu {XN:Rx}:∀(ts:`U)(a w u:Int),jv a (a+XS ts) (cw (cg XN a w u ts))
 | [],a,w,u=>by rw[cg];exact .nil _ _
 | t::ts,a,w,u=>by
   let h:=cwT (XN:=XN) t a w u;let h':=Cu (XN:=XN) ts (a+bz t) (w+(c9 XN t).length) u;rw[cg,ie,XS];push_cast;exact(h.app h' `a `a).wide `a `a
end
end
variable {u:Int}{kd:Str}
theorem PX {XN:Rx}:∀(zs:`aX)(a w:Int),jv a (a+du zs) (cw (iY XN a w zs))
 | [],a,w=>by rw[iY];exact .nil _ _
 | z::r,a,w=>by
   let h:=Cu (XN:=XN) z.2 (a+1) (w+2) a;let h':=PX (XN:=XN) r (a+2+XS z.2) (w+3+(X5 XN z.2).length);rw[iY,du,ie,ie,ie,nN (show("part":Str)∉XW by decide +kernel),rV (show("end":Str)∈XW by decide +kernel),S8];push_cast;let g1:jv a (a+2+XS z.2) (cw (cg XN (a+1) (w+2) a z.2)++[a]):=h.add (.inl `a) _ _ `a `a `a `a;let g:=g1.app h' `a `a;rw[Su] at g;exact g.wide `a `a
theorem Fo {a b:Option Int}(h:a.map V.int=b.map V.int):a=b:=by
 cases a<;>cases b<;>simp at h<;>simp[h]
theorem yx (F:RF)(k v j:Int):bo (jM F k v) j=if j=k then some v else bo F j:=by
 let h:=F7 (cS (cH F)) (Sum.inl k:Key) (Sum.inl j) (.int v);rw[xo,lE,lE] at h;apply Fo;rw[h];by_cases e:j=k
 ·rw[XG (by rw[e]),XG e];rfl
 ·rw[XF (λz=>e (Sum.inl.inj z)),XF e]
theorem iH {k:Int}:(bo F k).isSome=true↔k∈F.map (·.1):=by
 unfold bo;rw[UY,List.find?_isSome];simp only[decide_eq_true_eq,Sv]
theorem z6 {k:Int}:∀{ps:List (Int×aH)}{F:RF},(∀z∈ps,z.2.kind∈XW->z.2.within≠k)->bo (ps.foldl g8 F) k=bo F k
 | [],F,_=>rfl
 | y::ps,F,h=>by
   rw[S9,z6 λz hz=>h z (Sb _ hz)];unfold g8;split
   ·rename_i hc;rw[yx,XF (λe=>h y Se hc e.symm)]
   ·rfl
theorem uq:∀{ps:List (Int×aH)}{F:RF},((ps.filter λz=>decide (z.2.kind∈XW)).map (·.2.within)).Nodup->∀z∈ps,z.2.kind∈XW->bo (ps.foldl g8 F) z.2.within∣z.1
 | y::ps,F,nd,z,hz,hc=>by
   rw[S9];by_cases hy:y.2.kind∈XW
   ·rw[Tc (~~~hy),SK,Sz] at nd;obtain rfl | hz:=Sj.mp hz
    ·rw[z6 λx hx hxc e=>nd.1 (Sv.mpr ⟨x,SV.mpr ⟨hx,by simpa using hxc⟩,e⟩)];unfold g8;rw[XG hy,yx,XG rfl]
    ·exact uq nd.2 z hz hc
   ·rw[Td (~~~hy)] at nd;obtain rfl | hz:=Sj.mp hz
    ·exact XE hc hy
    ·exact uq nd z hz hc
theorem qE (S:`N):(nums S).map (·.2)=S:=by
 refine S6 λi=>?_;rw[Sf];obtain h | h:=UD i S.length
 ·let hn:i<(nums S).length:=by rw[cK];exact h
  rw[R7 hn];have:=(fw (R7 hn)).2;rw[this];rfl
 ·rw[SE (by rw[cK];exact h),SE h];rfl
theorem Jd (S:`N):cw S=((nums S).filter λz=>decide (z.2.kind∈XW)).map (·.2.within):=by
 conv=>lhs;rw[← qE S]
 unfold cw;rw[Ui,Ta];rfl
theorem qX (h:S[n]?∣s):((n:Int),s)∈nums S:=by
 let hl:=(R6.mp h).1;let hn:n<(nums S).length:=by rw[cK];exact hl
 let⟨e1,e2⟩:=fw (R7 hn);rw[h] at e2;have:(nums S)[n]=((n:Int),s):=UZ e1 (Option.some.inj e2).symm;rw[← this];exact SO hn
theorem sJ (nd:(cw S).Nodup)(h:S[n]?∣s)(hc:s.kind∈XW):bo (eY S) s.within∣(n:Int):=by
 rw[Jd] at nd;exact uq nd ((n:Int),s) (qX h) hc
def Up (S:`N)(u:Int)(kd:Str)(a:Int):Prop:=∃k:Nat,Yj (cN S) k u=a/\(∀j,j<=k->0<=Yj (cN S) j u/\Yj (cN S) j u<(S.length:Int))/\(∀j,j<k->aU S (Yj (cN S) j u)≠kd)/\aU S a=kd
theorem ur (f:α->α)(x:α)(j:Nat):Yj f (j+1) x=Yj f j (f x):=by
 rw[show j+1=1+j by cbv,pU];rfl
theorem Up.here (h0:0<=u)(h1:u<(S.length:Int))(hk:aU S u=kd):Up S u kd u:=⟨0,rfl,λj hj=>by
 obtain rfl:j=0:=`a
 exact⟨h0,h1⟩,λj hj=>`a,hk⟩
theorem Up.step {a:Int}(h0:0<=u)(h1:u<(S.length:Int))(hk:aU S u≠kd)(h:Up S (cN S u) kd a):Up S u kd a:=by
 let⟨k,e,Y5,X3,ha⟩:=h;refine⟨k+1,by rw[ur];exact e,λj hj=>?_,λj hj=>?_,ha⟩
 ·cases j with
  | zero=>exact⟨h0,h1⟩
  | succ j=>rw[ur];exact Y5 j `a
 ·cases j with
  | zero=>exact hk
  | succ j=>rw[ur];exact X3 j `a
mutual
noncomputable def fR (a wl pe:Int):Th->List Rv
 | .Yh _=>[[a+1]]
 | .call _=>[[a+1]]
 | .ifs _ A B=>[[a+1,a+2+XS A]]++gI (a+1) wl pe A++([[a+2+XS A+XS B]]++(gI (a+2+XS A) wl pe B++[[a+3+XS A+XS B]]))
 | .X1 _ A=>[[a+1,a+2+XS A]]++(gI (a+1) (a+2+XS A) pe A++[[a]])
 | .leave=>[[wl]]
 | .back=>[[pe]]
noncomputable def gI (a wl pe:Int):List Th->List Rv
 | []=>[]
 | t::ts=>fR a wl pe t++gI (a+bz t) wl pe ts
end
mutual
theorem pR:∀(t:Th)(a wl pe:Int),(fR a wl pe t).length=bz t
 | .Yh _,_,_,_=>by simp[fR,bz]
 | .call _,_,_,_=>by simp[fR,bz]
 | .ifs x A B,a,wl,pe=>by
   simp only[fR,bz,Sd,d9 A,d9 B,Si,SH];cbv
 | .X1 x A,a,wl,pe=>by
   simp only[fR,bz,Sd,d9 A,Si,SH];cbv
 | .leave,_,_,_=>by simp[fR,bz]
 | .back,_,_,_=>by simp[fR,bz]
theorem d9:∀(ts:`U)(a wl pe:Int),(gI a wl pe ts).length=XS ts
 | [],_,_,_=>by simp[gI,XS]
 | t::ts,a,wl,pe=>by rw[gI,XS,Sd,pR t,d9 ts]
end
section
variable {B pe:Int}{a:Nat}
noncomputable def uW (a:Int):List (Str×List Th)->List Rv
 | []=>[]
 | z::r=>[[a+1]]++(gI (a+1) 0 (a+1+XS z.2) z.2++([[]]++uW (a+2+XS z.2) r))
theorem zm:∀(zs:`aX)(a:Int),(uW a zs).length=du zs
 | [],_=>rfl
 | z::r,a=>by
   rw[uW,du];simp only[Sd,d9,zm r,Si,SH];cbv
structure mF (S:`N)(Ld:List Rv)(B pe:Int)(n:Nat):Prop where
 ld:ft S (eY S) (n:Int) (Ld.getD n [])
 rg:∀l∈Ld.getD n [],B<=l/\l<=pe
 ln:(Ld.getD n []).length<=2
 go:aY (aU S (n:Int))=false->∃l r,Ld.getD n []=l::r/\((n:Int)<l∨aY (aU S l)=true)
structure DQ (S:`N)(B pe wl u:Int)(lp:Bool)(hi:Nat):Prop where
 pt:∃p,Up S u "part" p/\bo (eY S) p∣pe
 wh:lp=true->(∃A,Up S u "while" A/\bo (eY S) A∣(wl-1))/\(hi:Int)<=wl/\wl<=pe
 pe:(hi:Int)<=pe
 u0:0<=u
 u1:u<(S.length:Int)
def iM (S:`N)(Ld:List Rv)(B pe:Int)(a k:Nat):Prop:=∀i,i<k->mF S Ld B pe (a+i)
theorem iM.app {k m:Nat}(h:iM S Ld B pe a k)(h':iM S Ld B pe (a+k) m):iM S Ld B pe a (k+m):=λi hi=>by
 by_cases q:i<k
 ·exact h i q
 ·have:=h' (i-k) `a;rwa [show a+k+(i-k)=a+i by cbv] at this
theorem iM.one (h:mF S Ld B pe a):iM S Ld B pe a 1:=λi hi=>by
 obtain rfl:i=0:=`a
 exact h
theorem iM.nil:iM S Ld B pe a 0:=λi hi=>`a
theorem sO:aY "do"=true:=`b
theorem nV:aY "call"=true:=`b
theorem mS:aY "if"=true:=`b
theorem gN:aY "while"=true:=`b
theorem jX (hL:Ld.getD n []=[l])(h:ft S (eY S) (n:Int) [l])(h0:B<=l)(h1:l<=pe)(hg:(n:Int)<l∨aY (aU S l)=true):mF S Ld B pe n:=by
 refine⟨by rw[hL];exact h,by rw[hL];intro x hx;rw[Sa.mp hx];exact⟨h0,h1⟩,by rw[hL];exact UH 1,λ_=>⟨l,[],hL,hg⟩⟩
theorem B2 (hL:Ld.getD n []=[l,m])(h:ft S (eY S) (n:Int) [l,m])(h0:B<=l)(h1:l<=pe)(h2:B<=m)(h3:m<=pe)(hg:aY (aU S (n:Int))=true):mF S Ld B pe n:=by
 refine⟨by rw[hL];exact h,by
  rw[hL];intro x hx;obtain rfl | hx:=Sj.mp hx
  ·exact⟨h0,h1⟩
  ·rw[Sa.mp hx];exact⟨h2,h3⟩,by rw[hL];exact Uw 2,λq=>by rw[hg] at q;cases q⟩
end
section
variable {B pe:Int}(Z4:(cw S).Nodup)
include Z4
mutual
theorem stT:∀(t:Th)(lp:Bool)(a:Nat)(w u wl:Int),bZ lo m lp t->cG S a (spT XN (a:Int) w u t)->cG Ld a (fR (a:Int) wl pe t)->DQ S B pe wl u lp (a+bz t)->B<=(a:Int)->iM S Ld B pe a (bz t)
 | .Yh x,lp,a,w,u,wl,h,hS,hL,hc,hB=>by
   rw[spT] at hS;rw[fR] at hL;simp only[bz] at hc ⊢;let⟨k1,k2,k3⟩:=hS.k (i:=0) rfl;let e1:=(hL.d (i:=0) rfl []).1;have:=hc.pe;refine .one (jX e1 (.Z9 (.inr (.inl k1))) `a (by push_cast at this;cbv) (.inl ?_));show(a:Int)<_;cbv
 | .call x,lp,a,w,u,wl,h,hS,hL,hc,hB=>by
   rw[spT] at hS;rw[fR] at hL;simp only[bz] at hc ⊢;let⟨k1,k2,k3⟩:=hS.k (i:=0) rfl;let e1:=(hL.d (i:=0) rfl []).1;have:=hc.pe;refine .one (jX e1 (.Z9 (.inr (.inr k1))) `a (by push_cast at this;cbv) (.inl ?_));show(a:Int)<_;cbv
 | .leave,lp,a,w,u,wl,h,hS,hL,hc,hB=>by
   simp only[bZ] at h;rw[spT] at hS;rw[fR] at hL;simp only[bz] at hc ⊢;let⟨k1,k2,k3⟩:=hS.k (i:=0) rfl;let e1:=(hL.d (i:=0) rfl []).1;let⟨⟨A,hA,hF⟩,w1,w2⟩:=hc.wh h;push_cast at w1;let hl:ft S (eY S) ((a+0:Nat):Int) [wl-1+1]:=.lev (a:=A) k1 (by unfold Ar;rw[k2];exact hA) hF;rw[show wl-1+1=wl by cbv] at hl;refine .one (jX e1 hl `a `a (.inl ?_));show(a:Int)<_;cbv
 | .back,lp,a,w,u,wl,h,hS,hL,hc,hB=>by
   rw[spT] at hS;rw[fR] at hL;simp only[bz] at hc ⊢;let⟨k1,k2,k3⟩:=hS.k (i:=0) rfl;let e1:=(hL.d (i:=0) rfl []).1;let⟨p,hp,hF⟩:=hc.pt;let w1:=hc.pe;push_cast at w1;refine .one (jX e1 (.bck (a:=p) k1 (by unfold Ar;rw[show cN S (a:Int)=u from k2];exact hp) hF) `a `a (.inl ?_));show(a:Int)<_;cbv
 | .X1 x A,lp,a,w,u,wl,h,hS,hL,hc,hB=>by
   simp only[bZ] at h;rw[spT] at hS;rw[fR] at hL;simp only[bz] at hc ⊢;let⟨s1,s2⟩:=hS.app;let⟨s2,s3⟩:=s2.app;let⟨d1,d2⟩:=hL.app;let⟨d2,d3⟩:=d2.app;rw[cv] at s3;rw[d9] at d3;simp only[Si,SH] at s2 s3 d2 d3;let⟨k1,k2,k3⟩:=s1.k (i:=0) rfl;let⟨k4,k5,k6⟩:=s3.k (i:=0) rfl;let e1:=(d1.d (i:=0) rfl []).1;let e3:=(d3.d (i:=0) rfl []).1;let hF:bo (eY S) (a:Int)∣(((a+(0+1)+XS A+0:Nat)):Int):=sJ (s:=⟨"end","",w+2+(X5 XN A).length,(a:Int)⟩) Z4 (s3 0 _ rfl) (show("end":Str)∈XW by decide +kernel);let hpe:=hc.pe;push_cast at hpe hF;let Z0:aU S (a:Int)="while":=k1;let k2':cN S (a:Int)=u:=k2;let ala:a<S.length:=k3;let p1:mF S Ld B pe a:=by
    let hl:ft S (eY S) (a:Int) [(a:Int)+1,(a:Int)+(0+1)+XS A+0+1]:=.row (.inr Z0) hF;rw[show(a:Int)+(0+1)+XS A+0+1=(a:Int)+2+XS A by cbv] at hl;exact B2 e1 hl `a `a `a `a (by rw[Z0];exact gN)
   let c2:DQ S B pe ((a:Int)+2+XS A) (a:Int) true (a+(0+1)+XS A):=by
    let⟨p,hp,hpF⟩:=hc.pt;refine⟨⟨p,.step `a `a (by rw[Z0];decide +kernel) (by rw[k2'];exact hp),hpF⟩,λ_=>⟨⟨(a:Int),.here `a `a Z0,?_⟩,by push_cast;cbv,`a⟩,by push_cast;cbv,`a,`a⟩;rw[hF];congr 1;cbv
   let p2:=BI A true (a+(0+1)) (w+2) (a:Int) ((a:Int)+2+XS A) h.2 (by push_cast;exact s2) (by push_cast;exact d2) c2 (by push_cast;cbv);let p3:mF S Ld B pe (a+(0+1)+XS A+0):=by
    let hl:ft S (eY S) ((a+(0+1)+XS A+0:Nat):Int) [cN S ((a+(0+1)+XS A+0:Nat):Int)]:=.enw k4 (by rw[k5];show(0:Int)<=(a:Int);cbv) (by rw[k5];show(a:Int)<_;cbv) (by rw[k5];exact Z0);rw[k5] at hl;exact jX e3 hl `a `a (.inr (by rw[Z0];exact gN))
   have:=(iM.one p1).app (p2.app (iM.one p3));rwa [show 1+(XS A+1)=2+XS A by cbv] at this
 | .ifs x A Bb,lp,a,w,u,wl,h,hS,hL,hc,hB=>by
   simp only[bZ] at h;rw[spT,Su] at hS;rw[fR,Su] at hL;simp only[bz] at hc ⊢;let⟨s1,s2⟩:=hS.app;let⟨s2,s3⟩:=s2.app;let⟨s3,s4⟩:=s3.app;let⟨s4,s5⟩:=s4.app;let⟨d1,d2⟩:=hL.app;let⟨d2,d3⟩:=d2.app;let⟨d3,d4⟩:=d3.app;let⟨d4,d5⟩:=d4.app;rw[cv] at s3 s4 s5;rw[cv] at s5;rw[d9] at d3 d4 d5;rw[d9] at d5;simp only[Si,SH] at s2 s3 s4 s5 d2 d3 d4 d5;let⟨k1,k2,k3⟩:=s1.k (i:=0) rfl;let⟨k4,k5,k6⟩:=s3.k (i:=0) rfl;let⟨k7,k8,k9⟩:=s5.k (i:=0) rfl;let e1:=(d1.d (i:=0) rfl []).1;let e3:=(d3.d (i:=0) rfl []).1;let e5:=(d5.d (i:=0) rfl []).1;let hF:bo (eY S) (a:Int)∣(((a+(0+1)+XS A+0:Nat)):Int):=sJ (s:=⟨"else","",w+2+(X5 XN A).length,(a:Int)⟩) Z4 (s3 0 _ rfl) (show("else":Str)∈XW by decide +kernel);let hF2:bo (eY S) ((a:Int)+1+XS A)∣(((a+(0+1)+XS A+(0+1)+XS Bb+0:Nat)):Int):=sJ (s:=⟨"end","",w+3+(X5 XN A).length+(X5 XN Bb).length,(a:Int)+1+XS A⟩) Z4 (s5 0 _ rfl) (show("end":Str)∈XW by decide +kernel);let hpe:=hc.pe;push_cast at hpe hF hF2;let Z0:aU S (a:Int)="if":=k1;let k2':cN S (a:Int)=u:=k2;let ala:a<S.length:=k3;let en:((a+(0+1)+XS A+0:Nat):Int)=(a:Int)+1+XS A:=by push_cast;cbv
   rw[en] at k4 k5;let k4':aU S ((a:Int)+1+XS A)="else":=k4;let k5':cN S ((a:Int)+1+XS A)=(a:Int):=k5;let p1:mF S Ld B pe a:=by
    let hl:ft S (eY S) (a:Int) [(a:Int)+1,(a:Int)+(0+1)+XS A+0+1]:=.row (.inl Z0) hF;rw[show(a:Int)+(0+1)+XS A+0+1=(a:Int)+2+XS A by cbv] at hl;exact B2 e1 hl `a `a `a `a (by rw[Z0];exact mS)
   let cA:DQ S B pe wl (a:Int) lp (a+(0+1)+XS A):=by
    let⟨p,hp,hpF⟩:=hc.pt;refine⟨⟨p,.step `a `a (by rw[Z0];decide +kernel) (by rw[k2'];exact hp),hpF⟩,λq=>?_,by push_cast;cbv,`a,`a⟩;let⟨⟨Aw,hA,hAF⟩,w1,w2⟩:=hc.wh q;push_cast at w1;exact⟨⟨Aw,.step `a `a (by rw[Z0];decide +kernel) (by rw[k2'];exact hA),hAF⟩,by push_cast;cbv,w2⟩
   let cB:DQ S B pe wl ((a:Int)+1+XS A) lp (a+(0+1)+XS A+(0+1)+XS Bb):=by
    let⟨p,hp,hpF⟩:=cA.pt;refine⟨⟨p,.step `a `a (by rw[k4'];decide +kernel) (by rw[k5'];exact hp),hpF⟩,λq=>?_,by push_cast;cbv,`a,`a⟩;let⟨⟨Aw,hA,hAF⟩,w1,w2⟩:=cA.wh q;let⟨_,w3,_⟩:=hc.wh q;push_cast at w3;exact⟨⟨Aw,.step `a `a (by rw[k4'];decide +kernel) (by rw[k5'];exact hA),hAF⟩,by push_cast;cbv,w2⟩
   let p2:=BI A lp (a+(0+1)) (w+2) (a:Int) wl h.2.1 (by push_cast;exact s2) (by push_cast;exact d2) cA (by push_cast;cbv);let p3:mF S Ld B pe (a+(0+1)+XS A+0):=by
    let hl:ft S (eY S) ((a+(0+1)+XS A+0:Nat):Int) [(a:Int)+(0+1)+XS A+(0+1)+XS Bb+0]:=by rw[en];exact .els k4' hF2
    rw[show(a:Int)+(0+1)+XS A+(0+1)+XS Bb+0=(a:Int)+2+XS A+XS Bb by cbv] at hl;exact jX e3 hl `a `a (.inl (by push_cast;cbv))
   let q4:(((a+(0+1)+XS A+(0+1):Nat)):Int)=(a:Int)+2+XS A:=by push_cast;cbv
   let p4:=BI Bb lp (a+(0+1)+XS A+(0+1)) (w+3+(X5 XN A).length) ((a:Int)+1+XS A) wl h.2.2 (by rw[q4];exact s4) (by rw[q4];exact d4) cB (by push_cast;cbv);let p5:mF S Ld B pe (a+(0+1)+XS A+(0+1)+XS Bb+0):=by
    let hl:ft S (eY S) ((a+(0+1)+XS A+(0+1)+XS Bb+0:Nat):Int) [((a+(0+1)+XS A+(0+1)+XS Bb+0:Nat):Int)+1]:=.ene k7 (by rw[k8];show(0:Int)<=(a:Int)+1+XS A;cbv) (by rw[k8];show(a:Int)+1+XS A<_;cbv) (by rw[k8];exact k4');rw[show((a+(0+1)+XS A+(0+1)+XS Bb+0:Nat):Int)+1=(a:Int)+3+XS A+XS Bb by push_cast;cbv] at hl;exact jX e5 hl `a `a (.inl (by push_cast;cbv))
   have:=(iM.one p1).app (p2.app ((iM.one p3).app (p4.app (iM.one p5))));rwa [show 1+(XS A+(1+(XS Bb+1)))=3+XS A+XS Bb by cbv] at this
theorem BI:∀(ts:`U)(lp:Bool)(a:Nat)(w u wl:Int),bJ lo m lp ts->cG S a (cg XN (a:Int) w u ts)->cG Ld a (gI (a:Int) wl pe ts)->DQ S B pe wl u lp (a+XS ts)->B<=(a:Int)->iM S Ld B pe a (XS ts)
 | [],lp,a,w,u,wl,h,hS,hL,hc,hB=>by rw[XS];exact .nil
 | t::ts,lp,a,w,u,wl,h,hS,hL,hc,hB=>by
   simp only[bJ] at h;rw[cg] at hS;rw[gI] at hL;rw[XS] at hc ⊢;let⟨s1,s2⟩:=hS.app;let⟨d1,d2⟩:=hL.app;rw[kR] at s2;rw[pR] at d2;let hpe:=hc.pe;push_cast at hpe;let p1:=stT t lp a w u wl h.1 s1 d1 ⟨hc.pt,λq=>by
    let⟨x,y,z⟩:=hc.wh q;push_cast at y;exact⟨x,by push_cast;cbv,z⟩,by push_cast;cbv,hc.u0,hc.u1⟩ hB
   let p2:=BI ts lp (a+bz t) (w+(c9 XN t).length) u wl h.2.2 (by push_cast;exact s2) (by push_cast;exact d2) ⟨hc.pt,λq=>by
    let⟨x,y,z⟩:=hc.wh q;push_cast at y;exact⟨x,by push_cast;cbv,z⟩,by push_cast;cbv,hc.u0,hc.u1⟩ (by push_cast;cbv)
   exact p1.app p2
end
end
structure L8 (S:`N)(Ld:List Rv)(XN:Rx)(f:Nat)(w:Int)(z:`bf):Prop where
 s:cG S f ([⟨"part",z.1,w, -1⟩]++(cg XN ((f:Int)+1) (w+2) (f:Int) z.2++[⟨"end","",w+2+(X5 XN z.2).length,(f:Int)⟩]))
 d:cG Ld f ([[(f:Int)+1]]++(gI ((f:Int)+1) 0 ((f:Int)+1+XS z.2) z.2++[[]]))
theorem cG.pre {S:`u}{a:Nat}{x y:`u}(h:cG S a (x++y)):cG S a x:=h.app.1
theorem Cs {S:`N}{Ld:List Rv}{XN:Rx}:∀{zs:`aX}{a:Nat}{w:Int},cG S a (iY XN (a:Int) w zs)->cG Ld a (uW (a:Int) zs)->∀(j:Nat)(z:`bf),zs[j]?∣z->∃w',L8 S Ld XN (a+du (zs.take j)) w' z
 | [],_,_,_,_,j,z,h=>by simp at h
 | y::r,a,w,hS,hL,j,z,h=>by
   rw[iY] at hS;rw[uW] at hL;cases j with
   | zero=>
     let e:y=z:= ~~~h
     subst e;refine⟨w,?_,?_⟩
     ·rw[show([⟨"part",y.1,w, -1⟩]++(cg XN ((a:Int)+1) (w+2) (a:Int) y.2++([⟨"end","",w+2+(X5 XN y.2).length,(a:Int)⟩]++iY XN ((a:Int)+2+XS y.2) (w+3+(X5 XN y.2).length) r)):List aH)=([⟨"part",y.1,w, -1⟩]++(cg XN ((a:Int)+1) (w+2) (a:Int) y.2++[⟨"end","",w+2+(X5 XN y.2).length,(a:Int)⟩]))++iY XN ((a:Int)+2+XS y.2) (w+3+(X5 XN y.2).length) r by simp only[Su]] at hS;exact hS.pre
     ·rw[show([[(a:Int)+1]]++(gI ((a:Int)+1) 0 ((a:Int)+1+XS y.2) y.2++([[]]++uW ((a:Int)+2+XS y.2) r)):List Rv)=([[(a:Int)+1]]++(gI ((a:Int)+1) 0 ((a:Int)+1+XS y.2) y.2++[[]]))++uW ((a:Int)+2+XS y.2) r by simp only[Su]] at hL;exact hL.pre
   | succ j=>
     let s4:=hS.app.2.app.2.app.2;let d4:=hL.app.2.app.2.app.2;rw[cv] at s4;rw[d9] at d4;simp only[Si,SH] at s4 d4;let e:a+(0+1)+XS y.2+(0+1)=a+2+XS y.2:=`a
     rw[e] at s4 d4;have:=Cs (zs:=r) (a:=a+2+XS y.2) (w:=w+3+(X5 XN y.2).length) (by push_cast;exact s4) (by push_cast;exact d4) j z (~~~h);rw[S3,du];rwa [show a+(2+XS y.2+du (r.take j))=a+2+XS y.2+du (r.take j) by cbv]
theorem cover:∀(zs:`aX)(n:Nat),n<du zs->∃(j:Nat)(z:`bf),zs[j]?∣z/\du (zs.take j)<=n/\n<du (zs.take j)+2+XS z.2
 | [],n,h=>by rw[du] at h;cbv
 | y::r,n,h=>by
   rw[du] at h;by_cases q:n<2+XS y.2
   ·exact⟨0,y,rfl,Uy _,by show n<0+2+_;cbv⟩
   ·let⟨j,z,h1,h2,h3⟩:=cover r (n-(2+XS y.2)) `a;exact⟨j+1,z,h1,by rw[S3,du];cbv,by rw[S3,du];cbv⟩
theorem pA:∀(zs:`aX)(j k:Nat)(z:`bf),zs[j]?∣z->j<k->du (zs.take j)+2+XS z.2<=du (zs.take k)
 | [],j,k,z,h,_=>by simp at h
 | y::r,0,k+1,z,h,_=>by
   let e:y=z:= ~~~h
   subst e;rw[S3,du,TC,du];cbv
 | y::r,j+1,k+1,z,h,hk=>by
   have:=pA r j k z (~~~h) `a;rw[S3,S3,du,du];cbv
section
variable {f:Nat}{w:Int}
abbrev lst (f:Nat)(z:`bf):Nat:=f+1+XS z.2
structure fJ (S:`N)(Ld:List Rv)(XN:Rx)(f:Nat)(w:Int)(z:`bf):Prop where
 k:aU S (f:Int)="part"
 nm:S[f]?∣⟨"part",z.1,w, -1⟩
 s:cG S (f+1) `ax
 d:cG Ld (f+1) (gI (((f+1:Nat)):Int) 0 ((lst f z:Nat):Int) z.2)
 e:S[lst f z]?∣⟨"end","",w+2+(X5 XN z.2).length,(f:Int)⟩
 df:Ld.getD f []=[(f:Int)+1]
 dl:Ld.getD (lst f z) []=[]
 dn:lst f z<Ld.length
theorem L8.p (h:L8 S Ld XN f w z):fJ S Ld XN f w z:=by
 let⟨hS,hL⟩:=h;let⟨s1,s2⟩:=hS.app;let⟨s2,s3⟩:=s2.app;let⟨d1,d2⟩:=hL.app;let⟨d2,d3⟩:=d2.app;rw[cv] at s3;rw[d9] at d3;simp only[Si,SH] at s2 s3 d2 d3;refine⟨(s1.k (i:=0) rfl).1,s1 0 _ rfl,by push_cast;exact s2,by push_cast;exact d2,s3 0 _ rfl,(d1.d (i:=0) rfl []).1,(d3.d (i:=0) rfl []).1,(d3.d (i:=0) rfl []).2⟩
theorem dD (h:S[n]?∣s):aU S (n:Int)=s.kind/\cN S (n:Int)=s.within:=by
 let e:S.getD ((n:Nat):Int).toNat dC=s:=by rw[show((n:Nat):Int).toNat=n by cbv,R8,h];rfl
 exact⟨by unfold aU;rw[e],by show(S.getD ((n:Nat):Int).toNat dC).within=_;rw[e]⟩
theorem fJ.cl (h:fJ S Ld XN f w z)(Z4:(cw S).Nodup):bo (eY S) (f:Int)∣((lst f z:Nat):Int):=sJ Z4 h.e (show("end":Str)∈XW by decide +kernel)
theorem fJ.all (h:fJ S Ld XN f w z)(Z4:(cw S).Nodup)(XX:bJ lo m false z.2):∀n,f<=n->n<lst f z->mF S Ld ((f:Int)+1) ((lst f z:Nat):Int) n:=by
 let fl:f<S.length:=(R6.mp h.nm).1;let hs:=BI (B:=(f:Int)+1) (lo:=lo) (m:=m) Z4 z.2 false (f+1) (w+2) (f:Int) 0 XX h.s h.d ⟨⟨(f:Int),.here `a `a h.k,h.cl Z4⟩,(λq=>by cases q),RY _,`a,`a⟩ (by push_cast;cbv);intro n h1 h2;by_cases q:n=f
 ·subst q;exact jX h.df (.Z9 (.inl h.k)) `a (by push_cast;cbv) (.inl `a)
 ·let h2':n<f+1+XS z.2:=h2;have:=hs (n-(f+1)) `a;rwa [show f+1+(n-(f+1))=n by cbv] at this
theorem fJ.last (h:fJ S Ld XN f w z):ft S (eY S) ((lst f z:Nat):Int) (Ld.getD (lst f z) []):=by
 let⟨k1,k2⟩:=dD h.e;let fl:f<S.length:=(R6.mp h.nm).1;rw[h.dl];exact .enp k1 (by rw[k2];show(0:Int)<=(f:Int);cbv) (by rw[k2];show(f:Int)<_;cbv) (by rw[k2];exact h.k)
end
abbrev dg (XN:Rx)(Ls:`F):List (Str×List Th):=XN.zip Ls
abbrev cC (XN:Rx)(Ls:`F):List Rv:=uW 0 `M
abbrev fst (XN:Rx)(Ls:`F)(j:Nat):Nat:=du ((dg XN Ls).take j)
theorem hZ (h:(dg XN Ls)[j]?∣z):∃w,fJ `i `D XN `k w z:=by
 let⟨w,hw⟩:=Cs (S:=aw XN Ls) (Ld:=cC XN Ls) (XN:=XN) (zs:=dg XN Ls) (a:=0) (w:=0) (cG.self _) (cG.self _) j z h;rw[UE] at hw;exact⟨w,hw.p⟩
theorem kJ:(cw `i).Nodup:=(PX (XN:=XN) `M 0 0).1
theorem eX (h:`aI)(hz:(dg XN Ls)[j]?∣z):bJ (j:Int) (Ls.length:Int) false z.2/\iJ z.2/\bY z.2<=14/\XN[j]?∣z.1/\Ls[j]?∣z.2:=by
 let⟨h1,h2⟩:=ni hz;let hm:=Sg h2;exact⟨h.ok j z.2 h2,h.hd z.2 hm,h.rw z.2 hm,h1,h2⟩
theorem Bu:(aw XN Ls).length=du `M:=zH _ _ _
theorem MV:(cC XN Ls).length=du `M:=zm _ _
theorem nC (h:`aI)(n:Nat)(hn:n<(aw XN Ls).length):∃(j:Nat)(z:`bf)(w:Int),(dg XN Ls)[j]?∣z/\fJ `i `D XN `k w z/\fst XN Ls j<=n/\n<=lst `k z/\lst `k z<(aw XN Ls).length:=by
 rw[Bu] at hn;let⟨j,z,h1,h2,h3⟩:=cover _ n hn;let⟨w,hb⟩:=hZ (XN:=XN) (Ls:=Ls) h1;refine⟨j,z,w,h1,hb,h2,by show n<=du (List.take j `M)+1+XS z.2;cbv,(R6.mp hb.e).1⟩
theorem Fq (h:`aI):Br `i `D/\x8 `i `D/\∀ls∈cC XN Ls,ls.length<=2:=by
 let hl:(cC XN Ls).length=(aw XN Ls).length:=by rw[Bu,MV]
 let key:∀n,n<(aw XN Ls).length->ft `i (eY `i) (n:Int) ((cC XN Ls).getD n [])/\(∀l∈(cC XN Ls).getD n [],0<=l/\l<((aw XN Ls).length:Int))/\((cC XN Ls).getD n []).length<=2:=by
  intro n hn;let⟨j,z,w,hz,hb,h1,h2,h3⟩:=nC h n hn;by_cases q:n=lst `k z
  ·subst q;refine⟨hb.last,?_,?_⟩
   ·rw[hb.dl];intro l hl;cases hl
   ·rw[hb.dl];exact Uy _
  ·let st:=hb.all kJ (eX h hz).1 n h1 `a;refine⟨st.ld,λl Zj=>?_,st.ln⟩;have:=st.rg l Zj;cbv
 let mem:∀ls∈cC XN Ls,∃n,n<(aw XN Ls).length/\(cC XN Ls).getD n []=ls:=λls hm=>by
  let⟨n,hn,e⟩:=TU hm;exact⟨n,`a,by rw[R8,R7 hn,e];rfl⟩
 refine⟨⟨hl,λn hn=>(key n hn).1⟩,⟨hl,λls hm l Zj=>?_⟩,λls hm=>?_⟩
 ·let⟨n,hn,e⟩:=mem ls hm;exact(key n hn).2.1 l (by rw[e];exact Zj)
 ·let⟨n,hn,e⟩:=mem ls hm;rw[← e];exact(key n hn).2.2
theorem zQ (hi:i<S.length)(hn:n≠S.length-1-i):(ZD S Ld (i+1)).getD n 0=(ZD S Ld i).getD n 0:=by
 rw[lM hi];unfold rT;split
 ·simp only[R8];rw[SF `a]
 ·rfl
theorem yu:∀(i n:Nat),i<=S.length->n<S.length-i->(ZD S Ld i).getD n 0=(n:Int)
 | 0,n,_,h=>by
   show(ups 0 S.length).getD n 0=_;rw[R8];unfold ups;rw[Sf,SY `a];show(0:Int)+(n:Int)=_;cbv
 | i+1,n,hi,h=>by rw[zQ `a `a];exact yu i n `a `a
theorem Ah {i n:Nat}(hn:S.length-i<=n):∀d:Nat,i+d<=S.length->(ZD S Ld (i+d)).getD n 0=(ZD S Ld i).getD n 0
 | 0,_=>rfl
 | d+1,h=>by rw[← UQ,zQ `a `a];exact Ah hn d `a
theorem wK (hi:i<=S.length)(hn:S.length-i<=n):(ZD S Ld i).getD n 0=(aZ S Ld).getD n 0:=by
 have:=Ah (S:=S) (Ld:=Ld) hn (S.length-i) `a;rw[show i+(S.length-i)=S.length by cbv] at this;exact this.symm
theorem i9 (hn:n<S.length)(h:(Ld.getD n [])=[]∨aY (aU S (n:Int))=true):(aZ S Ld).getD n 0=(n:Int):=by
 rw[← wK (i:=S.length-1-n+1) `a `a,lM `a,show(S.length:Int)-1-((S.length-1-n:Nat):Int)=(n:Int) by cbv];unfold rT;rw[XF (by
  rw[show((n:Nat):Int).toNat=n by cbv];rintro⟨h1,h2⟩;obtain h | h:=h
  ·rw[h] at h1;cases h1
  ·rw[h] at h2;cases h2)]
 exact yu _ n `a `a
theorem nP (hn:n<S.length){r:Rv}(hL:Ld.getD n []=l::r)(hr:aY (aU S (n:Int))=false)(l0:0<=l)(l1:l<(S.length:Int)):(aZ S Ld).getD n 0=if(n:Int)<l then(aZ S Ld).getD l.toNat 0 else l:=by
 rw[← wK (i:=S.length-1-n+1) (n:=n) `a `a,lM `a,show(S.length:Int)-1-((S.length-1-n:Nat):Int)=(n:Int) by cbv];unfold rT;rw[show((n:Nat):Int).toNat=n by cbv,hL,XG ⟨rfl,hr⟩];let ln:=kS (S:=S) (Ld:=Ld) (S.length-1-n) `a;rw[R8,Sh `a];show(ZD S Ld (S.length-1-n)).getD l.toNat 0=_;by_cases q:(n:Int)<l
 ·rw[XG q];exact wK `a `a
 ·rw[XF q,yu _ _ `a `a];cbv
variable {ls:Rv}
section
variable {f:Nat}{w:Int}
def JH (S:`N)(f l:Nat)(v:Int):Prop:=(f:Int)<v/\v<=(l:Int)/\(v=(l:Int)∨aY (aU S v)=true)
theorem fJ.Bd (h:fJ S Ld XN f w z)(Z4:(cw S).Nodup)(XX:bJ lo m false z.2):∀(d n:Nat),lst f z-n=d->f<=n->n<=lst f z->JH S f (lst f z) ((aZ S Ld).getD n 0):=by
 let ll:lst f z<S.length:=(R6.mp h.e).1;let fl:f<lst f z:=by show f<f+1+XS z.2;cbv
 intro d
 induction d using Nat.strongRecOn with
 | _ d ih=>
   intro n hd h1 h2;by_cases q:n=lst f z
   ·rw[q,i9 ll (.inl h.dl)];exact⟨`a,RY _,.inl rfl⟩
   ·let st:=h.all Z4 XX n h1 `a;cases hr:aY (aU S (n:Int)) with
    | true=>
      rw[i9 `a (.inr hr)];have:n≠f:=λe=>by
       rw[e,h.k] at hr;exact XE hr `b
      exact⟨`a,`a,.inr hr⟩
    | false=>
      let⟨l,r,hL,hg⟩:=st.go hr;let⟨r0,r1⟩:=st.rg l (by rw[hL];exact Se);rw[nP `a hL hr `a `a];by_cases ql:(n:Int)<l
      ·rw[XG ql];exact ih (lst f z-l.toNat) `a l.toNat rfl `a `a
      ·rw[XF ql];exact⟨`a,r1,.inr (hg.resolve_left ql)⟩
theorem lj (h:fJ S Ld XN f w z)(XX:bJ lo m false z.2)(hh:iJ z.2):aY (aU S ((f+1:Nat):Int))=true/\1<=XS z.2:=by
 let⟨t,ts,e,hb⟩:=hh;let hs:=h.s;rw[e] at hs XX ⊢;rw[cg] at hs;simp only[bJ] at XX;rw[XS];let hs:=hs.pre;cases t with
 | Yh x=>rw[spT] at hs;refine⟨?_,by simp only[bz];cbv⟩;rw[show((f+1:Nat):Int)=((f+1+0:Nat):Int) from rfl,(hs.k (i:=0) rfl).1];exact sO
 | call x=>rw[spT] at hs;refine⟨?_,by simp only[bz];cbv⟩;rw[show((f+1:Nat):Int)=((f+1+0:Nat):Int) from rfl,(hs.k (i:=0) rfl).1];exact nV
 | ifs x A B=>rw[spT] at hs;refine⟨?_,by simp only[bz];cbv⟩;rw[show((f+1:Nat):Int)=((f+1+0:Nat):Int) from rfl,(hs.pre.pre.k (i:=0) rfl).1];exact mS
 | X1 x A=>rw[spT] at hs;refine⟨?_,by simp only[bz];cbv⟩;rw[show((f+1:Nat):Int)=((f+1+0:Nat):Int) from rfl,(hs.pre.k (i:=0) rfl).1];exact gN
 | leave=>simp only[bZ] at XX;cases XX.1
 | back=>cases hb
theorem fJ.first (h:fJ S Ld XN f w z)(XX:bJ lo m false z.2)(hh:iJ z.2):(aZ S Ld).getD f 0=((f+1:Nat):Int):=by
 let ll:lst f z<S.length:=(R6.mp h.e).1;let ll:f+1+XS z.2<S.length:=ll;let⟨hr,h1⟩:=lj h XX hh;rw[nP (n:=f) `a h.df (by rw[h.k];decide +kernel) `a `a,XG `a,show((f:Int)+1).toNat=f+1 by cbv];exact i9 `a (.inr hr)
def mT (Ld:List Rv)(fd:Rv):Prop:=∀n∈fd,∀l∈Ld.getD n.toNat [],l∈fd
theorem mT.on {fd:Rv}(h:mT Ld fd)(hn:(n:Int)∈fd)(hL:Ld.getD n []=ls)(hl:l∈ls):l∈fd:=h _ hn l (by rw[show((n:Nat):Int).toNat=n by cbv,hL];exact hl)
end
section
variable {fd:Rv}(hC:mT Ld fd)
include hC
mutual
theorem goT:∀(t:Th)(lp:Bool)(a:Nat)(w u wl pe:Int),bZ lo m lp t->cG S a (spT XN (a:Int) w u t)->cG Ld a (fR (a:Int) wl pe t)->(a:Int)∈fd->(∀i,i<bz t->aU S ((a+i:Nat):Int)∈Yg->((a+i:Nat):Int)∈fd)/\(fD t=true->((a+bz t:Nat):Int)∈fd)
 | .Yh x,lp,a,w,u,wl,pe,h,hS,hL,ha=>by
   rw[fR] at hL;simp only[bz];refine⟨(λi hi _=>by cases (show i=0 by cbv);exact ha),(λ_=>?_)⟩;have:=hC.on ha (hL.d (i:=0) rfl []).1 (l:=(a:Int)+1) (Sa.mpr rfl);push_cast;exact this
 | .call x,lp,a,w,u,wl,pe,h,hS,hL,ha=>by
   rw[fR] at hL;simp only[bz];refine⟨(λi hi _=>by cases (show i=0 by cbv);exact ha),(λ_=>?_)⟩;have:=hC.on ha (hL.d (i:=0) rfl []).1 (l:=(a:Int)+1) (Sa.mpr rfl);push_cast;exact this
 | .leave,lp,a,w,u,wl,pe,h,hS,hL,ha=>by
   simp only[bz];exact⟨(λi hi _=>by cases (show i=0 by cbv);exact ha),(λq=>by simp[fD] at q)⟩
 | .back,lp,a,w,u,wl,pe,h,hS,hL,ha=>by
   simp only[bz];exact⟨(λi hi _=>by cases (show i=0 by cbv);exact ha),(λq=>by simp[fD] at q)⟩
 | .X1 x A,lp,a,w,u,wl,pe,h,hS,hL,ha=>by
   simp only[bZ] at h;rw[spT] at hS;rw[fR] at hL;simp only[bz];let⟨s1,s2⟩:=hS.app;let⟨s2,s3⟩:=s2.app;let⟨d1,d2⟩:=hL.app;let⟨d2,d3⟩:=d2.app;rw[cv] at s3;simp only[Si,SH] at s2 s3 d2 d3;let e1:=(d1.d (i:=0) rfl []).1;let g1:(((a+(0+1):Nat)):Int)∈fd:=by
    have:=hC.on ha e1 (l:=(a:Int)+1) Se;push_cast;simpa using this
   let g2:(((a+(2+XS A):Nat)):Int)∈fd:=by
    have:=hC.on ha e1 (l:=(a:Int)+2+XS A) (Sb _ (Sa.mpr rfl));rwa [show(((a+(2+XS A):Nat)):Int)=(a:Int)+2+XS A by push_cast;cbv]
   let⟨q1,_⟩:=BO A true (a+(0+1)) (w+2) (a:Int) ((a:Int)+2+XS A) pe h.2 (by push_cast;exact s2) (by push_cast;exact d2) g1;refine⟨λi hi hk=>?_,λ_=>g2⟩;by_cases i0:i=0
   ·subst i0;exact ha
   by_cases i1:i<1+XS A
   ·have:=q1 (i-1) `a (by rw[show a+(0+1)+(i-1)=a+i by cbv];exact hk);rwa [show a+(0+1)+(i-1)=a+i by cbv] at this
   ·obtain rfl:i=1+XS A:=`a
    let ke:=(s3.k (i:=0) rfl).1;rw[show a+(0+1)+XS A+0=a+(1+XS A) by cbv] at ke;rw[ke] at hk;exact XE hk (show("end":Str)∉Yg by decide +kernel)
 | .ifs x A B,lp,a,w,u,wl,pe,h,hS,hL,ha=>by
   simp only[bZ] at h;rw[spT,Su] at hS;rw[fR,Su] at hL;simp only[bz];let⟨s1,s2⟩:=hS.app;let⟨s2,s3⟩:=s2.app;let⟨s3,s4⟩:=s3.app;let⟨s4,s5⟩:=s4.app;let⟨d1,d2⟩:=hL.app;let⟨d2,d3⟩:=d2.app;let⟨d3,d4⟩:=d3.app;let⟨d4,d5⟩:=d4.app;rw[cv] at s3 s4 s5;rw[cv] at s5;rw[d9] at d3 d4 d5;rw[d9] at d5;simp only[Si,SH] at s2 s3 s4 s5 d2 d3 d4 d5;let e1:=(d1.d (i:=0) rfl []).1;let e3:=(d3.d (i:=0) rfl []).1;let e5:=(d5.d (i:=0) rfl []).1;let g1:(((a+(0+1):Nat)):Int)∈fd:=by
    have:=hC.on ha e1 (l:=(a:Int)+1) Se;push_cast;simpa using this
   let g2:(((a+(0+1)+XS A+(0+1):Nat)):Int)∈fd:=by
    have:=hC.on ha e1 (l:=(a:Int)+2+XS A) (Sb _ (Sa.mpr rfl));rwa [show(((a+(0+1)+XS A+(0+1):Nat)):Int)=(a:Int)+2+XS A by push_cast;cbv]
   let⟨q1,q2⟩:=BO A lp (a+(0+1)) (w+2) (a:Int) wl pe h.2.1 (by push_cast;exact s2) (by push_cast;exact d2) g1;let q4:(((a+(0+1)+XS A+(0+1):Nat)):Int)=(a:Int)+2+XS A:=by push_cast;cbv
   let⟨q3,q5⟩:=BO B lp (a+(0+1)+XS A+(0+1)) (w+3+(X5 XN A).length) ((a:Int)+1+XS A) wl pe h.2.2 (by rw[q4];exact s4) (by rw[q4];exact d4) g2;let fin:(((a+(0+1)+XS A+(0+1)+XS B+0:Nat)):Int)∈fd->(((a+(3+XS A+XS B):Nat)):Int)∈fd:=λq=>by
    have:=hC.on q e5 (l:=(a:Int)+3+XS A+XS B) (Sa.mpr rfl);rwa [show(((a+(3+XS A+XS B):Nat)):Int)=(a:Int)+3+XS A+XS B by push_cast;cbv]
   refine⟨λi hi hk=>?_,λhp=>fin ?_⟩
   ·by_cases i0:i=0
    ·subst i0;exact ha
    by_cases i1:i<1+XS A
    ·have:=q1 (i-1) `a (by rw[show a+(0+1)+(i-1)=a+i by cbv];exact hk);rwa [show a+(0+1)+(i-1)=a+i by cbv] at this
    by_cases i2:i=1+XS A
    ·subst i2;let ke:=(s3.k (i:=0) rfl).1;rw[show a+(0+1)+XS A+0=a+(1+XS A) by cbv] at ke;rw[ke] at hk;exact XE hk (show("else":Str)∉Yg by decide +kernel)
    by_cases i3:i<2+XS A+XS B
    ·have:=q3 (i-(2+XS A)) `a (by rw[show a+(0+1)+XS A+(0+1)+(i-(2+XS A))=a+i by cbv];exact hk);rwa [show a+(0+1)+XS A+(0+1)+(i-(2+XS A))=a+i by cbv] at this
    ·obtain rfl:i=2+XS A+XS B:=`a
     let ke:=(s5.k (i:=0) rfl).1;rw[show a+(0+1)+XS A+(0+1)+XS B+0=a+(2+XS A+XS B) by cbv] at ke;rw[ke] at hk;exact XE hk (show("end":Str)∉Yg by decide +kernel)
   ·simp only[fD,RN] at hp;obtain hp | hp:=hp
    ·let hel:=q2 hp;have:=hC.on (n:=a+(0+1)+XS A+0) hel e3 (l:=(a:Int)+2+XS A+XS B) (Sa.mpr rfl);rwa [show(((a+(0+1)+XS A+(0+1)+XS B+0:Nat)):Int)=(a:Int)+2+XS A+XS B by push_cast;cbv]
    ·exact q5 hp
theorem BO:∀(ts:`U)(lp:Bool)(a:Nat)(w u wl pe:Int),bJ lo m lp ts->cG S a (cg XN (a:Int) w u ts)->cG Ld a (gI (a:Int) wl pe ts)->(a:Int)∈fd->(∀i,i<XS ts->aU S ((a+i:Nat):Int)∈Yg->((a+i:Nat):Int)∈fd)/\(dG ts=true->((a+XS ts:Nat):Int)∈fd)
 | [],lp,a,w,u,wl,pe,h,hS,hL,ha=>by
   rw[XS];exact⟨λi hi=>`a,λ_=>ha⟩
 | t::ts,lp,a,w,u,wl,pe,h,hS,hL,ha=>by
   simp only[bJ] at h;rw[cg] at hS;rw[gI] at hL;rw[XS];let⟨s1,s2⟩:=hS.app;let⟨d1,d2⟩:=hL.app;rw[kR] at s2;rw[pR] at d2;let⟨q1,q2⟩:=goT t lp a w u wl pe h.1 s1 d1 ha;obtain hp | hp:=h.2.1
   ·let⟨q3,q4⟩:=BO ts lp (a+bz t) (w+(c9 XN t).length) u wl pe h.2.2 (by push_cast;exact s2) (by push_cast;exact d2) (q2 hp);refine⟨λi hi hk=>?_,λhpp=>?_⟩
    ·by_cases q:i<bz t
     ·exact q1 i q hk
     ·have:=q3 (i-bz t) `a (by rw[show a+bz t+(i-bz t)=a+i by cbv];exact hk);rwa [show a+bz t+(i-bz t)=a+i by cbv] at this
    ·rw[dG,RJ] at hpp;have:=q4 hpp.2;rwa [show a+bz t+XS ts=a+(bz t+XS ts) by cbv] at this
   ·subst hp;rw[XS];refine⟨λi hi hk=>q1 i `a hk,λhpp=>?_⟩;rw[dG,RJ] at hpp;exact q2 hpp.1
end
end
structure Fb (XN:Rx)(lo m:Int)(s:aH):Prop where
 np:s.kind≠"part"
 cl:s.kind="call"->∃j:Int,lo<j/\j<m/\s.name=XN.getD j.toNat ""
theorem gQ (h1:s.kind≠"part")(h2:s.kind≠"call"):Fb XN lo m s:=⟨h1,λe=>XE e h2⟩
theorem all1 {P:aH->Prop}(h:P s):∀x∈[s],P x:=λx hx=>by rw[Sa.mp hx];exact h
theorem rC {P:aH->Prop}{a b:`N}(h:∀x∈a,P x)(h':∀x∈b,P x):∀x∈a++b,P x:=λx hx=>(Sl.mp hx).elim (h x) (h' x)
mutual
theorem LH {XN:Rx}{lo m:Int}:∀(t:Th)(lp:Bool)(a w u:Int),bZ lo m lp t->∀s∈spT XN a w u t,Fb XN lo m s
 | .Yh x,lp,a,w,u,h=>by rw[spT];exact all1 (gQ (show("do":Str)≠"part" by decide +kernel) (show("do":Str)≠"call" by decide +kernel))
 | .call j,lp,a,w,u,h=>by
   simp only[bZ] at h;rw[spT];exact all1 ⟨show("call":Str)≠"part" by decide +kernel,λ_=>⟨j,h.1,h.2,rfl⟩⟩
 | .leave,lp,a,w,u,h=>by rw[spT];exact all1 (gQ (show("leave":Str)≠"part" by decide +kernel) (show("leave":Str)≠"call" by decide +kernel))
 | .back,lp,a,w,u,h=>by rw[spT];exact all1 (gQ (show("back":Str)≠"part" by decide +kernel) (show("back":Str)≠"call" by decide +kernel))
 | .X1 x A,lp,a,w,u,h=>by
   simp only[bZ] at h;rw[spT];exact rC (all1 (gQ (show("while":Str)≠"part" by decide +kernel) (show("while":Str)≠"call" by decide +kernel))) (rC (kU A true _ _ _ h.2) (all1 (gQ (show("end":Str)≠"part" by decide +kernel) (show("end":Str)≠"call" by decide +kernel))))
 | .ifs x A B,lp,a,w,u,h=>by
   simp only[bZ] at h;rw[spT];exact rC (rC (all1 (gQ (show("if":Str)≠"part" by decide +kernel) (show("if":Str)≠"call" by decide +kernel))) (kU A lp _ _ _ h.2.1)) (rC (all1 (gQ (show("else":Str)≠"part" by decide +kernel) (show("else":Str)≠"call" by decide +kernel))) (rC (kU B lp _ _ _ h.2.2) (all1 (gQ (show("end":Str)≠"part" by decide +kernel) (show("end":Str)≠"call" by decide +kernel)))))
theorem kU {XN:Rx}{lo m:Int}:∀(ts:`U)(lp:Bool)(a w u:Int),bJ lo m lp ts->∀s∈cg XN a w u ts,Fb XN lo m s
 | [],lp,a,w,u,h=>by rw[cg];intro s hs;cases hs
 | t::ts,lp,a,w,u,h=>by
   simp only[bJ] at h;rw[cg];exact rC (LH t lp _ _ _ h.1) (kU ts lp _ _ _ h.2.2)
end
theorem call_in {XN:Rx}{j:Int}:∀{ts:`U}(a w u:Int),Th.call j∈ts->∃s∈cg XN a w u ts,s.kind="call"/\s.name=XN.getD j.toNat ""
 | t::ts,a,w,u,h=>by
   rw[cg];obtain rfl | h:=Sj.mp h
   ·exact⟨_,Sn _ (by rw[spT];exact Sa.mpr rfl),rfl,rfl⟩
   ·let⟨s,hs,h1⟩:=call_in (XN:=XN) (j:=j) (ts:=ts) (a+bz t) (w+(c9 XN t).length) u h;exact⟨s,Sk _ hs,h1⟩
def jU (k:Str):Nat:=((cM dI k).getD []).length
noncomputable def kZ (S:`N):Nat:=(S.map λs=>jU s.kind).sum
theorem g9 (a b:`N):kZ (a++b)=kZ a+kZ b:=by unfold kZ;rw[So,Uu]
theorem gP (s:aH):kZ [s]=jU s.kind:=by unfold kZ;simp
mutual
theorem rkT {XN:Rx}:∀(t:Th)(a w u:Int),kZ (spT XN a w u t)=cn t
 | .Yh x,a,w,u=>by rw[spT,gP,cn];show jU "do"=1;decide +kernel
 | .call x,a,w,u=>by rw[spT,gP,cn];show jU "call"=1;decide +kernel
 | .leave,a,w,u=>by rw[spT,gP];simp only[cn];show jU "leave"=0;decide +kernel
 | .back,a,w,u=>by rw[spT,gP];simp only[cn];show jU "back"=0;decide +kernel
 | .X1 x A,a,w,u=>by
   rw[spT,cn,g9,g9,gP,gP,yK A,show jU "while"=2 by decide +kernel,show jU "end"=0 by decide +kernel];cbv
 | .ifs x A B,a,w,u=>by
   rw[spT,cn,g9,g9,g9,g9,gP,gP,gP,yK A,yK B,show jU "if"=2 by decide +kernel,show jU "end"=0 by decide +kernel,show jU "else"=0 by decide +kernel];cbv
theorem yK {XN:Rx}:∀(ts:`U)(a w u:Int),kZ (cg XN a w u ts)=bY ts
 | [],a,w,u=>by rw[cg,bY];rfl
 | t::ts,a,w,u=>by rw[cg,bY,g9,rkT t,yK ts]
end
variable {Kp:Rv}{r:Rw}
theorem Pt {XN:Rx}:∀(zs:`aX)(a w:Int),kZ (iY XN a w zs)=(zs.map λz=>bY z.2).sum
 | [],a,w=>by rw[iY];rfl
 | z::r,a,w=>by
   rw[iY,g9,g9,g9,gP,gP,yK,Pt r,show jU "part"=0 by decide +kernel,show jU "end"=0 by decide +kernel,SK,T9];cbv
theorem yj {α β:Type}{f:α->List β}{g:α->Nat}(h:∀x,(f x).length<=g x):∀xs:List α,(xs.flatMap f).length<=(xs.map g).sum
 | []=>Uy _
 | x::xs=>by
   rw[Te,Sd,SK,T9];have:=h x;have:=yj h xs;cbv
theorem EG (S:`N)(Ld:List Rv)(St:Rv):(gj S Ld St).length<=kZ S:=by
 have:=yj (f:=dZ Ld St) (g:=λz=>jU z.2.kind) (λz=>by
  unfold dZ j6;rw[R9,Ts];exact UK _ _) (nums S)
 refine Ux this (US ?_);unfold kZ
 conv=>rhs;rw[← qE S]
 rw[Ta];rfl
theorem n6 {St:Rv}(h:r∈gj S Ld St):∃(n:Nat)(s:aH)(l:Int),S[n]?∣s/\r.1=(n:Int)/\aY s.kind=true/\l∈Ld.getD n []/\r.2.1=St.getD l.toNat 0:=by
 unfold gj at h;let⟨z,hz,hr⟩:=T3.mp h;unfold dZ at hr;let⟨y,hy,rfl⟩:=Sv.mp hr;let⟨i,hi⟩:=Sr.mp hz;let⟨e1,e2⟩:=fw hi;unfold j6 at hy;let⟨h1,h2⟩:=T5 (show(y.1,y.2)∈_ from hy);rw[e1,show((i:Nat):Int).toNat=i by cbv] at h2;refine⟨i,z.2,y.2,e2,e1,?_,h2,rfl⟩;unfold aY;cases q:cM dI z.2.kind with
 | none=>rw[q] at h1;cases h1
 | some v=>rfl
theorem Ee {k:Str}(h:aY k=true):k∈Yg:=by
 unfold aY cM at h;split at h
 ·rename_i e;rw[← e];decide +kernel
 unfold cM at h;split at h
 ·rename_i e;rw[← e];decide +kernel
 unfold cM at h;split at h
 ·rename_i e;rw[← e];decide +kernel
 unfold cM at h;split at h
 ·rename_i e;rw[← e];decide +kernel
 ·cases h
theorem BJ:∀{l m:Rv},l.Nodup->(∀x∈l,x∈m)->l.length<=m.length
 | [],m,_,_=>Uy _
 | x::l,m,nd,h=>by
   let⟨n1,n2⟩:=Sz.mp nd;let hx:=h x Se;have:=BJ (l:=l) (m:=m.erase x) n2 λy hy=>by
    have:y≠x:=λe=>n1 (e▸hy);exact(List.mem_erase_of_ne this).mpr (h y (Sb _ hy))
   rw[List.length_erase_of_mem hx] at this;have:0<m.length:=List.length_pos_of_mem hx;rw[Si];cbv
noncomputable def jF (Kp:Rv)(F:RF):Prop:=(F.map (·.1)).Nodup/\∀x∈F.map (·.1),x∈Kp
theorem jF.put (h:jF Kp F){k:Int}(hk:k∈Kp):jF Kp (cU F k):=by
 unfold cU;split
 ·exact h
 ·rename_i hn;let hnk:k∉F.map (·.1):=λz=>hn (iH.mpr z);refine⟨by rw[So];exact iW h.1 hnk,λx hx=>?_⟩;rw[So] at hx;obtain z | z:=Sl.mp hx
  ·exact h.2 x z
  ·rw[show x=k by simpa using z];exact hk
theorem jF.rows {p:hV}:∀{rs:List Rw}{F:RF},jF Kp F->(∀r∈rs,ip p r=true->r.1∈Kp/\r.2.1∈Kp)->jF Kp (rs.foldl (eh p) F)
 | [],F,h,_=>h
 | r::rs,F,h,hr=>by
   rw[S9];refine jF.rows ?_ λx hx=>hr x (Sb _ hx);unfold eh;split
   ·rename_i hi;let⟨h1,h2⟩:=hr r Se hi;exact(h.put h1).put h2
   ·exact h
theorem jF.len (h:jF Kp F):F.length<=Kp.length:=by
 have:=BJ h.1 h.2;rwa [R9] at this
theorem z9:∀S:List aH,(S.filter λs=>aY s.kind).length<=kZ S
 | []=>Uy _
 | s::S=>by
   let ih:=z9 S;let e:kZ (s::S)=jU s.kind+kZ S:=by unfold kZ;rw[SK,T9]
   rw[e];by_cases h:aY s.kind=true
   ·rw[Tc (p:=λ(s:aH)=>aY s.kind) h,Si];have:1<=jU s.kind:=by
     unfold jU;unfold aY cM at h;unfold cM;split at h
     ·rename_i e;rw[XG e];decide
     rename_i e;rw[XF e];unfold cM at h ⊢;split at h
     ·rename_i e;rw[XG e];decide
     rename_i e;rw[XF e];unfold cM at h ⊢;split at h
     ·rename_i e;rw[XG e];decide
     rename_i e;rw[XF e];unfold cM at h ⊢;split at h
     ·rename_i e;rw[XG e];decide
     ·cases h
    cbv
   ·rw[Td (p:=λ(s:aH)=>aY s.kind) h];cbv
theorem Oj (h:∀s∈S,s.kind≠"part"):YC S=[]:=by
 unfold YC;rw[Tj.mpr λs hs=>by simpa using h s hs];rfl
theorem JL {XN:Rx}{m:Int}:∀(zs:`aX)(a w:Int),(∀z∈zs,∃lo,bJ lo m false z.2)->YC (iY XN a w zs)=zs.map (·.1)
 | [],a,w,_=>by rw[iY];rfl
 | z::r,a,w,h=>by
   let⟨lo,hz⟩:=h z Se;rw[iY,nt,nt,nt,JL r _ _ λy hy=>h y (Sb _ hy),Oj λs hs=>(kU (XN:=XN) z.2 false _ _ _ hz s hs).np];rfl
theorem wI (S:`N):(c5 S).map (·.1)=YC S:=by
 unfold c5 YC
 conv=>rhs;rw[← qE S]
 rw[Ui,Ta,Ta];rfl
section
variable (h:`aI)
include h
theorem My:(dg XN Ls).map (·.1)=XN:=List.map_fst_zip (by rw[h.l];exact Uw _)
theorem Ku:(dg XN Ls).map (·.2)=Ls:=List.map_snd_zip (by rw[h.l];exact Uw _)
theorem NJ:∀z∈dg XN Ls,∃lo,bJ lo (Ls.length:Int) false z.2:=λz hz=>by
 let⟨j,hj⟩:=Sr.mp hz;exact⟨_,(eX h hj).1⟩
theorem Gm:YC `i=XN:=by
 rw[JL (m:=(Ls.length:Int)) _ _ _ (NJ h),My h]
theorem vy:(c5 `i).map (·.1)=XN:=by rw[wI,Gm h]
theorem N9:(aw XN Ls).length<=240:=by
 let⟨pl,_⟩:=v5 h;let⟨e,_⟩:=uS h;let⟨i1,i2,_⟩:=yi (kq XN Ls) (du (XN.zip Ls));rw[e] at i1 i2;dsimp only at i1 i2;cbv
theorem yO (hn:n<(aw XN Ls).length)(hk:aU `i (n:Int)="part"):∃(j:Nat)(z:`bf)(w:Int),(dg XN Ls)[j]?∣z/\fJ `i `D XN `k w z/\n=fst XN Ls j:=by
 let⟨j,z,w,hz,hb,h1,h2,h3⟩:=nC h n hn;refine⟨j,z,w,hz,hb,?_⟩;obtain q | q:=UD `k n
 ·exfalso;by_cases e:n=lst `k z
  ·rw[e,(dD hb.e).1] at hk;exact XE hk (show("end":Str)≠"part" by decide +kernel)
  ·let h2':n<fst XN Ls j+1+XS z.2:=UM h2 e;let hi:n-`ap<(cg XN (((fst XN Ls j+1:Nat)):Int) (w+2) (fst XN Ls j:Int) z.2).length:=by rw[cv];cbv
   let hs:=hb.s.k (R7 hi);rw[show fst XN Ls j+1+(n-`ap)=n by cbv] at hs;rw[hs.1] at hk;exact(kU (XN:=XN) z.2 false _ _ _ (eX h hz).1 _ (SO hi)).np hk
 ·cbv
theorem nZ {p:hV}(hp:p∈c5 `i):∃(j:Nat)(z:`bf)(w:Int),(dg XN Ls)[j]?∣z/\fJ `i `D XN `k w z/\p=(z.1,((fst XN Ls j:Nat):Int),((lst `k z:Nat):Int)):=by
 unfold c5 at hp;let⟨y,hy,rfl⟩:=Sv.mp hp;let⟨hy,hk⟩:=SV.mp hy;let⟨n,nl,e1,e2⟩:=pP hy;let YZ:aU `i (n:Int)="part":=by
  unfold aU;rw[show((n:Nat):Int).toNat=n by cbv,e2];exact XH hk
 let⟨j,z,w,hz,hb,e3⟩:=yO h nl YZ;refine⟨j,z,w,hz,hb,?_⟩;subst e3;unfold L1;rw[e1,hb.cl kJ];have:y.2=⟨"part",z.1,w, -1⟩:=by rw[← e2,R8,hb.nm];rfl
 rw[this];rfl
end
section
variable {v:gX}
theorem Dw (l:`u)(d:α)(p:α->Bool):((Sm l.length).filter λi=>p (l.getD i d)).length=(l.filter p).length:=by
 let e:(Sm l.length).map (λi=>l.getD i d)=l:=by
  refine S6 λi=>?_;rw[Sf];obtain h | h:=UD i l.length
  ·rw[SY h,R7 h];show some (l.getD i d)=_;rw[R8,R7 h];rfl
  ·rw[SE (~~~h),SE h];rfl
 conv=>rhs;rw[← e,Ui,R9]
 rfl
noncomputable def oj (S:`N)(f:Nat)(z:`bf):Rv:=((Sm (XS z.2)).filter λi=>aY (aU S ((f+1+i:Nat):Int))).map (λi=>((f+1+i:Nat):Int))++[((lst f z:Nat):Int)]
theorem jQ {f:Nat}{v:Int}(h:JH S f (lst f z) v):v∈oj S f z:=by
 let⟨h1,h2,h3⟩:=h;unfold oj;by_cases q:v=((lst f z:Nat):Int)
 ·exact Sk _ (by rw[q];exact Sa.mpr rfl)
 ·let h2':v<=((f+1+XS z.2:Nat):Int):=h2;let q':v≠((f+1+XS z.2:Nat):Int):=q;refine Sn _ (Sv.mpr ⟨v.toNat-(f+1),SV.mpr ⟨Tb.mpr `a,?_⟩,`a⟩);rw[show((f+1+(v.toNat-(f+1)):Nat):Int)=v by cbv];exact h3.resolve_left q
theorem Cr {f:Nat}{w:Int}(h:fJ S Ld XN f w z)(hr:bY z.2<=14):(oj S f z).length<=16:=by
 unfold oj;rw[Sd,R9,SN];let e:((Sm (XS z.2)).filter λi=>aY (aU S ((f+1+i:Nat):Int)))=((Sm (cg XN (((f+1:Nat)):Int) (w+2) (f:Int) z.2).length).filter λi=>aY ((cg XN (((f+1:Nat)):Int) (w+2) (f:Int) z.2).getD i dC).kind):=by
  rw[cv];refine Ul λi hi=>?_;let hi:i<(cg XN (((f+1:Nat)):Int) (w+2) (f:Int) z.2).length:=by rw[cv];exact Tb.mp hi
  rw[(h.s.k (R7 hi)).1,R8,R7 hi];rfl
 rw[e,Dw `ax dC λs=>aY s.kind];have:=z9 `ax;rw[yK] at this;cbv
theorem qH (h:`aI):rj `i `D/\Good (Yc `i `D):=by
 let⟨hLd,hLi,hl2⟩:=Fq h;let hS:=N9 h;refine⟨⟨hS,hLd,hLi,λn hn hk=>?_⟩,?_⟩
 ·let⟨j,z,w,hz,hb,e⟩:=yO h hn hk;subst e;rw[hb.cl kJ];rfl
 let bl:∀{j:Nat}{z:`bf}{w:Int},fJ `i `D XN `k w z->fst XN Ls j<(aw XN Ls).length:=λhb=>(R6.mp hb.nm).1;let hn:=vy h;let hlp:(c5 `i).length=XN.length:=by rw[← congrArg List.length hn,R9]
 refine⟨hS,?_,?_,λp hp=>?_,hLi,hl2,kS _ (Uw _),?_,λn t ht hk=>?_,λfd hR n hn' hk=>?_,λp hp=>?_,λp hp=>?_,?_,λr hr=>?_,λp hp=>?_⟩
 ·show(c5 `i).length<=4;rw[hlp,h.l];exact h.l4
 ·show((c5 `i).map (·.1)).Nodup;rw[hn];exact h.nd
 ·let⟨j,z,w,hz,hb,rfl⟩:=nZ h hp;have:=bl hb;exact⟨by show(0:Int)<=((fst XN Ls j:Nat):Int);cbv,by show((fst XN Ls j:Nat):Int)<((aw XN Ls).length:Int);cbv⟩
 ·show(YC `i).Nodup;rw[Gm h];exact h.nd
 ·-- XO
  let ht:(aw XN Ls)[n]?∣t:=ht;let hn':=(R6.mp ht).1;let⟨j,z,w,hz,hb,h1,h2,h3⟩:=nC h n hn';let YZ:=(dD ht).1;let X3:n≠fst XN Ls j:=λe=>by
   rw[e,hb.k,hk] at YZ;exact XE YZ `b
  let hnl:n≠lst `k z:=λe=>by
   rw[e,(dD hb.e).1,hk] at YZ;exact XE YZ (show("end":Str)≠"call" by decide +kernel)
  let h2':n<fst XN Ls j+1+XS z.2:=UM h2 hnl;let hi:n-`ap<(cg XN (((fst XN Ls j+1:Nat)):Int) (w+2) (fst XN Ls j:Int) z.2).length:=by rw[cv];cbv
  let hs:=hb.s _ _ (R7 hi);rw[show fst XN Ls j+1+(n-`ap)=n by cbv,ht] at hs;let ko:=kU (XN:=XN) z.2 false _ _ _ (eX h hz).1 _ (SO hi);rw[← Option.some.inj hs] at ko;let⟨c,c1,c2,c3⟩:=ko.cl hk;let hcl:c.toNat<XN.length:=by rw[h.l];cbv
  let hcz:c.toNat<(dg XN Ls).length:=by rw[Ts,h.l];cbv
  let⟨w',Y0⟩:=hZ (XN:=XN) (Ls:=Ls) (R7 hcz);let YA:=pA `M j c.toNat z hz `a;refine⟨fst XN Ls c.toNat,_,?_,Y0.nm,rfl,?_⟩
  ·have:fst XN Ls j+2+XS z.2<=fst XN Ls c.toNat:=YA;cbv
  ·rw[c3];let hz':=(eX h (R7 hcz)).2.2.2.1;rw[R8,hz'];rfl
 ·-- coming to each sentence
  let⟨hR1,ZI⟩:=hR;let hn':n<(aw XN Ls).length:=hn';let⟨j,z,w,hz,hb,h1,h2,h3⟩:=nC h n hn';let YZ:aU `i (n:Int)∈Yg:=hk;let X3:n≠fst XN Ls j:=λe=>by
   rw[e,hb.k] at YZ;exact XE YZ `b
  let hnl:n≠lst `k z:=λe=>by
   rw[e,(dD hb.e).1] at YZ;exact XE YZ (show("end":Str)∉Yg by decide +kernel)
  let h2':n<fst XN Ls j+1+XS z.2:=UM h2 hnl;let hf:((fst XN Ls j:Nat):Int)∈fd:=by
   refine hR1 (z.1,((fst XN Ls j:Nat):Int),(bo (eY `i) ((fst XN Ls j:Nat):Int)).getD 0) ?_;show _∈c5 `i;unfold c5;exact Sv.mpr ⟨(((fst XN Ls j:Nat):Int),⟨"part",z.1,w, -1⟩),SV.mpr ⟨qX hb.nm,XJ rfl⟩,rfl⟩
  let hC:mT `D fd:=ZI;let hf1:=hC.on hf hb.df (l:=((fst XN Ls j:Nat):Int)+1) (Sa.mpr rfl);have:=(BO (XN:=XN) (S:=aw XN Ls) hC z.2 false `ap (w+2) _ 0 _ (eX h hz).1 hb.s hb.d (by push_cast;exact hf1)).1 (n-`ap) `a (by rw[show fst XN Ls j+1+(n-`ap)=n by cbv];exact YZ);rwa [show fst XN Ls j+1+(n-`ap)=n by cbv] at this
 ·-- each later part is called
  let hp:p∈(c5 `i).drop 1:=hp;let⟨k,hk⟩:=Sr.mp hp;rw[Ug] at hk;let hnk:XN[1+k]?∣p.1:=by rw[← hn,Sf,hk];rfl
  let hkl:=(R6.mp hnk).1;let⟨L,hL,hcL⟩:=h.cl (1+k) `a (by rw[← h.l];exact hkl);let⟨i,hi⟩:=Sr.mp hL;let il:=(R6.mp hi).1;let hiz:i<(dg XN Ls).length:=by rw[Ts,h.l];cbv
  let⟨w',Y0⟩:=hZ (XN:=XN) (Ls:=Ls) (R7 hiz);let e2:=(eX h (R7 hiz)).2.2.2.2;rw[hi] at e2;let e2:=Option.some.inj e2;let⟨s,hs,s1,s2⟩:=call_in (XN:=XN) (((fst XN Ls i+1:Nat)):Int) (w'+2) ((fst XN Ls i:Nat):Int) hcL;rw[e2] at hs;let⟨q,hq⟩:=Sr.mp hs;refine⟨s,Sg (Y0.s q s hq),s1,?_⟩;rw[s2,show(((1+k:Nat)):Int).toNat=1+k by cbv,R8,hnk];rfl
 ·-- no part ends at XT begin
  let⟨j,z,w,hz,hb,rfl⟩:=nZ h hp;let⟨Y9,ZE,ok3,_⟩:=eX h hz;show(aZ `i `D).getD ((fst XN Ls j:Nat):Int).toNat 0≠((lst `k z:Nat):Int);rw[show((fst XN Ls j:Nat):Int).toNat=fst XN Ls j by cbv,hb.first Y9 ZE];have:=(lj hb Y9 ZE).2;show((fst XN Ls j+1:Nat):Int)≠((fst XN Ls j+1+XS z.2:Nat):Int);cbv
 ·-- rows
  show(gj `i `D (aZ `i `D)).length<=30;refine Ux (EG _ _ _) ?_;rw[Pt];let e:(dg XN Ls).map (λz=>bY z.2)=Ls.map bY:=by
   conv=>rhs;rw[← Ku h]
   rw[Ta];rfl
  show((dg XN Ls).map λz=>bY z.2).sum<=30;rw[e];exact h.tot
 ·let⟨n,s,l,h1,h2,h3,_⟩:=n6 hr;let hn':=(R6.mp h1).1;rw[h2];refine⟨⟨`a,by show(n:Int)<((aw XN Ls).length:Int);cbv⟩,?_⟩;show aU `i (n:Int)∈Yg;rw[(dD h1).1];exact Ee h3
 ·-- places
  let⟨j,z,w,hz,hb,rfl⟩:=nZ h hp;let⟨Y9,ZE,ok3,_⟩:=eX h hz;let fl:fst XN Ls j<lst `k z:=by show _<fst XN Ls j+1+XS z.2;cbv
  let YN:=λn h1 h2=>hb.Bd kJ Y9 _ n rfl h1 h2;refine Ux (jF.len (Kp:=oj `i `k z) ?_) (Cr hb ok3);refine jF.rows ?_ λr hr hi=>?_
  ·let X3:(aZ `i `D).getD `k 0≠((lst `k z:Nat):Int):=by
    rw[hb.first Y9 ZE];have:=(lj hb Y9 ZE).2;show((fst XN Ls j+1:Nat):Int)≠((fst XN Ls j+1+XS z.2:Nat):Int);cbv
   let e0:(Yc `i `D).St.getD ((fst XN Ls j:Nat):Int).toNat 0=(aZ `i `D).getD `k 0:=by rw[show((fst XN Ls j:Nat):Int).toNat=fst XN Ls j by cbv];rfl
   dsimp only;rw[e0];refine⟨?_,λx hx=>?_⟩
   ·exact Sz.mpr ⟨λq=>X3 (Sa.mp q),Sz.mpr ⟨`d,TR⟩⟩
   ·let hx:x=(aZ `i `D).getD `k 0∨x=((lst `k z:Nat):Int):= ~~~hx
    obtain rfl | rfl:=hx
    ·exact jQ (YN _ (Uw _) `a)
    ·exact jQ ⟨`a,RY _,.inl rfl⟩
  ·let⟨n,s,l,h1,h2,h3,h4,h5⟩:=n6 hr;unfold ip at hi;rw[RJ] at hi;let i1:((fst XN Ls j:Nat):Int)<r.1:=XH hi.1;let i2:r.1<((lst `k z:Nat):Int):=XH hi.2;rw[h2] at i1 i2;let YZ:aU `i (n:Int)=s.kind:=(dD h1).1;let st:=hb.all kJ Y9 n `a `a;let rg:=st.rg l h4;refine⟨?_,?_⟩
   ·rw[h2];exact jQ ⟨i1,`a,.inr (by rw[YZ];exact h3)⟩
   ·rw[h5];exact jQ (YN l.toNat `a `a)
theorem Im:Pure:=λXN Ls h=>⟨cC XN Ls,qH h⟩
structure jN (mg:Rt):Prop where
 isinstance:mg "isinstance"=none
 bool:mg "bool"=none
 max:mg "max"=none
 ZX:∃t,mg "NO_CALL"∣(.int (-1) t)
 first:∃t,mg "FIRST_PART"∣.int 0 t
 yes:∃t,mg "YES"∣.int 1 t
 ended:∃t,mg "ENDED"∣(.str "ended" t)
 bound:∃t,mg "BOUND"∣(.str "bound" t)
 wanting:∃t,mg "WANTING"∣(.str "wanting" t)
abbrev g6:=RF
abbrev n9:Row:=(0,0,0,0)
def rowOf (v:gX)(k:Int):Row:=v.2.getD k.toNat n9
noncomputable def me (v:gX)(p q:Int):Rv:=(ups 0 v.2.length).filter λk=>decide (((rowOf v k).1,(rowOf v k).2.1)=(p,q))
theorem kD {st:g6}(h:st≠[]):st.dropLast++[st.getLast h]=st:=S5 h
def trim (st:g6):g6:=(st.reverse.dropWhile λt=>decide (t.2=1)).reverse
theorem yn:trim []=[]:=rfl
theorem qJ {st:g6}(h:st≠[])(e:(st.getLast h).2=1):trim st=trim st.dropLast:=by
 let e1:st.reverse=st.getLast h::st.dropLast.reverse:=by
  have:=congrArg List.reverse (kD h);rw[← this];simp
 unfold trim;rw[e1,List.dropWhile_cons,XG (XJ e)]
theorem oT {st:g6}(h:st≠[])(e:(st.getLast h).2≠1):trim st=st:=by
 let e1:st.reverse=st.getLast h::st.dropLast.reverse:=by
  have:=congrArg List.reverse (kD h);rw[← this];simp
 unfold trim;rw[e1,List.dropWhile_cons,XF (~~~e),← e1,List.reverse_reverse]
theorem rA:∀(n:Nat)(st:g6),st.length=n->∃s',st=trim st++s'/\(∀t∈s',t.2=1)/\∀h:trim st≠[],((trim st).getLast h).2≠1
 | 0,st,hn=>by
   have:st=[]:=Ub.mp hn;subst this;rw[yn];exact⟨[],rfl,`d,λh=>XE rfl h⟩
 | n+1,st,hn=>by
   let X3:st≠[]:=λe=>by rw[e] at hn;simp at hn
   by_cases e:(st.getLast X3).2=1
   ·let⟨s',h1,h2,h3⟩:=rA n st.dropLast (by rw[TQ,hn];rfl);rw[qJ X3 e];refine⟨s'++[st.getLast X3],?_,λt ht=>?_,h3⟩
    ·rw[← Su,← h1];exact(kD X3).symm
    ·obtain q | q:=Sl.mp ht
     ·exact h2 t q
     ·rw[Sa.mp q];exact e
   ·rw[oT X3 e];exact⟨[],`d,`d,λ_=>e⟩
structure mq (v:gX):Prop where
 pl:v.1.length<=4
 p1:1<=v.1.length
 rl:v.2.length<=30
 sz:∀n∈v.1,2<=n/\n<=16
 rw:∀r∈v.2,(0<=r.1/\r.1<(v.1.length:Int))/\(0<=r.2.1/\r.2.1<v.1.getD r.1.toNat 0)/\(0<=r.2.2.1/\r.2.2.1<v.1.getD r.1.toNat 0)/\(r.2.2.2= -1∨(0<=r.2.2.2/\r.2.2.2<(v.1.length:Int)))
 fr:∀p k:Nat,p<v.1.length->(k:Int)<v.1.getD p 0->k≠1->∃(n:Nat)(r:Row),v.2[n]?∣r/\r.1=(p:Int)/\r.2.1=(k:Int)
theorem qt {α β:Type}{P:α->List β->Prop}(hp:∀x ys,P x ys->ys=[]):∀{xs:`u}{Yv:List (List β)},PySem.Paired P xs Yv->Yv=S7 xs.length []
 | _,_,.nil=>rfl
 | _,_,.cons h t=>by rw[Si,List.replicate_succ,qt hp t,hp _ _ h]
noncomputable def kB (v:gX)(p:Int)(i:Nat)(q:Int):Rv:=(ups 0 i).filter λk=>decide (((rowOf v k).1,(rowOf v k).2.1)=(p,q))
theorem xy (i:Nat):ups 0 (i+1)=ups 0 i++[(i:Int)]:=by
 unfold ups;rw[TB,So];simp
theorem tL (v:gX)(p:Int)(i:Nat)(q:Int):kB v p (i+1) q=kB v p i q++(if(rowOf v (i:Int)).1=p/\(rowOf v (i:Int)).2.1=q then[(i:Int)] else[]):=by
 unfold kB;rw[xy,SU];congr 1;by_cases h:(rowOf v (i:Int)).1=p/\(rowOf v (i:Int)).2.1=q
 ·rw[XG h,Tc (by simp[h.1,h.2])];rfl
 ·rw[XF h,Td (by simp;exact λa b=>h ⟨a,b⟩)];rfl
noncomputable def jL (v:gX)(p:Int)(n i:Nat):List Rv:=(ups 0 n).map (kB v p i)
noncomputable def j9 (v:gX)(p:Int):List Rv:=(ups 0 (v.1.getD p.toNat 0).toNat).map (me v p)
theorem lD (v:gX)(p:Int)(n i:Nat):(jL v p n i).length=n:=by unfold jL;rw[R9,bp]
theorem ub (h:j<n):(ups 0 n)[j]?∣(j:Int):=by unfold ups;rw[Sf,SY h];simp
theorem pO {p:Int}(h:j<n):(jL v p n i)[j]?∣(kB v p i (j:Int)):=by unfold jL;rw[Sf,ub h];rfl
theorem Cv {p:Int}(h:(rowOf v (i:Int)).1≠p):jL v p n (i+1)=jL v p n i:=by
 unfold jL;refine Tu λq hq=>?_;rw[tL,XF (λz=>h z.1),Sw]
theorem ED {p:Int}(h:(rowOf v (i:Int)).1=p)(s0:0<=(rowOf v (i:Int)).2.1)(s1:(rowOf v (i:Int)).2.1<(n:Int)):(jL v p n i).set (rowOf v (i:Int)).2.1.toNat (kB v p i (rowOf v (i:Int)).2.1++[(i:Int)])=jL v p n (i+1):=by
 apply S6;intro j;by_cases hj:j<n
 ·rw[pO hj,tL];by_cases e:(rowOf v (i:Int)).2.1.toNat=j
  ·subst e;rw[Sh (by rw[lD];exact hj),XG ⟨h,`a⟩];rw[show(((rowOf v (i:Int)).2.1.toNat:Nat):Int)=(rowOf v (i:Int)).2.1 by cbv]
  ·rw[SF e,pO hj,XF (λz=>e (by have:=z.2;cbv)),Sw]
 ·rw[SE (by rw[SR,lD];cbv),SE (by rw[lD];cbv)]
theorem vb (v:gX)(p:Int)(i:Nat)(q:Int):(kB v p i q).length<=i:=by
 unfold kB;refine Ux (Tv _ _) ?_;rw[bp];exact Uw _
theorem FL {p q:Int}(q0:0<=q)(q1:q<v.1.getD p.toNat 0):(j9 v p)[q.toNat]?∣me v p q:=by
 have:=pO (v:=v) (p:=p) (n:=(v.1.getD p.toNat 0).toNat) (i:=v.2.length) (j:=q.toNat) `a;rw[show((q.toNat:Nat):Int)=q by cbv] at this;exact this
theorem boot_bool:VA "bool"∣(.type "bool"):=`b
end
variable {st:g6}
theorem qO (h:st≠[]):st[st.length-1]?∣st.getLast h:=by rw[List.getLast_eq_getElem];exact R7 _
abbrev Ma:Stmt:=top tK
abbrev P2:Rx:=["web","part","leaving","number","row"]
noncomputable def PK (fr:Bool):dh:=λK ps T=>∃(v:gX)(p:Int),ps=[⟨gF,v⟩,⟨ag,p⟩]/\mq v/\0<=p/\p<(v.1.length:Int)/\T=if fr=true then Dt K (ae ag) (· =j9 v p) else PZ K ag (· =j9 v p)
theorem OL (fr:Bool)(M:`ba)(Df:Def K mg "rows_leaving" Ma ["web","part"]):aE P w K mg base "rows_leaving" 1 (aR (PK fr) K):=by
 let Zd:SJ [("place":Str)]:=`c
 refine bP (N:=P2) Df `n;let⟨v,p,rfl,hv,p0,p1,rfl⟩:=hS;let pl:=hv.pl;let rl:=hv.rl;let hn:bX v.1 p∣v.1.getD p.toNat 0:=a7 0 p0 p1;let nb:=hv.sz (v.1.getD p.toNat 0) (by rw[R8,R7 `a];exact SO _);generalize hN:v.1.getD p.toNat 0=n at hn nb;change WS _ _ [Qi v,aA p,.no,.no,.no] _ _;refine ai (HV 2 (own:=["place"]) (fr:=[]) (ix:=[]) (ra:=ag) (rb:=ag) (P:=λ_ ys=>ys=[]) (bH (so:=ao Ma) (N0:=P2) rfl rfl `R `b) (dA M.range (aK (si `e) `g hn) ⟨`a,`a⟩)
  `G `W (λx=>⟨trivial,trivial⟩) (λC s H ex x hx=>ba.evr (aP aM `c) rfl) λa bs Yv pq _=>?_)
 let ey:=qt (λ_ _ h=>h) pq;rw[bp] at ey;let e0:S7 n.toNat ([]:Rv)=jL v p n.toNat 0:=by
  unfold jL kB;apply S6;intro j;rw[Tx,Sf];by_cases hj:j<n.toNat
  ·rw[XG hj,ub hj];rfl
  ·rw[XF hj,SE (by rw[bp];cbv)];rfl
 rw[e0] at ey;subst ey;refine ai (bO (r:=cQ ag dU) (λi Z=>∃v3 v4,Z=[Qi v,aA p,.ob (fN ag a bs (jL v p n.toNat i)),v3,v4])
  (iQ M.enumerate (h8 `e)) (eL 3 4) ⟨_,_,rfl⟩ ?_ ?_)
 ·rintro i x Z hx ⟨v3,v4,rfl⟩;let⟨e1,e2⟩:=fw hx;let il:=(R6.mp e2).1;let er:rowOf v i=x.2:=by unfold rowOf;rw[R8,show((i:Int)).toNat=i by cbv,e2];rfl
  refine aj (a9 (ay gi (Aq `T) `g) (λh=>?_) `J)
  ·let h:x.2.1=p:=XH h;let rp:=hv.rw _ (Sg e2);let q0:=rp.2.1.1;let q1:=rp.2.1.2;rw[h,hN] at q1;let len:=lD v p n.toNat i;refine aj (AI 2 (Iq `T) `p rfl (wq q0 `a) (pO (j:=x.2.2.1.toNat) `a) (Uz (Ux (vb v p i _) (show i<=100 by cbv)) `c) ?_);refine⟨aA x.1,.im dU x.2,?_⟩;have:=ED (v:=v) (p:=p) (n:=n.toNat) (i:=i) (by rw[er];exact h) (by rw[er];exact q0) (by rw[er];cbv);rw[er] at this;rw[e1,show((x.2.2.1.toNat:Nat):Int)=x.2.2.1 by cbv,this];rfl
  ·let h:x.2.1≠p:=XI h;refine⟨aA x.1,.im dU x.2,?_⟩;rw[Cv (by rw[er];exact h)];rfl
 ·rintro Z ⟨v3,v4,rfl⟩;rw[cK];let e:jL v p n.toNat v.2.length=j9 v p:=by unfold j9;rw[hN];rfl
  rw[e];let ll:(j9 v p).length<=16:=by rw[← e,lD];cbv
  cases fr with
  | false=>exact aj (Ml 2 rfl rfl)
  | true=>
    refine aj (HK 2 rfl (aL `a) (λxs hx=>?_) rfl);rw[← e] at hx;let⟨q,_,rfl⟩:=Sv.mp hx;exact aL (Ux (vb v p _ q) `a)
abbrev O5:Stmt:=top yB
def LL:dh:=λK ps T=>∃x:Int,ps=[⟨ag,x⟩]/\T=cR K dc (· =true)
theorem NT (M:`ba)(M4:jN mg)(Df:Def K mg "is_whole" O5 ["value"]):aE P w K mg base "is_whole" 1 (aR LL K):=by
 refine bP (N:=["value"]) Df `n;let⟨x,rfl,rfl⟩:=hS;exact aj (aX (oz (bA M4.isinstance M.int U5 `e ty_int) (λ_=>tE (wu (bA M4.isinstance M4.bool boot_bool `e ty_int)))) rfl)
abbrev Dc:Stmt:=top yh
theorem JN:bF ["values"] ["values"] (ao Dc):=Y6
def OX:dh:=λK ps T=>((∃ns:Rv,ps=[⟨ae ag,ns⟩])∨(∃r:Row,ps=[⟨dU,r⟩]))/\T=cR K dc (· =true)
theorem BQ (xs:`u):((xs.filter λ_=>true).map λ_=>true).all id=true:=by
 rw[T1];intro b hb;let⟨_,_,rfl⟩:=Sv.mp hb;rfl
theorem Nj (M:`ba)(M4:jN mg)(CI:aE P w K mg base "is_whole" 1 (aR LL K))(F:dO K "are_whole" "are_whole" Dc f fd)(hm:mg "are_whole"∣.ref f)(hb:Binds K fd ["values"] []):aE P w K mg base "are_whole" 2 (aR OX K):=by
 let nd:=JN.nd;let Zd:SJ [("value":Str)]:=`c
 refine gU F JN hm hb (λqs T ⟨e,_⟩=>by rcases e with⟨_,e⟩ | ⟨_,e⟩<;>(rw[e];rfl)) `ab
 obtain⟨⟨ns,rfl⟩ | ⟨r,rfl⟩,rfl⟩:=hS
 ·exact aj (aX (sA M.all (ba.im (bW (own:=["value"]) (fr:=[]) (ix:=[]) (p:=λ_=>true) (f:=λ_=>true) (bH (so:=ao Dc) (N0:=["values"]) rfl rfl `R `b) (bI `e)
   `G `W (λC s H ex x hx=>dy) (λC s H ex x hx _=>aJ CI hr `bd ⟨_,rfl,rfl⟩)))) (BQ ns))
 ·exact aj (aX (sA M.all (ba.im (bW (own:=["value"]) (fr:=[]) (ix:=[]) (p:=λ_=>true) (f:=λ_=>true) (bH (so:=ao Dc) (N0:=["values"]) rfl rfl `R `b) (JU `e)
   `G `W (λC s H ex x hx=>dy) (λC s H ex x hx _=>aJ CI hr `bd ⟨_,rfl,rfl⟩)))) (BQ _))
abbrev Gi:Stmt:=top rP
abbrev G8:Rx:=["answers","bound"]
theorem KN:bF G8 G8 (ao Gi):=Y6
noncomputable def oP (ans:Rv):Bool:=((ans.filter λ_=>true).map λa=>decide (0<=a)&&decide (a<=1)).all id
def P7:dh:=λK ps T=>∃(ans:Rv)(bound:Int),ps=[⟨ae ag,ans⟩,⟨ag,bound⟩]/\oP ans=true/\0<=bound/\T=cR K nW (λ_=>True)
theorem ND (M:`ba)(M4:jN mg)(CI:aE P w K mg base "is_whole" 1 (aR LL K))(CA:aE P w K mg base "are_whole" 2 (aR OX K))(F:dO K "need_answers" "need_answers" Gi f fd)(hm:mg "need_answers"∣.ref f)(hb:Binds K fd G8 []):aE P w K mg base "need_answers" 3 (aR P7 K):=by
 let nd:=KN.nd;let Zd:SJ [("answer":Str)]:=`c
 refine Ly F KN hm hb (λqs T ⟨_,_,e,_⟩=>by rw[e];rfl) `ab;let⟨ans,bound,rfl,ha,hb,rfl⟩:=hS;refine⟨λ_ _ _=>⟨(),rfl,trivial⟩,?_⟩;change WS _ _ [c8 ans,aA bound] _ _;refine ai (a9 (TW.tv (jd (gz (bV (bA M4.isinstance M.list U0 `e ty_list))) (λ_=>jd (gz (bV (aJ CA hr `bd ⟨.inl ⟨_,rfl⟩,rfl⟩))) (λ_=>jb (gz (bV (sA M.all (ba.im (bW (own:=["answer"]) (fr:=[]) (ix:=[]) (p:=λ_=>true) (f:=λa=>decide (0<=a)&&decide (a<=1)) (bH (so:=ao Gi) (N0:=G8) rfl rfl `R `b) (bI `e)
  `G `W (λC s H ex x hx=>dy) (λC s H ex x hx _=>qZ xB xB ev_int `e ev_int)))))))))) (λh=>?_) `J)
 ·let h2:(false ||(false || !oP ans))=true:=h;rw[ha] at h2;cases h2
 refine aj (a9 (TW.tv (jd (gz (bV (aJ (CI.mono `c) hr (ah `g ax) ⟨_,rfl,rfl⟩))) (λ_=>jb (ay nO `g ev_int)))) (λh=>?_) (λh=>aG trivial));let h2:(false ||decide (bound<0))=true:=h;simp at h2;cbv
abbrev P4:Stmt:=top yI
def Mm:dh:=λK ps T=>∃p:Int,ps=[⟨ag,p⟩]/\T=cR K js (· =(p,0))
theorem Og (M3:kK mg)(Df:Def K mg "at_begin" P4 ["part"]):aE P w K mg base "at_begin" 1 (aR Mm K):=by
 let⟨t1,hB⟩:=M3.beg;refine bP (N:=["part"]) Df `n;let⟨p,rfl,rfl⟩:=hS;change WS _ _ [aA p] _ _;exact aj (aX (i7 (ah `e (ah (fT hB) ax))) rfl)
abbrev Hn:Stmt:=top OK
noncomputable def jx (st:g6)(r:Row):g6:=trim (if r.2.2.2= -1 then st.set (st.length-1) (r.1,r.2.2.1) else st.set (st.length-1) (r.1,r.2.2.1)++[(r.2.2.2,0)])
def Qb:mf (Int×Int):=λK xs ps T=>∃r:Row,ps=[⟨dU,r⟩]/\xs≠[]/\xs.length<=200000/\T=λxs'=>cR K nW λz=>xs'=jx xs r/\z=()
theorem Om (M3:kK mg)(M4:jN mg)(CA:aE P w K mg base "at_begin" 1 (aR Mm K))(Df:Def K mg "go" Hn ["stack","row"]):aE P w K mg base "go" 2 (gG js Qb K):=by
 let⟨t1,hNC⟩:=M4.ZX;let⟨t2,hEND⟩:=M3.end_;refine FQ (N:=["stack","row"]) Df (λf XU A outer s H E a xs qs T nd hr hS=>?_);let⟨r,rfl,ne,hl,rfl⟩:=hS;change WS _ _ [.ob (aO a js xs),.im dU r] _ _;let hpos:0<xs.length:=TY.mpr ne;let hix:fL xs.length (-1)∣(xs.length-1):=by unfold fL;rw[XF `a,XG `a];congr 1;cbv
 refine ai (eN 0 (j:=xs.length-1) (i7 (ah (Aq `g) (ah (zC `g) ax))) `af rfl rfl hix ?_);let two:∀s2:g6,trim s2=jx xs r->WS (eU eI P w K mg base ["stack","row"] "go" (ao Hn) f XU A outer s H E).gW ((bE Hn).drop 2) [.ob (aO a js s2),.im dU r] (λZ=>∃xs',Z[0]?∣(.ob (aO a js xs'))/\∀H0 H' R',(cR K nW λz=>xs'=jx xs r/\z=()) H0 .X4 H' R') (wW K a js λxs'=>cR K nW λz=>xs'=jx xs r/\z=()):=by
  intro s2 he;refine aj (jA (λm Z=>∃s3:g6,Z=[.ob (aO a js s3),.im dU r]/\m=s3.length/\trim s3=jx xs r) (m0:=s2.length) ⟨s2,rfl,rfl,he⟩ ?_);rintro m Z ⟨s3,rfl,rfl,ht⟩;by_cases X3:s3=[]
  ·subst X3;refine⟨_,_,TV.box 0 (TW.tv (cZ (y:=false) (mX 0 rfl) `aE)) rfl rfl,λh=>XE h `c,λ_=>?_⟩;exact⟨[],rfl,λ_ _ _=>⟨(),rfl,by rw[← ht,yn],rfl⟩⟩
  ·let hl3:=qO X3;let ne':s3.isEmpty=false:=by cases s3 with
    | nil=>exact XE rfl X3
    | cons a b=>rfl
   refine⟨_,_,TV.box 0 (TW.tv (cZ (mX 0 rfl) (λ_=>eK (ay gi (h8 (pj 0 `af rfl rfl (lF hl3))) (fT hEND))))) rfl rfl,λh=>?_,λh=>?_⟩
   ·rw[RJ] at h;let h1:(s3.getLast X3).2=1:=XH h.2;refine aj (oV (EV.box 0 (wH 0 rfl hl3) rfl rfl) ?_);exact⟨s3.dropLast.length,by rw[TQ];have:=TY.mpr X3;cbv,s3.dropLast,rfl,rfl,by rw[← qJ X3 h1];exact ht⟩
   ·rw[ne'] at h;let h1:(s3.getLast X3).2≠1:= ~~~h
    rw[oT X3 h1] at ht;exact⟨s3,rfl,λ_ _ _=>⟨(),rfl,ht,rfl⟩⟩
 refine ai (a9 (ay EK (pD `g) (fT hNC)) (λh=>?_) `J)
 ·let h:r.2.2.2≠ -1:= ~~~h
  refine aj (oV (EV.box 0 (uY 0 (aJ CA hr (ah (pD `g) ax) ⟨_,rfl,rfl⟩) rfl rfl (Uz (show _<=200001 by rw[SR];cbv) `c)) rfl rfl) ?_);exact two _ (by rw[jx,XF h])
 ·let h:r.2.2.2= -1:= ~~~h
  exact two _ (by rw[jx,XG h])
abbrev vJ:hV:=("",0,0)
noncomputable def cW (s:iV)(n:Int):Int:=((s.parts.filter λp=>decide (p.2.1<=n)).length:Int)-1
noncomputable def eP (s:iV):List RF:=s.parts.map (cL s)
def YH (XN:Rx)(x:Str):Nat:=XN.findIdx λy=>decide (y=x)
noncomputable def fI (s:iV)(r:Rw):Row:=
 (cW s r.1,(bo ((eP s).getD (cW s r.1).toNat []) r.1).getD 0,(bo ((eP s).getD (cW s r.1).toNat []) r.2.1).getD 0,if r.2.2.1="call" then(YH (s.parts.map (·.1)) r.2.2.2:Int) else -1)
noncomputable def Yx (s:iV):gX:=((eP s).map λF=>(F.length:Int),s.rows.map (fI s))
structure Ey (s:iV):Prop where
 pt:∀r∈s.rows,0<=cW s r.1/\cW s r.1<(s.parts.length:Int)
 f1:∀r∈s.rows,(bo ((eP s).getD (cW s r.1).toNat []) r.1).isSome
 f2:∀r∈s.rows,(bo ((eP s).getD (cW s r.1).toNat []) r.2.1).isSome
 cl:∀r∈s.rows,r.2.2.1="call"->r.2.2.2∈s.parts.map (·.1)
theorem rQ (h:x∈XN):XN[YH XN x]?∣x/\∀m,m<YH XN x->XN[m]?≠some x:=by
 unfold YH;let hl:(XN.findIdx λy=>decide (y=x))<XN.length:=List.findIdx_lt_length_of_exists ⟨x,h,XJ rfl⟩;refine⟨?_,λm hm e=>?_⟩
 ·have:=List.findIdx_getElem (w:=hl);rw[R7 hl,XH this]
 ·have:=List.not_of_lt_findIdx hm;let⟨ml,em⟩:=R6.mp e;rw[em] at this;simp at this
theorem lV {o:Option Int}(h:o.isSome=true):o∣o.getD 0:=by
 cases o with
 | none=>cases h
 | some x=>rfl
abbrev Eb:Stmt:=top Bk
def KI (C D:Addr):dh:=λK ps T=>∃(s:iV)(n:Int),ps=[⟨cV C D,s⟩,⟨ag,n⟩]/\s.parts.length<=4/\T=cR K ag (· =cW s n)
theorem Mc (M:`ba)(HD:bM K D gH)(Df:Def K mg "part_at" Eb ["spots","number"]):aE P w K mg base "part_at" 1 (aR (KI C D) K):=by
 let Zd:SJ [("part":Str),"number"]:=`c
 refine bP (N:=["spots","number"]) Df `z;let⟨s,n,rfl,hl,rfl⟩:=hS;change WS _ _ [.im (cV C D) s,aA n] _ _;refine aj (aX (gy (cX M.len (ba.im (bW (own:=["part"]) (fr:=["number"]) (ix:=[1]) (ra:=av) (rb:=av) (p:=λz=>decide (AJ z<=n)) (f:=λz=>z) (bH (so:=ao Eb) (N0:=["spots","number"]) rfl rfl `R `b) (bI (jq (C:=C) HD `e))
  `G `O (λC' s' H ex z hz=>?_) (λC' s H ex z hz _=>aa 0 rfl)))) ev_int) ?_)
 ·let⟨p,hp,rfl⟩:=Sv.mp hz;exact ic (ay xB (EV.iP (n:=p.2.1) (dz `e ev_int rfl)) `g)
 ·unfold cW;rw[R9,Ui,R9];rfl
abbrev z3:Stmt:=top DW
abbrev Gf:Rx:=["text","spots","names","places","rows","row","part","calls"]
theorem Md:bF Gf ["text"] (ao z3):=Y6
def Qg:dh:=λK ps T=>∃(x:Str)(S:`N)(Ld:List Rv),ps=[⟨aq,x⟩]/\uc x S/\rj S Ld/\Good (Yc S Ld)/\Ey (Yc S Ld)/\T=cR K gF (· =Yx (Yc S Ld))
theorem Ol (M:`ba)(M4:jN mg)(HD:bM K D gH)(CN:aE P w K mg base "need_program" 6 (aR (O6 C D) K))(CP:aE P w K mg base "places_in" 1 (aR (Fs C D) K))(CA:aE P w K mg base "part_at" 1 (aR (KI C D) K))(F:dO K "web_of" "web_of" z3 f fd)(hm:mg "web_of"∣.ref f)(hb:Binds K fd ["text"] []):aE P w K mg base "web_of" 7 (aR Qg K):=by
 let nd:=Md.nd;let Zd:SJ [("part":Str)]:=`c
 let ZZ:SJ [("part":Str),"spots"]:=`c
 let ndc3:SJ [("known":Str)]:=`c
 let CP:=CP.mono (show 1<=6 by decide);let CA:=CA.mono (show 1<=6 by decide);refine gU (k:=6) F Md hm hb (λqs T ⟨_,_,_,e,_⟩=>by rw[e];rfl) (λXU A outer st H E qs T hr hS=>?_);let⟨x,S,Ld,rfl,hx,hk,hG,hW,rfl⟩:=hS;let⟨t,hnc⟩:=M4.ZX;let hu:=ru hr;change WS _ _ [.im aq x,.no,.no,.no,.no,.no,.no,.no] _ _;refine ai (bc 1 (y:=Yc S Ld) (aJ CN hr `bd ⟨x,S,Ld,rfl,hx,hk,hG,rfl⟩) ?_);generalize Yc S Ld=s at hG hW;let Yb:=hG.pl;let hrl:=hG.rl;change WS _ _ [.im aq x,.im (cV C D) s,.no,.no,.no,.no,.no,.no] _ _;let hnm:((s.parts.map og).filter λ_=>true).map vN=s.parts.map (·.1):=by rw[SQ.mpr λ_ _=>rfl,Ta];rfl
 refine ai (mM 2 (own:=["part"]) (fr:=[]) (ix:=[]) (ra:=av) (rb:=aq) (p:=λ_=>true) (f:=vN) (bH (so:=ao z3) (N0:=Gf) rfl rfl `R `b) (bI (jq (C:=C) HD `g))
  `G `W `ak (λC' s H ex o ho _=>by
   let⟨p,_,rfl⟩:=Sv.mp ho;exact EV.sP (x:=p.1) (dz `e ev_int rfl)) ?_)
 rw[hnm];generalize hns:s.parts.map (·.1)=XN;let hnl:XN.length=s.parts.length:=by rw[← hns,R9]
 refine WS.freeze 2 rfl (aL `a) ?_;change WS _ _ [.im aq x,.im (cV C D) s,.im (ae aq) XN,.no,.no,.no,.no,.no] _ _;let hpls:((ups 0 XN.length).filter λ_=>true).map (λi=>cL s (s.parts.getD i.toNat vJ))=eP s:=by
  rw[SQ.mpr λ_ _=>rfl,hnl];unfold eP;refine S6 λi=>?_;unfold ups;rw[Sf,Sf,Sf];obtain h | h:=UD i s.parts.length
  ·rw[SY h,R7 h];show some (cL s (s.parts.getD (0+(i:Int)).toNat vJ))=_;rw[show(0+(i:Int)).toNat=i by cbv,R8,R7 h];rfl
  ·rw[SE (~~~h),SE h];rfl
 refine ai (mM 3 (own:=["part"]) (fr:=["spots"]) (ix:=[1]) (ra:=ag) (rb:=jw) (p:=λ_=>true) (f:=λi=>cL s (s.parts.getD i.toNat vJ)) (bH (so:=ao z3) (N0:=Gf) rfl rfl `R `b) (dA M.range (cX M.len `r) ⟨`a,`a⟩)
  `G `O `ak (λC' s' H ex o ho _=>by
   let⟨i,hi⟩:=Sr.mp ho;let⟨il,rfl⟩:=eR hi;let il:i<s.parts.length:=`a
   rw[show(0:Int)+(i:Int)=(i:Int) by cbv];exact aJ CP hr (ah `g `bd) ⟨s,i,s.parts.getD i vJ,rfl,hG,by rw[R8,R7 il];rfl,rfl⟩) ?_)
 rw[show((XN.length:Int)).toNat=XN.length by cbv,hpls];let hpll:(eP s).length=s.parts.length:=by unfold eP;rw[R9]
 refine WS.freeze 3 rfl (aL `a) ?_;refine ai (cD 4 (r:=dU) (ys:=[]) `az ?_);change WS _ _ [.im aq x,.im (cV C D) s,.im (ae aq) XN,.im (ae jw) (eP s),.mu dU [],.no,.no,.no] _ _;refine bD (N1:=λZ=>∃e5 e6 e7,Z=[.im aq x,.im (cV C D) s,.im (ae aq) XN,.im (ae jw) (eP s),.mu dU (s.rows.map (fI s)),e5,e6,e7]) (bO (λi Z=>∃e5 e6 e7,Z=[.im aq x,.im (cV C D) s,.im (ae aq) XN,.im (ae jw) (eP s),.mu dU ((s.rows.take i).map (fI s)),e5,e6,e7]) (bI (vC (C:=C) HD `g)) (aW 5) ⟨_,_,_,rfl⟩ (λi z Z hz hΓ=>?_) `X) ?_
 ·let⟨e5,e6,e7,rfl⟩:=hΓ;rw[Sf] at hz;let⟨r,YW,rfl⟩:=UU.mp hz;let rm:=Sg YW;let il:=(R6.mp YW).1;let⟨q0,q1⟩:=hW.pt r rm;let Y4:(s.rows.take (i+1)).map (fI s)=(s.rows.take i).map (fI s)++[fI s r]:=by rw[SS,YW,So];rfl
  rw[Y4];let tl:((s.rows.take i).map (fI s)).length<=30:=by rw[R9,Sx];cbv
  generalize (s.rows.take i).map (fI s)=rs at tl;change WS _ _ [.im aq x,.im (cV C D) s,.im (ae aq) XN,.im (ae jw) (eP s),.mu dU rs,.im av (j5 r),e6,e7] _ _;refine ai (bc 6 (y:=cW s r.1) (aJ CA hr (ah `g (ah (EV.iP (n:=r.1) (dz `ai ev_int rfl)) ax)) ⟨s,r.1,rfl,Yb,rfl⟩) ?_);let hcl:r.2.2.1="call"->r.2.2.2∈XN:=λq=>by rw[← hns];exact hW.cl r rm q
  refine ai (bc 7 (y:=if r.2.2.1="call" then(YH XN r.2.2.2:Int) else -1) (EV.cast (lY (ay cu (EV.sP (x:=r.2.2.1) (dz `ai ev_int rfl)) aB) (λh=>Cw `r (EV.sP (x:=r.2.2.2) (dz `ai ev_int rfl)) (rQ (hcl (XH h))).1 (rQ (hcl (XH h))).2) (λ_=>fT hnc)) (by by_cases q:r.2.2.1="call"<;>simp[q])) ?_)
  let Yw:bX (eP s) (cW s r.1)∣((eP s).getD (cW s r.1).toNat []):=a7 (xs:=eP s) (i:=cW s r.1) [] q0 `a;refine aj (eQ 4 (y:=fI s r) (HJ (ak (EV.pI `an) (ak (EV.pI (jr hu (aK `p `an Yw) (EV.iP (n:=r.1) (dz `ai ev_int rfl)) (lV (hW.f1 r rm)))) (ak (EV.pI (jr hu (aK `p `an Yw) (EV.iP (n:=r.2.1) (dz `ai ev_int rfl)) (lV (hW.f2 r rm)))) (ak (EV.cast (EV.pI (aa 7 rfl)) (by unfold fI;rw[hns])) aM))))) rfl rfl (Uz tl `c) ⟨.im av (j5 r),aA (cW s r.1),aA (if r.2.2.1="call" then(YH XN r.2.2.2:Int) else -1),rfl⟩)
 ·let⟨e5,e6,e7,rfl⟩:=hΓ;refine⟨e5,e6,e7,?_⟩;rw[R9,SW]
 rintro _ ⟨e5,e6,e7,rfl⟩;refine WS.freeze 4 rfl (aL (by rw[R9];cbv)) ?_;refine aj (aX (i7 (ah (ba.im (bW (own:=["known"]) (fr:=[]) (ix:=[]) (ra:=jw) (rb:=ag) (p:=λ_=>true) (f:=λF=>(F.length:Int)) (bH (so:=ao z3) (N0:=Gf) rfl rfl `R `b) (bI `p)
  `G `W `ak (λC' s' H ex o ho _=>qL M.len `e))) (ah `T ax))) ?_)
 unfold Yx;rw[SQ.mpr λ_ _=>rfl]
def Ix (F:RF):Prop:=∀(i:Nat)(y:Int×Int),F[i]?∣y->y.2=(i:Int)
theorem Ix.put (h:Ix F)(k:Int):Ix (cU F k):=by
 unfold cU;split
 ·exact h
 ·intro i y hy;obtain q | q:=UD i F.length
  ·rw[SD q] at hy;exact h i y hy
  ·rw[SG q] at hy;have:i-F.length=0:=by
    have:=(R6.mp hy).1;rw[SN] at this;cbv
   rw[this] at hy;let hy:(k,(F.length:Int))=y:= ~~~hy
   rw[← hy];show(F.length:Int)=(i:Int);cbv
theorem mK (F:RF)(k:Int):F <+:cU F k:=by
 unfold cU;split
 ·exact prefix_rfl
 ·exact List.prefix_append _ _
theorem pX (F:RF)(k:Int):k∈(cU F k).map (·.1):=by
 unfold cU;split
 ·rename_i h;exact iH.mp h
 ·rw[So];exact Sk _ `d
theorem HR (p:hV)(F:RF)(r:Rw):F <+:eh p F r:=by
 unfold eh;split
 ·exact(mK _ _).trans (mK _ _)
 ·exact prefix_rfl
theorem Ix.rows {p:hV}:∀{rs:List Rw}{F:RF},Ix F->Ix (rs.foldl (eh p) F)
 | [],F,h=>h
 | r::rs,F,h=>by
   rw[S9];refine Ix.rows ?_;unfold eh;split
   ·exact(h.put _).put _
   ·exact h
theorem rD {p:hV}:∀{rs:List Rw}{F:RF},F <+:rs.foldl (eh p) F
 | [],F=>prefix_rfl
 | r::rs,F=>by rw[S9];exact(HR p F r).trans rD
theorem rH {p:hV}{r:Rw}(hi:ip p r=true):∀{rs:List Rw}{F:RF},r∈rs->r.1∈(rs.foldl (eh p) F).map (·.1)/\r.2.1∈(rs.foldl (eh p) F).map (·.1)
 | x::rs,F,h=>by
   rw[S9];obtain rfl | h:=Sj.mp h
   ·let pre:=rD (p:=p) (rs:=rs) (F:=eh p F r);let e:eh p F r=cU (cU F r.1) r.2.1:=by unfold eh;rw[XG hi]
    let sub:∀y,y∈(eh p F r).map (·.1)->y∈(rs.foldl (eh p) (eh p F r)).map (·.1):=λy hy=>by
     let⟨z,hz,rfl⟩:=Sv.mp hy;exact Sv.mpr ⟨z,pre.subset hz,rfl⟩
    refine⟨sub _ ?_,sub _ ?_⟩
    ·rw[e];let⟨z,hz,ez⟩:=Sv.mp (pX F r.1);exact Sv.mpr ⟨z,(mK _ _).subset hz,ez⟩
    ·rw[e];exact pX _ _
   ·exact rH hi h
theorem DM (a b:Int):Ix [(a,0),(b,1)]:=by
 intro i y hy
 match i with
 | 0=>have:(a,(0:Int))=y:= ~~~hy
      rw[← this];rfl
 | 1=>have:(b,(1:Int))=y:= ~~~hy
      rw[← this];rfl
 | i+2=>simp at hy
theorem HW {k v:Int}(h:bo F k∣v):(k,v)∈F:=by
 unfold bo at h;let⟨y,hy,rfl⟩:=UU.mp h;let h1:=List.mem_of_find?_eq_some hy;let h2:=List.find?_some hy;let h2:y.1=k:=XH h2;rw[← h2];exact h1
theorem yX {k v:Int}:∀{F:RF},(F.map (·.1)).Nodup->(k,v)∈F->bo F k∣v
 | y::F,nd,h=>by
   let⟨n1,n2⟩:=Sz.mp (show(y.1::F.map (·.1)).Nodup from nd);unfold bo;obtain e | h:=Sj.mp h
   ·rw[← e,Uh `d];rfl
   ·rw[TZ (by
     simp only[decide_eq_true_eq];intro e;exact n1 (by rw[e];exact Sv.mpr ⟨_,h,rfl⟩))]
    exact yX n2 h
theorem Ix.val (h:Ix F){k:Int}(hk:k∈F.map (·.1)):∃i:Nat,bo F k∣(i:Int)/\i<F.length/\F[i]?∣(k,(i:Int)):=by
 let hs:=iH.mpr hk;cases e:bo F k with
 | none=>rw[e] at hs;cases hs
 | some v=>
   let hm:=HW e;let⟨i,hi⟩:=Sr.mp hm;have:=h i _ hi;let hv:v=(i:Int):=this;rw[hv] at hi ⊢;exact⟨i,rfl,(R6.mp hi).1,hi⟩
theorem AV {p:α->Bool}{l:`u}(hj:j<l.length)(h:∀(i:Nat)(x:α),l[i]?∣x->(p x=true↔i<=j)):(l.filter p).length=j+1:=by
 conv=>lhs;rw[← Tw (j+1) l]
 rw[SU,SQ.mpr λx hx=>?_,Tj.mpr λx hx=>?_,Sw,Sx]
 ·cbv
 ·let⟨i,hi⟩:=Sr.mp hx;rw[Ug] at hi;intro q;have:=(h _ _ hi).mp q;cbv
 ·let⟨i,hi⟩:=Sr.mp hx;let il:i<(l.take (j+1)).length:=(R6.mp hi).1;rw[Sx] at il;rw[List.getElem?_take_of_lt `a] at hi;exact(h _ _ hi).mpr `a
theorem DL {St:Rv}(h:r∈gj S Ld St):∃(n:Nat)(s:aH)(l:Int),S[n]?∣s/\r.1=(n:Int)/\aY s.kind=true/\l∈Ld.getD n []/\r.2.1=St.getD l.toNat 0/\r.2.2.1∈(cM dI s.kind).getD []/\r.2.2.2=s.name:=by
 unfold gj at h;let⟨z,hz,hr⟩:=T3.mp h;unfold dZ at hr;let⟨y,hy,rfl⟩:=Sv.mp hr;let⟨i,hi⟩:=Sr.mp hz;let⟨e1,e2⟩:=fw hi;unfold j6 at hy;let⟨h1,h2⟩:=T5 (show(y.1,y.2)∈_ from hy);rw[e1,show((i:Nat):Int).toNat=i by cbv] at h2;refine⟨i,z.2,y.2,e2,e1,?_,h2,rfl,h1,rfl⟩;unfold aY;cases q:cM dI z.2.kind with
 | none=>rw[q] at h1;cases h1
 | some v=>rfl
theorem DK {k:Str}(h:("call":Str)∈(cM dI k).getD []):k="call":=by
 unfold cM at h;split at h
 ·exact XE h `b
 unfold cM at h;split at h
 ·rename_i e;exact e.symm
 unfold cM at h;split at h
 ·exact XE h `b
 unfold cM at h;split at h
 ·exact XE h `b
 ·unfold cM at h;cases h
theorem EW {n:Int}(h:ft S F n ls)(hr:aY (aU S n)=true):ls≠[]:=by
 cases h with
 | enp h _ _ _=>rw[h] at hr;exact XE hr `b
 | _=>simp
theorem Fh {k:Str}(h:aY k=true):(cM dI k).getD []≠[]:=by
 unfold aY cM at h;unfold cM;split at h
 ·rename_i e;rw[XG e];decide
 rename_i e;rw[XF e];unfold cM at h ⊢;split at h
 ·rename_i e;rw[XG e];decide
 rename_i e;rw[XF e];unfold cM at h ⊢;split at h
 ·rename_i e;rw[XG e];decide
 rename_i e;rw[XF e];unfold cM at h ⊢;split at h
 ·rename_i e;rw[XG e];decide
 ·cases h
theorem J3 {St:Rv}(hs:S[n]?∣s)(hk:aY s.kind=true)(hl:Ld.getD n []≠[]):∃r∈gj S Ld St,r.1=(n:Int):=by
 let hw:=Fh hk;cases e1:(cM dI s.kind).getD [] with
 | nil=>exact XE e1 hw
 | cons x xs=>cases e2:Ld.getD n [] with
   | nil=>exact XE e2 hl
   | cons y ys=>
     refine⟨sL St ((n:Int),s) (x,y),T3.mpr ⟨((n:Int),s),qX hs,?_⟩,rfl⟩;unfold dZ;refine Sv.mpr ⟨(x,y),?_,rfl⟩;unfold j6;rw[show(((n:Int),s).1).toNat=n by show((n:Nat):Int).toNat=n;cbv,e2];show(x,y)∈((cM dI s.kind).getD []).zip (y::ys);rw[e1];exact Se
abbrev bK (XN:Rx)(Ls:`F):iV:=Yc `i `D
abbrev i6 (f:Nat)(z:`bf):hV:=(z.1,(f:Int),((lst f z:Nat):Int))
theorem w8 (h:`aI)(hz:(dg XN Ls)[j]?∣z):(c5 `i)[j]?∣(i6 `k z):=by
 let hn:=vy h;let hlp:(c5 `i).length=XN.length:=by rw[← congrArg List.length hn,R9]
 let⟨_,_,_,hnj,_⟩:=eX h hz;let jl:=(R6.mp hnj).1;let jp:j<(c5 `i).length:=`a
 rw[R7 jp];let⟨j',z',w',hz',Y0,e⟩:=nZ h (SO jp);let h1:XN[j]?=some ((c5 `i)[j]).1:=by
  conv=>lhs;rw[← hn]
  rw[Sf,R7 jp];rfl
 let⟨_,_,_,hnj',_⟩:=eX h hz';rw[e] at h1;let h1:XN[j]?∣z'.1:=h1;let jl':=(R6.mp hnj').1;let ej:j=j':=by
  rw[R7 jl] at h1;rw[R7 jl'] at hnj';exact(Ua h.nd).mp ((Option.some.inj h1).trans (Option.some.inj hnj').symm)
 subst ej;rw[hz] at hz';cases Option.some.inj hz'
 rw[e]
theorem oU (h:`aI):(dg XN Ls).length=Ls.length:=by rw[Ts,h.l];cbv
theorem l6 (h:`aI):(c5 `i).length=Ls.length:=by
 rw[← h.l,← congrArg List.length (vy h),R9]
theorem pK (h:`aI)(hz:(dg XN Ls)[j]?∣z)(h1:fst XN Ls j<=n)(h2:n<=lst `k z):cW `B (n:Int)=(j:Int):=by
 let jl:=(R6.mp hz).1;let zl:=oU h;let pl:=l6 h;unfold cW;show(((c5 `i).filter λp=>decide (p.2.1<=(n:Int))).length:Int)-1=_;rw[AV (j:=j) `a λi x hx=>?_]
 ·push_cast;cbv
 ·let il:=(R6.mp hx).1;let hzi:(dg XN Ls)[i]?∣((dg XN Ls)[i]'`a):=R7 `a;rw[w8 h hzi] at hx;let hx:=Option.some.inj hx;rw[← hx];show decide (((fst XN Ls i:Nat):Int)<=(n:Int))=true↔i<=j;rw[decide_eq_true_eq];constructor
  ·intro q;refine Classical.byContradiction λc=>?_;have:=pA `M j i z hz `a;let h2:n<=fst XN Ls j+1+XS z.2:=h2;have:fst XN Ls j+2+XS z.2<=fst XN Ls i:=this;cbv
  ·intro q;obtain c | c:=UD i j
   ·have:=pA `M i j _ hzi c;have:fst XN Ls i+2+XS ((dg XN Ls)[i]'`a).2<=fst XN Ls j:=this;cbv
   ·have:i=j:=`a
    subst this;cbv
structure NV (S:`N)(f l:Nat)(F:RF):Prop where
 ix:Ix F
 nd:(F.map (·.1)).Nodup
 le:F.length<=16
 ge:2<=F.length
 kp:∀k∈F.map (·.1),(f:Int)<k/\k<=(l:Int)/\(k=(l:Int)∨aY (aU S k)=true)
 en:F[1]?∣((l:Int),1)
 bg:∃b,F[0]?∣(b,0)
theorem xw {f:Nat}{v:Int}(h:v∈oj S f z):JH S f (lst f z) v:=by
 unfold oj at h;obtain h | h:=Sl.mp h
 ·let⟨i,hi,rfl⟩:=Sv.mp h;let⟨h1,h2⟩:=SV.mp hi;let h1:=Tb.mp h1;refine⟨`a,?_,.inr h2⟩;show((f+1+i:Nat):Int)<=((f+1+XS z.2:Nat):Int);cbv
 ·rw[Sa.mp h];exact⟨by show(f:Int)<((f+1+XS z.2:Nat):Int);cbv,RY _,.inl rfl⟩
theorem xO (h:`aI){w:Int}(hz:(dg XN Ls)[j]?∣z)(hb:fJ `i `D XN `k w z)(hr:r∈(bK XN Ls).rows)(hi:ip (i6 `k z) r=true):r.1∈oj `i `k z/\r.2.1∈oj `i `k z:=by
 let⟨Y9,ZE,ok3,_⟩:=eX h hz;let YN:=λn h1 h2=>hb.Bd kJ Y9 _ n rfl h1 h2;let⟨n,s,l,h1,h2,h3,h4,h5⟩:=n6 hr;unfold ip at hi;rw[RJ] at hi;let i1:((fst XN Ls j:Nat):Int)<r.1:=XH hi.1;let i2:r.1<((lst `k z:Nat):Int):=XH hi.2;rw[h2] at i1 i2;let YZ:aU `i (n:Int)=s.kind:=(dD h1).1;let st:=hb.all kJ Y9 n `a `a;let rg:=st.rg l h4;refine⟨?_,?_⟩
 ·rw[h2];exact jQ ⟨i1,`a,.inr (by rw[YZ];exact h3)⟩
 ·rw[h5];exact jQ (YN l.toNat `a `a)
theorem oX (h:`aI)(hz:(dg XN Ls)[j]?∣z):NV `i `k (lst `k z) (cL `B (i6 `k z)):=by
 let⟨w,hb⟩:=hZ (XN:=XN) (Ls:=Ls) hz;let⟨Y9,ZE,ok3,_⟩:=eX h hz;let fl:fst XN Ls j<lst `k z:=by show _<fst XN Ls j+1+XS z.2;cbv
 let YN:=λn h1 h2=>hb.Bd kJ Y9 _ n rfl h1 h2;let X3:(aZ `i `D).getD `k 0≠((lst `k z:Nat):Int):=by
  rw[hb.first Y9 ZE];have:=(lj hb Y9 ZE).2;show((fst XN Ls j+1:Nat):Int)≠((fst XN Ls j+1+XS z.2:Nat):Int);cbv
 let e0:(bK XN Ls).St.getD ((fst XN Ls j:Nat):Int).toNat 0=(aZ `i `D).getD `k 0:=by rw[show((fst XN Ls j:Nat):Int).toNat=fst XN Ls j by cbv];rfl
 unfold cL;dsimp only;rw[e0];generalize hb0:(aZ `i `D).getD `k 0=b at X3;let ks:jF (oj `i `k z) ((bK XN Ls).rows.foldl (eh (i6 `k z)) [(b,0),(((lst `k z:Nat):Int),1)]):=by
  refine jF.rows ⟨?_,λx hx=>?_⟩ λr hr hi=>xO h hz hb hr hi
  ·exact Sz.mpr ⟨λq=>X3 (Sa.mp q),Sz.mpr ⟨`d,TR⟩⟩
  ·let hx:x=b∨x=((lst `k z:Nat):Int):= ~~~hx
   obtain rfl | rfl:=hx
   ·rw[← hb0];exact jQ (YN _ (Uw _) `a)
   ·exact jQ ⟨`a,RY _,.inl rfl⟩
 let pre:=rD (p:=(i6 `k z)) (rs:=(bK XN Ls).rows) (F:=[(b,0),(((lst `k z:Nat):Int),1)]);let⟨t,ht⟩:=pre;refine⟨Ix.rows (DM _ _),ks.1,Ux ks.len (Cr hb ok3),?_,λk hk=>xw (ks.2 k hk),?_,⟨b,?_⟩⟩
 ·rw[← ht];simp
 ·rw[← ht];rfl
 ·rw[← ht];rfl
theorem wX (h:`aI)(hr:r∈(bK XN Ls).rows):∃(j:Nat)(z:`bf),(dg XN Ls)[j]?∣z/\cW `B r.1=(j:Int)/\ip (i6 `k z) r=true:=by
 let⟨n,s,l,h1,h2,h3,h4,h5⟩:=n6 hr;let hn:=(R6.mp h1).1;let⟨j,z,w,hz,hb,q1,q2,q3⟩:=nC h n hn;let YZ:aU `i (n:Int)=s.kind:=(dD h1).1;refine⟨j,z,hz,by rw[h2];exact pK h hz q1 q2,?_⟩;let n1:n≠fst XN Ls j:=λe=>by
  rw[e,hb.k] at YZ;rw[← YZ] at h3;exact XE h3 `b
 let n2:n≠lst `k z:=λe=>by
  rw[e,(dD hb.e).1] at YZ;rw[← YZ] at h3;exact XE h3 (show¬aY "end"=true by decide +kernel)
 unfold ip;rw[RJ,h2];exact⟨XJ (show((fst XN Ls j:Nat):Int)<(n:Int) by cbv),XJ (show(n:Int)<((lst `k z:Nat):Int) by cbv)⟩
theorem lg (h:`aI)(hz:(dg XN Ls)[j]?∣z):(eP `B)[j]?∣(cL `B (i6 `k z)):=by
 unfold eP;rw[Sf];show((c5 `i)[j]?).map _=_;rw[w8 h hz];rfl
theorem zR (h:`aI):(eP `B).length=Ls.length:=by
 unfold eP;rw[R9];exact l6 h
theorem GC (h:`aI):Ey `B:=by
 let zl:=oU h;let pl:=l6 h;let key:∀r∈(bK XN Ls).rows,r.1∈((eP `B).getD (cW `B r.1).toNat []).map (·.1)/\r.2.1∈((eP `B).getD (cW `B r.1).toNat []).map (·.1):=λr hr=>by
  let⟨j,z,hz,e,hi⟩:=wX h hr;rw[e,show((j:Nat):Int).toNat=j by cbv,R8,lg h hz];exact rH hi hr
 refine⟨λr hr=>?_,λr hr=>iH.mpr (key r hr).1,λr hr=>iH.mpr (key r hr).2,λr hr hc=>?_⟩
 ·let⟨j,z,hz,e,_⟩:=wX h hr;let jl:=(R6.mp hz).1;rw[e];exact⟨`a,by show(j:Int)<((c5 `i).length:Int);cbv⟩
 ·let⟨n,s,l,h1,h2,h3,h4,h5,h6,h7⟩:=DL hr;rw[hc] at h6;let hk:=DK h6;let⟨Ld,ZL,hG⟩:=Im XN Ls h;let⟨m,u,_,hm,hu,hun⟩:=hG.ca n s h1 hk;rw[h7,← hun];show u.name∈(c5 `i).map (·.1);rw[wI];unfold YC;exact Sv.mpr ⟨u,SV.mpr ⟨Sg hm,XJ hu⟩,rfl⟩
theorem GI (h:`aI)(hG:Good `B):mq (Yx `B):=by
 let zl:=oU h;let pl:=l6 h;let wb:=GC h;let sl:=zR h;let l1:=h.l1;let l4:=h.l4;let vl:(Yx `B).1.length=Ls.length:=by unfold Yx;rw[R9];exact sl
 let vat:∀{j:Nat}{z:`bf},(dg XN Ls)[j]?∣z->(Yx `B).1.getD j 0=((cL `B (i6 `k z)).length:Int):=λ{j z} hz=>by
  unfold Yx;rw[R8,Sf,lg h hz];rfl
 refine⟨`a,`a,?_,λn hn=>?_,λr hr=>?_,λp k hp hk hk1=>?_⟩
 ·unfold Yx;rw[R9];exact hG.rl
 ·unfold Yx at hn;let⟨F,hF,rfl⟩:=Sv.mp hn;let⟨j,hj⟩:=Sr.mp hF;let jl:=(R6.mp hj).1;let hz:(dg XN Ls)[j]?∣((dg XN Ls)[j]'`a):=R7 `a;let po:=oX h hz;rw[lg h hz] at hj;rw[← Option.some.inj hj];have:=po.le;have:=po.ge;cbv
 ·unfold Yx at hr;let⟨q,hq,rfl⟩:=Sv.mp hr;let⟨j,z,hz,e,hi⟩:=wX h hq;let jl:=(R6.mp hz).1;let po:=oX h hz;let⟨k1,k2⟩:=rH hi hq (F:=[((bK XN Ls).St.getD ((fst XN Ls j:Nat):Int).toNat 0,0),(((lst `k z:Nat):Int),1)]);let⟨i1,e1,l1',_⟩:=po.ix.val k1;let⟨i2,e2,l2',_⟩:=po.ix.val k2;let eF:(eP `B).getD (cW `B q.1).toNat []=cL `B (i6 `k z):=by
   rw[e,show((j:Nat):Int).toNat=j by cbv,R8,lg h hz];rfl
  let w1:(fI `B q).1=(j:Int):=e;let w2:(fI `B q).2.1=(i1:Int):=by unfold fI;dsimp only;rw[eF,e1];rfl
  let w3:(fI `B q).2.2.1=(i2:Int):=by unfold fI;dsimp only;rw[eF,e2];rfl
  rw[w1,w2,w3,vl,show((j:Nat):Int).toNat=j by cbv,vat hz];refine⟨⟨`a,`a⟩,⟨`a,`a⟩,⟨`a,`a⟩,?_⟩;show(if q.2.2.1="call" then _ else _)= -1∨_;unfold fI;dsimp only;by_cases c:q.2.2.1="call"
  ·rw[XG c];have:=(R6.mp (rQ (wb.cl q hq c)).1).1;let Yb:((bK XN Ls).parts.map (·.1)).length=Ls.length:=by rw[R9];exact pl
   exact .inr ⟨`a,`a⟩
  ·rw[XF c];exact .inl rfl
 ·let hz:(dg XN Ls)[p]?∣((dg XN Ls)[p]'`a):=R7 `a;rw[vat hz] at hk;let po:=oX h hz;generalize hzz:((dg XN Ls)[p]'`a)=z at hz po hk;generalize hF:cL `B (i6 (fst XN Ls p) z)=F at po hk;let kl:k<F.length:=`a
  let hFk:F[k]?=some F[k]:=R7 kl;let hv:=po.ix k _ hFk;let Zy:F[k]∈F:=SO kl;let⟨a1,a2,a3⟩:=po.kp _ (Sv.mpr ⟨_,Zy,rfl⟩);let X3:F[k].1≠((lst (fst XN Ls p) z:Nat):Int):=λc=>by
   let h1:(F.map (·.1))[k]?=some F[k].1:=by rw[Sf,hFk];rfl
   let h2:(F.map (·.1))[1]?∣((lst (fst XN Ls p) z:Nat):Int):=by rw[Sf,po.en];rfl
   rw[c] at h1;let k1:=(R6.mp h1);let k2:=(R6.mp h2);let⟨x1,y1⟩:=k1;let⟨x2,y2⟩:=k2;exact hk1 ((Ua po.nd).mp (y1.trans y2.symm))
  let Zi:=a3.resolve_left X3;let⟨w,hb⟩:=hZ (XN:=XN) (Ls:=Ls) hz;let⟨Y9,ZE,ok3,_⟩:=eX h hz;let ll:lst (fst XN Ls p) z<(aw XN Ls).length:=(R6.mp hb.e).1;obtain⟨n,hn⟩:∃n:Nat,F[k].1=(n:Int):=⟨F[k].1.toNat,`a⟩;rw[hn] at a1 a2 Zi X3;let nl:n<(aw XN Ls).length:=`a
  let hs:(aw XN Ls)[n]?=some (aw XN Ls)[n]:=R7 nl;let YZ:aU `i (n:Int)=((aw XN Ls)[n]).kind:=(dD hs).1;let st:=hb.all kJ Y9 n `a `a;let⟨r,hr,er⟩:=J3 (St:=(bK XN Ls).St) hs (by rw[← YZ];exact Zi) (EW st.ld Zi);let hr:r∈(bK XN Ls).rows:=hr;let⟨i,hi⟩:=Sr.mp hr;refine⟨i,fI `B r,by unfold Yx;rw[Sf,hi];rfl,?_,?_⟩
  ·show cW _ r.1=_;rw[er];exact pK h hz `a `a
  ·unfold fI;dsimp only;rw[er,pK h hz `a `a,show((p:Nat):Int).toNat=p by cbv,R8,lg h hz,hF];show(bo F (n:Int)).getD 0=_;rw[yX (v:=(k:Int)) po.nd (by
    have:F[k]=((n:Int),(k:Int)):=UZ hn hv;rw[← this];exact Zy)]
   rfl
variable {ans:Rv}
section
variable {v:gX}
abbrev Wk:=Rv×Str×g6
abbrev qw:=Rv×Nat×g6
noncomputable def sy (x:Wk):PV:=.tup [.lst (x.1.map PV.int),.str x.2.1,.lst (x.2.2.map rE)]
def dW (st:g6):Int×Int:=st.getLastD (0,0)
def dF (v:gX)(st:g6):Rv:=me v (dW st).1 (dW st).2
noncomputable def lr (v:gX)(ans:Rv)(u:Nat)(st:g6):Option (Int×Nat):=
 if 1<(dF v st).length then(ans[u]?).map λa=>((dF v st).getD (1-a).toNat 0,u+1) else some ((dF v st).getD 0 0,u)
noncomputable def mi (v:gX)(ans:Rv)(s:qw):Option qw:=(lr v ans s.2.1 s.2.2).map λc=>(s.1++[c.1],c.2,jx s.2.2 (rowOf v c.1))
noncomputable def fZ (v:gX)(ans:Rv):Nat->qw->Wk
 | 0,s=>if s.2.2=[] then(s.1,"ended",[]) else(s.1,"bound",s.2.2)
 | n+1,s=>if s.2.2=[] then(s.1,"ended",[]) else
   match mi v ans s with
   | none=>(s.1,"wanting",s.2.2)
   | some s'=>fZ v ans n s'
theorem xt:∀{n:Nat}{s:qw},s.2.2=[]->fZ v ans n s=(s.1,("ended":Str),[])
 | 0,s,h=>by rw[fZ,XG h]
 | n+1,s,h=>by rw[fZ,XG h]
theorem Ap {s:qw}(h:s.2.2≠[]):fZ v ans 0 s=(s.1,("bound":Str),s.2.2):=by rw[fZ,XF h]
theorem uy {s:qw}(h:s.2.2≠[])(hn:mi v ans s=none):fZ v ans (n+1) s=(s.1,("wanting":Str),s.2.2):=by rw[fZ,XF h,hn]
theorem uK {s s':qw}(h:s.2.2≠[])(hn:mi v ans s∣s'):fZ v ans (n+1) s=fZ v ans n s':=by rw[fZ,XF h,hn]
theorem LZ {s s':qw}(h:mi v ans s∣s'):∃c,s'.1=s.1++[c]:=by
 unfold mi at h;let⟨c,_,rfl⟩:=UU.mp h;exact⟨c.1,rfl⟩
theorem wJ {v:gX}{ans:Rv}:∀(n:Nat)(s:qw),∃ex,(fZ v ans n s).1=s.1++ex/\ex.length<=n
 | 0,s=>⟨[],by rw[fZ];split<;>simp,Uw _⟩
 | n+1,s=>by
   by_cases h:s.2.2=[]
   ·exact⟨[],by rw[xt h];simp,Uy _⟩
   ·cases q:mi v ans s with
    | none=>exact⟨[],by rw[uy h q];simp,Uy _⟩
    | some s'=>
      let⟨ex,h1,h2⟩:=wJ (v:=v) (ans:=ans) n s';let⟨c,hc⟩:=LZ q;refine⟨c::ex,?_,by rw[Si];cbv⟩;rw[uK h q,h1,hc,Su];rfl
structure pf (v:gX)(st:g6):Prop where
 el:∀t∈st,(0<=t.1/\t.1<(v.1.length:Int))/\0<=t.2/\t.2<v.1.getD t.1.toNat 0
 tp:∀h:st≠[],(st.getLast h).2≠1
theorem mq.two (hv:mq v){p:Int}(h0:0<=p)(h1:p<(v.1.length:Int)):2<=v.1.getD p.toNat 0:=by
 rw[R8,R7 `a];exact(hv.sz _ (SO _)).1
theorem va (hv:mq v):pf v [(0,0)]:=by
 have:=hv.p1;let h2:=hv.two (p:=0) (RY _) `a;refine⟨λt ht=>?_,λh=>by show(0:Int)≠1;decide⟩;rw[Sa.mp ht];exact⟨⟨RY _,by show(0:Int)<_;cbv⟩,RY _,by show(0:Int)<v.1.getD (0:Int).toNat 0;cbv⟩
theorem Gn (hv:mq v)(hs:pf v st)(X3:st≠[]){r:Row}(hr:r∈v.2):pf v (jx st r)/\(jx st r).length<=st.length+1:=by
 let⟨r1,r2,r3,r4⟩:=hv.rw r hr;let base:∀t∈st.set (st.length-1) (r.1,r.2.2.1),(0<=t.1/\t.1<(v.1.length:Int))/\0<=t.2/\t.2<v.1.getD t.1.toNat 0:=λt ht=>by
  obtain h | h:=List.mem_or_eq_of_mem_set ht
  ·exact hs.el t h
  ·rw[h];exact⟨r1,r3⟩
 unfold jx;generalize hst2:(if r.2.2.2= -1 then st.set (st.length-1) (r.1,r.2.2.1) else st.set (st.length-1) (r.1,r.2.2.1)++[(r.2.2.2,0)])=s2;let h2:(∀t∈s2,(0<=t.1/\t.1<(v.1.length:Int))/\0<=t.2/\t.2<v.1.getD t.1.toNat 0)/\s2.length<=st.length+1:=by
  rw[← hst2];by_cases c:r.2.2.2= -1
  ·rw[XG c];exact⟨base,by rw[SR];cbv⟩
  ·rw[XF c];refine⟨λt ht=>?_,by rw[Sd,SR];exact Uw _⟩;obtain h | h:=Sl.mp ht
   ·exact base t h
   ·rw[Sa.mp h];let r4:=r4.resolve_left c;have:=hv.two r4.1 r4.2;exact⟨r4,RY _,by show(0:Int)<v.1.getD r.2.2.2.toNat 0;cbv⟩
 let⟨s',e,_,h3⟩:=rA s2.length s2 rfl;refine⟨⟨λt ht=>h2.1 t (by rw[e];exact Sn _ ht),h3⟩,?_⟩;have:s2.length=(trim s2).length+s'.length:=by
  have:=congrArg List.length e;rwa [Sd] at this
 cbv
theorem qG (h:st≠[]):dW st=st.getLast h:=by unfold dW;cases st with
 | nil=>exact XE rfl h
 | cons a b=>rfl
theorem y4 {c:Int}(h:c∈dF v st):0<=c/\c<(v.2.length:Int)/\rowOf v c∈v.2:=by
 unfold dF me at h;let⟨h1,_⟩:=SV.mp h;unfold ups at h1;let⟨i,hi,rfl⟩:=Sv.mp h1;let hi:=Tb.mp hi;refine⟨`a,`a,?_⟩;unfold rowOf;rw[show((0:Int)+(i:Int)).toNat=i by cbv,R8,R7 hi];exact SO hi
theorem xU (hv:mq v)(hs:pf v st)(X3:st≠[]):dF v st≠[]:=by
 let h1:=hs.el _ (List.getLast_mem X3);let h2:=hs.tp X3;let et:=qG X3;rw[← et] at h1 h2;let⟨n,r,hn,e1,e2⟩:=hv.fr (dW st).1.toNat (dW st).2.toNat `a (by have:=h1.2.2;cbv) `a;intro c;have:(n:Int)∈dF v st:=by
  unfold dF me;let nl:=(R6.mp hn).1;refine SV.mpr ⟨?_,?_⟩
  ·unfold ups;exact Sv.mpr ⟨n,Tb.mpr nl,`a⟩
  ·have:rowOf v (n:Int)=r:=by unfold rowOf;rw[show((n:Nat):Int).toNat=n by cbv,R8,hn];rfl
   rw[this,e1,e2];refine XJ (UZ ?_ ?_)
   ·show(((dW st).1.toNat:Nat):Int)=(dW st).1;cbv
   ·show(((dW st).2.toNat:Nat):Int)=(dW st).2;cbv
 rw[c] at this;cases this
theorem ym (h:oP ans=true){a:Int}(ha:ans[i]?∣a):0<=a/\a<=1:=by
 unfold oP at h;rw[T1] at h;have:=h (decide (0<=a)&&decide (a<=1)) (Sv.mpr ⟨a,SV.mpr ⟨Sg ha,rfl⟩,rfl⟩);let this:(decide (0<=a)&&decide (a<=1))=true:=this;rw[RJ] at this;exact⟨XH this.1,XH this.2⟩
theorem zK (hv:mq v)(ha:oP ans=true)(hs:pf v st)(X3:st≠[]){u:Nat}{c:Int×Nat}(h:lr v ans u st∣c):c.1∈dF v st:=by
 let fne:=xU hv hs X3;let fl:=TY.mpr fne;unfold lr at h;split at h
 ·let⟨a,h1,rfl⟩:=UU.mp h;have:=ym ha h1;dsimp only;rw[R8,R7 `a];exact SO _
 ·cases Option.some.inj h
  dsimp only;rw[R8,R7 `a];exact SO _
end
abbrev GA:Stmt:=top DC
abbrev Py:Rx:=["text","answers","bound","web","leaving","stack","rows","used","found","chosen"]
theorem Kx:bF Py ["text","answers","bound"] (ao GA):=Y6
abbrev Zs:qw:=([],0,[(0,0)])
def Ki:dh:=λK ps T=>∃(x:Str)(ans:Rv)(bound:Int)(S:`N)(Ld:List Rv),ps=[⟨aq,x⟩,⟨ae ag,ans⟩,⟨ag,bound⟩]/\uc x S/\rj S Ld/\Good (Yc S Ld)/\Ey (Yc S Ld)/\mq (Yx (Yc S Ld))/\oP ans=true/\0<=bound/\(fZ (Yx (Yc S Ld)) ans bound.toNat Zs).1.length<=100000/\T=cR K av (· =sy (fZ (Yx (Yc S Ld)) ans bound.toNat Zs))
theorem Ng (M:`ba)(M4:jN mg)(CW:aE P w K mg base "web_of" 7 (aR Qg K))(CN:aE P w K mg base "need_answers" 3 (aR P7 K))(CR:aE P w K mg base "rows_leaving" 1 (aR (PK true) K))(CB:aE P w K mg base "at_begin" 1 (aR Mm K))(CG:aE P w K mg base "go" 2 (gG js Qb K))(F:dO K "walked" "walked" GA f fd)(hm:mg "walked"∣.ref f)(hb:Binds K fd ["text","answers","bound"] []):aE P w K mg base "walked" 8 (aR Ki K):=by
 let nd:=Kx.nd;let Zd:SJ [("part":Str),"web"]:=`c
 let CN:=CN.mono (show 3<=7 by decide);let CR:=CR.mono (show 1<=7 by decide);let CB:=CB.mono (show 1<=7 by decide);let CG:=CG.mono (show 2<=7 by decide);let⟨t1,hFP⟩:=M4.first;let⟨t2,hY⟩:=M4.yes;let⟨t3,hEN⟩:=M4.ended;let⟨t4,hBO⟩:=M4.bound;let⟨t5,hWA⟩:=M4.wanting;refine gU (k:=7) F Kx hm hb (λqs T ⟨_,_,_,_,_,e,_⟩=>by rw[e];rfl) (λXU A outer st H E qs T hr hS=>?_);let⟨x,ans,bound,S,Ld,rfl,hx,hk,hG,hWb,hv,ha,hb0,hlen,rfl⟩:=hS;change WS _ _ [.im aq x,c8 ans,aA bound,.no,.no,.no,.no,.no,.no,.no] _ _;refine ai (bc 3 (y:=Yx (Yc S Ld)) (aJ CW hr `bd ⟨x,S,Ld,rfl,hx,hk,hG,hWb,rfl⟩) ?_);generalize Yx (Yc S Ld)=v at hv hlen;let pl:=hv.pl;change WS _ _ [.im aq x,c8 ans,aA bound,.im gF v,.no,.no,.no,.no,.no,.no] _ _;refine ai (HX CN hr (ah `g (ah `r ax)) ⟨ans,bound,rfl,ha,hb0,rfl⟩ ?_);refine ai (mM 4 (own:=["part"]) (fr:=["web"]) (ix:=[3]) (ra:=ag) (rb:=ae (ae ag)) (p:=λ_=>true) (f:=j9 v) (bH (so:=ao GA) (N0:=Py) rfl rfl `R `b) (dA M.range (cX M.len (si `p)) ⟨`a,`a⟩)
  `G `O `ak (λC' s' H ex o ho _=>by
   let⟨i,hi⟩:=Sr.mp ho;let⟨il,rfl⟩:=eR hi;exact ba.im (v9 CR hr (ah `g `bd) ⟨v,_,rfl,hv,`a,`a,rfl⟩)) ?_)
 rw[SQ.mpr λ_ _=>rfl,show((v.1.length:Int)).toNat=v.1.length by cbv];refine WS.freeze 4 rfl (aL (by rw[R9,bp];cbv)) ?_;generalize hlv:(ups 0 v.1.length).map (j9 v)=lv;refine ai (cD 5 (r:=js) (aP (ak (aJ CB hr (ah (fT hFP) ax) ⟨_,rfl,rfl⟩) aM) (by show 1<=U9;decide)) ?_);refine ai (cD 6 (r:=ag) (ys:=[]) `az ?_);refine ai (bc 7 (y:=((0:Nat):Int)) ev_int ?_);change WS _ _ [.im aq x,c8 ans,aA bound,.im gF v,.im (ae (ae (ae ag))) lv,.mu js [(0,0)],.mu ag [],aA ((0:Nat):Int),.no,.no] _ _;generalize hR:fZ v ans bound.toNat Zs=R at hlen;refine bD (N1:=λZ=>∃e7 e8 e9,Z=[.im aq x,c8 ans,aA bound,.im gF v,.im (ae (ae (ae ag))) lv,.mu js [],.mu ag R.1,e7,e8,e9]/\R=(R.1,("ended":Str),[]))
  (jA (λm Z=>∃(rows:Rv)(u:Nat)(st:g6)(e8 e9:Ent),Z=[.im aq x,c8 ans,aA bound,.im gF v,.im (ae (ae (ae ag))) lv,.mu js st,.mu ag rows,aA (u:Int),e8,e9]/\fZ v ans m (rows,u,st)=R/\(rows.length:Int)+(m:Int)=bound/\pf v st/\st.length<=rows.length+1/\u<=ans.length) (m0:=bound.toNat) ⟨[],0,[(0,0)],.no,.no,rfl,hR,by rw[SH];cbv,va hv,Uw _,Uy _⟩ ?_) ?_
 ·rintro m Z ⟨rows,u,st,e8,e9,rfl,hw,hm,hs,hl,hu⟩;let rl:rows.length<=100000:=by
   let⟨ex,h1,_⟩:=wJ (v:=v) (ans:=ans) m (rows,u,st);rw[hw] at h1;rw[h1,Sd] at hlen;have:rows.length+ex.length<=100000:=hlen;cbv
  refine⟨!st.isEmpty,_,mX 5 rfl,λh=>?_,λh=>?_⟩
  ·let X3:st≠[]:=λe=>by rw[e] at h;cases h
   let lz:=qO X3;let et:=qG X3;let te:=hs.el _ (List.getLast_mem X3);rw[← et] at te lz;let fne:=xU hv hs X3;let fl:=TY.mpr fne;refine ai (a9 (ay gi (tU 6 M.len rfl) `r) (λh=>?_) `J)
   ·let h:(rows.length:Int)=bound:=XH h;let m0:m=0:=`a
    subst m0;rw[Ap X3] at hw;refine WS.freeze 5 rfl (aL `a) (WS.freeze 6 rfl (aL `a) ?_);refine aj (aX (fP (ak (EV.zZ `an) (ak (EV.pS (rJ hBO)) (ak (EV.zN `ai) aM))) (by show 3<=U9;decide)) ?_);rw[← hw];rfl
   let h:¬(rows.length:Int)=bound:=XI h;obtain⟨m',rfl⟩:∃m',m=m'+1:=⟨m-1,`a⟩;let h1:bX lv (dW st).1∣(j9 v (dW st).1):=by
    rw[← hlv,a7 (xs:=(ups 0 v.1.length).map (j9 v)) [] te.1.1 (by rw[R9,bp];exact te.1.2),R8,Sf,ub `a,show(((dW st).1.toNat:Nat):Int)=(dW st).1 by cbv];rfl
   let h2:bX (j9 v (dW st).1) (dW st).2∣dF v st:=by
    have:=FL (v:=v) te.2.1 te.2.2;let hl:=(R6.mp this).1;rw[a7 (xs:=j9 v (dW st).1) [] te.2.1 `a,R8,this];rfl
   refine ai (bc 8 (r:=ae ag) (y:=dF v st) (aK (aK `T (si (pj 5 `af rfl rfl (lF lz))) h1) (h8 (pj 5 `af rfl rfl (lF lz))) h2) ?_);refine ai (bc 9 (y:=(dF v st).getD 0 0) (aK (aa 8 rfl) ev_int (a7 (xs:=dF v st) (i:=0) 0 (RY _) `a)) ?_);change WS _ _ [.im aq x,c8 ans,aA bound,.im gF v,.im (ae (ae (ae ag))) lv,.mu js st,.mu ag rows,aA (u:Int),c8 (dF v st),aA ((dF v st).getD 0 0)] _ _;refine bD (N1:=λZ=>∃(c:Int)(u':Nat),Z=[.im aq x,c8 ans,aA bound,.im gF v,.im (ae (ae (ae ag))) lv,.mu js st,.mu ag rows,aA (u':Int),c8 (dF v st),aA c]/\lr v ans u st∣(c,u')/\u'<=ans.length)
    (a9 (ay iL (cX M.len (aa 8 rfl)) ev_int) (λh=>?_) `J) ?_
   ·let h:1<((dF v st).length:Int):=XH h;refine ai (a9 (ay gi (aa 7 rfl) (cX M.len `g)) (λq=>?_) (λq=>aG ?_))
    ·let q:(u:Int)=(ans.length:Int):=XH q;let hn:mi v ans (rows,u,st)=none:=by
      unfold mi lr;rw[XG (by show 1<(dF v st).length;cbv),SE (show ans.length<=u by cbv)];rfl
     rw[uy X3 hn] at hw;refine WS.freeze 5 rfl (aL `a) (WS.freeze 6 rfl (aL `a) ?_);refine aj (aX (fP (ak (EV.zZ `an) (ak (EV.pS (rJ hWA)) (ak (EV.zN `ai) aM))) (by show 3<=U9;decide)) ?_);rw[← hw];rfl
    ·let q:¬(u:Int)=(ans.length:Int):=XI q;let ul:u<ans.length:=`a
     let hau:ans[u]?=some ans[u]:=R7 ul;let hab:=ym ha hau;generalize ans[u]=b at hau hab;let Yw:bX ans (u:Int)∣b:=by rw[a7 (xs:=ans) 0 `a `a,R8,show((u:Nat):Int).toNat=u by cbv,hau];rfl
     refine ai (bc 9 (y:=(dF v st).getD (1-b).toNat 0) (aK (aa 8 rfl) (gy (fT hY) (aK `g (aa 7 rfl) Yw)) (a7 (xs:=dF v st) (i:=1-b) 0 `a `a)) ?_);refine aj (BM 7 (a:=(u:Int)) (c:=1) ev_int rfl ⟨(dF v st).getD (1-b).toNat 0,u+1,?_,?_,ul⟩)
     ·rw[show((u+1:Nat):Int)=(u:Int)+1 by push_cast;rfl];rfl
     ·unfold lr;rw[XG `a,hau];rfl
   ·let h:¬1<((dF v st).length:Int):=XI h;refine⟨_,u,rfl,?_,hu⟩;unfold lr;rw[XF `a]
   rintro _ ⟨c,u',rfl,hc,Z1⟩;let cm:=zK hv ha hs X3 hc;let⟨c0,c1,c2⟩:=y4 cm;let hn:mi v ans (rows,u,st)∣(rows++[c],u',jx st (rowOf v c)):=by unfold mi;rw[hc];rfl
   rw[uK X3 hn] at hw;let gk:pf v (jx st (rowOf v c))/\(jx st (rowOf v c)).length<=st.length+1:=Gn hv hs X3 c2;refine ai (eQ 6 (y:=c) (aa 9 rfl) rfl rfl (Uz rl `c) ?_);refine aj (oV (xg 5 (st:=jx st (rowOf v c)) (rr:=nW) (z:=()) CG hr (ah (aK (h8 `p) (aa 9 rfl) (a7 n9 c0 c1)) ax) rfl rfl ⟨_,rfl,X3,`a,rfl⟩) ?_);refine⟨m',`a,rows++[c],u',jx st (rowOf v c),_,_,rfl,hw,?_,gk.1,?_,Z1⟩
   ·rw[Sd,SN];push_cast;push_cast at hm;cbv
   ·rw[Sd,SN];cbv
  ·let X3:st=[]:=by
    cases st with
    | nil=>rfl
    | cons a b=>cases h
   subst X3;rw[xt rfl] at hw;exact⟨aA (u:Int),e8,e9,by rw[← hw],by rw[← hw]⟩
 ·rintro _ ⟨e7,e8,e9,rfl,he⟩;refine WS.freeze 5 rfl (Uy _) (WS.freeze 6 rfl (aL `a) ?_);refine aj (aX (fP (ak (EV.zZ `an) (ak (EV.pS (rJ hEN)) (ak (EV.zN `ai) aM))) (by show 3<=U9;decide)) ?_);unfold sy;rw[he]
theorem z5 (h:∀a∈ans,a=0∨a=1):oP ans=true:=by
 unfold oP;rw[T1];intro b hb;let⟨a,ha,rfl⟩:=Sv.mp hb;rcases h a (SV.mp ha).1 with rfl | rfl<;>decide
def lh (ns:Rv)(k:Int):Nat:=(aQ ns k/3%41).toNat
noncomputable def mD (ns:Rv)(k j:Int):Int:=if aQ ns k%3<aQ ns (k+1+j)%4 then 1 else 0
noncomputable def Zo (ns:Rv)(k:Int):Rv:=(ups 0 (lh ns k)).map (mD ns k)
theorem EO (ns:Rv)(k:Int):∀a∈Zo ns k,a=0∨a=1:=λa ha=>by
 unfold Zo at ha;let⟨j,_,rfl⟩:=Sv.mp ha;unfold mD;split
 ·exact .inr rfl
 ·exact .inl rfl
theorem Ac (ns:Rv)(k:Int):lh ns k<=40:=by unfold lh;cbv
theorem xD (ns:Rv)(k:Int):(Zo ns k).length<=40:=by unfold Zo;rw[R9,bp];exact Ac ns k
abbrev OZ:Stmt:=top tJ
abbrev nAN:Rx:=["_law_script","_law_k","_law_number","_law_lean","_law_bits","_law_j","_law_bit"]
def Qs:dh:=λK ps T=>∃(ns:Rv)(k:Int),ps=[⟨cT,ns⟩,⟨ag,k⟩]/\zS ns/\0<=k/\k<=10000/\T=Dt K ag (· =Zo ns k)
theorem OU (M:`ba)(CM:aE P w K mg base "_law_mixed" 1 (aR Hd K))(Df:Def K mg "_law_answers" OZ ["_law_script","_law_k"]):aE P w K mg base "_law_answers" 2 (aR Qs K):=by
 refine bP (N:=nAN) (k:=1) Df `n;let⟨ns,k,rfl,hs,k0,k1,rfl⟩:=hS;let bd:=uI ns k;let hle:=Ac ns k;change WS _ _ [.im cT ns,aA k,.no,.no,.no,.no,.no] _ _;refine ai (bc 2 (y:=aQ ns k) (aJ CM hr (ah `e (ah `g ax)) ⟨ns,k,rfl,hs,k0,`a,rfl⟩) ?_);refine ai (bc 3 (y:=aQ ns k%3) (c6 `r ev_int `c) ?_);refine ai (cD 4 (r:=ag) (ys:=[]) `az ?_);change WS _ _ [.im cT ns,aA k,aA (aQ ns k),aA (aQ ns k%3),.mu ag [],.no,.no] _ _;refine bD (N1:=λZ=>∃e5 e6,Z=[.im cT ns,aA k,aA (aQ ns k),aA (aQ ns k%3),.mu ag (Zo ns k),e5,e6]) (bO (λi Z=>∃e5 e6,Z=[.im cT ns,aA k,aA (aQ ns k),aA (aQ ns k%3),.mu ag (((ups 0 (lh ns k)).take i).map (mD ns k)),e5,e6]) (dA M.range (c6 (qP `r ev_int ⟨`c,`c⟩) ev_int `c) ⟨`a,`a⟩) (aW 5) ⟨_,_,rfl⟩ (λi j Z hj hΓ=>?_) `X) ?_
 ·let⟨e5,e6,rfl⟩:=hΓ;let hj2:(ups 0 (lh ns k))[i]?∣j:=hj;let⟨jl,ej⟩:=eR hj;let jl:i<lh ns k:=jl;let Y4:((ups 0 (lh ns k)).take (i+1)).map (mD ns k)=((ups 0 (lh ns k)).take i).map (mD ns k)++[mD ns k j]:=by rw[SS,hj2,So];rfl
  rw[Y4];let tl:(((ups 0 (lh ns k)).take i).map (mD ns k)).length<=40:=by rw[R9,Sx];cbv
  generalize ((ups 0 (lh ns k)).take i).map (mD ns k)=bs at tl;change WS _ _ [.im cT ns,aA k,aA (aQ ns k),aA (aQ ns k%3),.mu ag bs,aA j,e6] _ _;refine ai (bc 6 (y:=aQ ns (k+1+j)%4) (c6 (aJ CM hr (ah `e (ah (bR (bR `g ev_int) `ai) ax)) ⟨ns,k+1+j,rfl,hs,`a,`a,rfl⟩) ev_int `c) ?_);refine aj (eQ 4 (y:=mD ns k j) (EV.cast (zr M.int (jt iL `an `p)) ?_) rfl rfl (Uz tl `c) ⟨_,_,rfl⟩);unfold mD;simp only[decide_eq_true_eq]
 ·let⟨e5,e6,rfl⟩:=hΓ;refine⟨e5,e6,?_⟩;rw[bp];rw[show(aQ ns k/3%41).toNat=lh ns k from rfl,Tr (by rw[bp];exact Uw _)];rfl
 rintro _ ⟨e5,e6,rfl⟩;exact aj (Jo 4 rfl (aL (by have:=xD ns k;cbv)) rfl)
mutual
noncomputable def eT:Th->Nat
 | .ifs _ A B=>1+fG A+fG B
 | .X1 _ A=>1+fG A
 | .Yh _=>1
 | .call _=>1
 | .leave=>0
 | .back=>0
noncomputable def fG:List Th->Nat
 | []=>0
 | t::ts=>eT t+fG ts
end
abbrev mZ:=Str×Str×Int×Int×Int
noncomputable def mn (ts:`U)(k bh lp:Int):Int:=match ts with
 | []=>bh
 | .leave::_=>lp
 | .back::_=> -1
 | _::_=>k
mutual
noncomputable def cF:Th->Int->Int->Int->List mZ
 | .Yh x,k,af,lp=>[("do",x,k,af, -1)]
 | .call j,k,af,lp=>[("call","",k,af,j)]
 | .ifs x A B,k,af,lp=>([(("yes":Str),x,k,mn A (k+1) af lp, -1),(("no":Str),x,k,mn B (k+1+fG A) af lp, -1)]:List mZ)++(cO A (k+1) af lp++cO B (k+1+fG A) af lp)
 | .X1 x A,k,af,lp=>([(("yes":Str),x,k,mn A (k+1) k af, -1),(("no":Str),x,k,af, -1)]:List mZ)++cO A (k+1) k af
 | .leave,_,_,_=>[]
 | .back,_,_,_=>[]
noncomputable def cO:List Th->Int->Int->Int->List mZ
 | [],_,_,_=>[]
 | t::ts,k,bh,lp=>cF t k (mn ts (k+eT t) bh lp) lp++cO ts (k+eT t) bh lp
end
theorem ME (x:Str):bz (.Yh x)=1:=by simp[bz]
theorem Hs (x:Int):bz (.call x)=1:=by simp[bz]
theorem FX:bz .leave=1:=by simp[bz]
theorem Il:bz .back=1:=by simp[bz]
theorem nG:aY "else"=false:=`b
theorem iN:aY "end"=false:=`b
theorem oO:aY "leave"=false:=`b
theorem rB:aY "back"=false:=`b
theorem wO:aY "part"=false:=`b
noncomputable def kW (S:`N):Nat:=(S.filter λt=>aY t.kind).length
theorem iX (a b:`N):kW (a++b)=kW a+kW b:=by unfold kW;rw[SU,Sd]
theorem sW (h:aY s.kind=true):kW [s]=1:=by unfold kW;rw[Tc (by exact h)];rfl
theorem pY (h:aY s.kind=false):kW [s]=0:=by unfold kW;rw[Td (by rw[h];exact RH)];rfl
mutual
theorem K8 {XN:Rx}:∀(t:Th)(a w u:Int),kW (spT XN a w u t)=eT t
 | .Yh _,a,w,u=>by rw[spT,eT];exact sW sO
 | .call _,a,w,u=>by rw[spT,eT];exact sW nV
 | .leave,a,w,u=>by rw[spT,eT];exact pY oO
 | .back,a,w,u=>by rw[spT,eT];exact pY rB
 | .X1 x A,a,w,u=>by
   rw[spT,eT,iX,iX,xC A,sW gN,pY iN];cbv
 | .ifs x A B,a,w,u=>by
   rw[spT,eT,iX,iX,iX,iX,xC A,xC B,sW mS,pY nG,pY iN];cbv
theorem xC {XN:Rx}:∀(ts:`U)(a w u:Int),kW (cg XN a w u ts)=fG ts
 | [],a,w,u=>by rw[cg,fG];rfl
 | t::ts,a,w,u=>by rw[cg,fG,iX,K8 t,xC ts]
end
section
variable {a:Nat}
noncomputable def cI (S:`N)(Ld:List Rv)(a n:Nat):List Rw:=(Ur a n).flatMap λ(i:Nat)=>dZ Ld `al ((i:Int),S.getD i dC)
theorem dR (S:`N)(Ld:List Rv)(a m n:Nat):cI S Ld a (m+n)=cI S Ld a m++cI S Ld (a+m) n:=by
 unfold cI;rw[← To,List.range'_append_1]
theorem oQ (S:`N)(Ld:List Rv)(a:Nat):cI S Ld a 1=dZ Ld `al ((a:Int),S.getD a dC):=by
 unfold cI;rw[range'_one,TL]
noncomputable def Yy (S:`N)(a n:Nat):Nat:=((Ur a n).filter λ(i:Nat)=>aY (aU S (i:Int))).length
theorem gC (S:`N)(a m n:Nat):Yy S a (m+n)=Yy S a m+Yy S (a+m) n:=by
 unfold Yy;rw[← Sd,← SU,List.range'_append_1]
theorem vH (h:aY (aU S (a:Int))=true):Yy S a 1=1:=by
 unfold Yy;rw[range'_one,Tc (by exact h)];rfl
theorem vx (h:aY (aU S (a:Int))=false):Yy S a 1=0:=by
 unfold Yy;rw[range'_one,Td (by rw[h];exact RH)];rfl
theorem cG.gY {S:`u}{v:α}{vs:`u}(h:cG S a (v::vs)):S[a]?∣v/\cG S (a+1) vs:=⟨h 0 v rfl,λi x hx=>by
 have:=h (i+1) x hx;rwa [show a+1+i=a+(i+1) by cbv]⟩
theorem xk {S:`N}:∀{vs:`N}{a:Nat},cG S a vs->Yy S a vs.length=kW vs
 | [],a,_=>rfl
 | v::vs,a,h=>by
   let⟨h1,h2⟩:=h.gY;let h2:cG S (a+1) vs:=h2;let ih:=xk h2;rw[Si,Nat.add_comm,gC,ih,show v::vs=[v]++vs from rfl,iX];let hk:=(dD h1).1;cases hr:aY v.kind with
   | true=>rw[vH (by rw[hk];exact hr),sW hr]
   | false=>rw[vx (by rw[hk];exact hr),pY hr]
theorem MW {x w:Int}{k:Nat}(h:cG S a (spT XN x w u t))(hk:Yy S 0 a=k):Yy S 0 (a+bz t)=k+eT t:=by
 have:=xk h;rw[kR,K8] at this;rw[gC,hk,UE,this]
theorem G2 {x w:Int}{k:Nat}(h:cG S a (cg XN x w u ts))(hk:Yy S 0 a=k):Yy S 0 (a+XS ts)=k+fG ts:=by
 have:=xk h;rw[cv,xC] at this;rw[gC,hk,UE,this]
theorem zx (S:`N)(Ld:List Rv):gj S Ld `al=cI S Ld 0 S.length:=by
 unfold gj cI;let e:nums S=(Ur 0 S.length).map λ(i:Nat)=>((i:Int),S.getD i dC):=by
  refine S6 λi=>?_;obtain h | h:=UD i S.length
  ·let hl:i<(nums S).length:=by rw[cK];exact h
   let hn:(nums S)[i]?=some (nums S)[i]:=R7 hl;let⟨y1,y2⟩:=fw hn;let hr:(Ur 0 S.length)[i]?∣i:=by rw[List.getElem?_range' h];simp
   rw[hn,Sf,hr];refine congrArg some (UZ y1 ?_);show _=S.getD i dC;rw[R8,y2];rfl
  ·rw[SE (by rw[cK];exact h),SE (by rw[R9,List.length_range'];exact h)]
 rw[e,List.flatMap_map]
theorem jG (hs:S[n]?∣s)(hk:aY s.kind=false):cI S Ld n 1=[]:=by
 let e:S.getD n dC=s:=by rw[R8,hs];rfl
 rw[oQ,e];unfold dZ j6;unfold aY at hk;cases q:cM dI s.kind with
 | none=>rfl
 | some x=>rw[q] at hk;cases hk
theorem Du (hs:S[n]?∣s)(hk:cM dI s.kind∣[y])(hl:Ld.getD n []=[l]):cI S Ld n 1=[((n:Int),(aZ S Ld).getD l.toNat 0,y,s.name)]:=by
 let e:S.getD n dC=s:=by rw[R8,hs];rfl
 rw[oQ,e];unfold dZ j6;rw[show(((n:Int),s).1).toNat=n from RX n,show(((n:Int),s).2).kind=s.kind from rfl,hk,hl];rfl
theorem Cc {y':Str}{l':Int}(hs:S[n]?∣s)(hk:cM dI s.kind∣[y,y'])(hl:Ld.getD n []=[l,l']):cI S Ld n 1=[((n:Int),(aZ S Ld).getD l.toNat 0,y,s.name),((n:Int),(aZ S Ld).getD l'.toNat 0,y',s.name)]:=by
 let e:S.getD n dC=s:=by rw[R8,hs];rfl
 rw[oQ,e];unfold dZ j6;rw[show(((n:Int),s).1).toNat=n from RX n,show(((n:Int),s).2).kind=s.kind from rfl,hk,hl];rfl
noncomputable def wc (XN:Rx)(φ:Int->Int)(r:Rw):mZ:=(r.2.2.1,if r.2.2.1="call" then "" else r.2.2.2,φ r.1,φ r.2.1,if r.2.2.1="call" then(YH XN r.2.2.2:Int) else -1)
structure sU (S:`N)(Ld:List Rv)(φ:Int->Int)(pe:Nat)(wl lq:Int)(lp:Bool)(hi:Nat):Prop where
 pz:hi<=pe
 pl:pe<S.length
 ps:φ ((aZ S Ld).getD pe 0)= -1
 wh:lp=true->(hi:Int)<=wl/\wl<(S.length:Int)/\φ ((aZ S Ld).getD wl.toNat 0)=lq
end
variable {φ:Int->Int}{pe:Nat}{wl bh:Int}
section
variable {lq:Int}
theorem sU.less {hi lo:Nat}(h:sU S Ld φ pe wl lq lp hi)(q:lo<=hi):sU S Ld φ pe wl lq lp lo:=
 ⟨by have:=h.pz;cbv,h.pl,h.ps,λe=>by let⟨a,b,c⟩:=h.wh e;exact⟨`a,b,c⟩⟩
theorem BS (hs:S[n]?∣s)(hk:aY s.kind=true):(aZ S Ld).getD n 0=(n:Int):=
 i9 (R6.mp hs).1 (.inr (by rw[(dD hs).1];exact hk))
theorem mj (hs:S[n]?∣s)(hk:aY s.kind=false)(hL:Ld.getD n []=[l])(h1:(n:Int)<l)(h2:l<(S.length:Int)):(aZ S Ld).getD n 0=(aZ S Ld).getD l.toNat 0:=by
 rw[nP (R6.mp hs).1 hL (by rw[(dD hs).1];exact hk) `a h2,XG h1]
theorem DF (hs:S[n]?∣s)(hk:aY s.kind=false)(hL:Ld.getD n []=[l])(h0:0<=l)(h1:l<=(n:Int)):(aZ S Ld).getD n 0=l:=by
 let hn:=(R6.mp hs).1;rw[nP hn hL (by rw[(dD hs).1];exact hk) h0 `a,XF `a]
theorem Mx:cM dI "do"∣(["do"]:Rx):=`b
theorem Fz:cM dI "call"∣(["call"]:Rx):=`b
theorem Mt:cM dI "if"∣(["yes","no"]:Rx):=`b
theorem DZ:cM dI "while"∣(["yes","no"]:Rx):=`b
theorem cG.d0 {a:Nat}{v:Rv}{vs:List Rv}(h:cG Ld a (v::vs)):Ld.getD a []=v:=by
 rw[R8,h.gY.1];rfl
theorem hdT {a w:Int}:∃s r,spT XN a w u t=s::r/\(aY s.kind=true↔t≠ .leave/\t≠ .back):=by
 cases t with
 | Yh x=>rw[spT];exact⟨_,_,rfl,by constructor<;>intro _;exact⟨`bc,λe=>by cases e⟩;exact sO⟩
 | call x=>rw[spT];exact⟨_,_,rfl,by constructor<;>intro _;exact⟨`bc,λe=>by cases e⟩;exact nV⟩
 | ifs x A B=>rw[spT];exact⟨_,_,rfl,by constructor<;>intro _;exact⟨`bc,λe=>by cases e⟩;exact mS⟩
 | X1 x A=>rw[spT];exact⟨_,_,rfl,by constructor<;>intro _;exact⟨`bc,λe=>by cases e⟩;exact gN⟩
 | leave=>rw[spT];exact⟨_,_,rfl,by constructor<;>intro h;rw[show aY _=false from oO] at h;cases h;exact XE rfl h.1⟩
 | back=>rw[spT];exact⟨_,_,rfl,by constructor<;>intro h;rw[show aY _=false from rB] at h;cases h;exact XE rfl h.2⟩
theorem Ie (t:Th):1<=bz t:=by
 cases t<;>simp[bz]<;>cbv
theorem Hu {k:Int}(h:t≠ .leave/\t≠ .back):mn (t::ts) k bh lq=k:=by
 cases t with
 | leave=>exact XE rfl h.1
 | back=>exact XE rfl h.2
 | Yh _=>rfl
 | call _=>rfl
 | ifs _ _ _=>rfl
 | X1 _ _=>rfl
theorem vG (hφ:∀n:Nat,n<pe->aY (aU S (n:Int))=true->φ (n:Int)=(Yy S 0 n:Int)){a:Nat}{w:Int}(XX:bJ lo m lp ts)(hS:cG S a (cg XN (a:Int) w u ts))(hL:cG Ld a (gI (a:Int) wl (pe:Int) ts))(cx:sU S Ld φ pe wl lq lp (a+XS ts)){k:Nat}(hk:Yy S 0 a=k)(hb:φ ((aZ S Ld).getD (a+XS ts) 0)=bh):φ ((aZ S Ld).getD a 0)=mn ts (k:Int) bh lq:=by
 cases ts with
 | nil=>rw[XS] at hb;exact hb
 | cons t ts=>
   rw[cg] at hS;rw[gI] at hL;simp only[bJ] at XX;rw[XS] at cx;let hS:=hS.pre;let hL:=hL.pre;let p1:=Ie t;let pz:=cx.pz;let pl:=cx.pl;let⟨s,r,e,hr⟩:=hdT (XN:=XN) (t:=t) (a:=(a:Int)) (w:=w) (u:=u);let hs:S[a]?∣s:=by rw[e] at hS;exact hS.gY.1
   cases Zl:aY s.kind with
   | true=>
     rw[BS hs Zl,Hu (hr.mp Zl),hφ a `a (by rw[(dD hs).1];exact Zl),hk]
   | false=>
     cases t with
     | Yh _=>rw[hr.mpr ⟨`bc,`bc⟩] at Zl;cases Zl
     | call _=>rw[hr.mpr ⟨`bc,`bc⟩] at Zl;cases Zl
     | ifs _ _ _=>rw[hr.mpr ⟨`bc,`bc⟩] at Zl;cases Zl
     | X1 _ _=>rw[hr.mpr ⟨`bc,`bc⟩] at Zl;cases Zl
     | leave=>
       let h1:=XX.1;simp only[bZ] at h1;let⟨w1,w2,w3⟩:=cx.wh h1;rw[fR] at hL;rw[mj hs Zl hL.d0 `a w2,w3];rfl
     | back=>
       rw[fR] at hL;rw[mj hs Zl hL.d0 `a `a,RX,cx.ps];rfl
end
theorem Ck {a a' b b':`u}(h:a=a')(h':b=b'):a++b=a'++b':=by rw[h,h']
section
theorem J1 (nd:XN.Nodup)(h:j<XN.length):YH XN (XN.getD j "")=j:=by
 let hx:XN[j]?∣(XN.getD j ""):=by rw[R8,R7 h];rfl
 let⟨h1,h2⟩:=rQ (Sg hx);obtain q | q | q:=Nat.lt_trichotomy (YH XN (XN.getD j "")) j
 ·have:=(List.getElem?_inj `a nd).mp (h1.trans hx.symm);exact this
 ·exact q
 ·exact XE hx (h2 j q)
variable (nd:XN.Nodup)(hm:m<=(XN.length:Int))(h0:0<=lo)(hφ:∀n:Nat,n<pe->aY (aU S (n:Int))=true->φ (n:Int)=(Yy S 0 n:Int))
include nd hm h0 hφ
mutual
theorem mpT:∀(t:Th)(lp:Bool)(a:Nat)(w u wl lq:Int)(k:Nat)(af:Int),bZ lo m lp t->cG S a (spT XN (a:Int) w u t)->cG Ld a (fR (a:Int) wl (pe:Int) t)->sU S Ld φ pe wl lq lp (a+bz t)->Yy S 0 a=k->φ ((aZ S Ld).getD (a+bz t) 0)=af->(cI S Ld a (bz t)).map (wc XN φ)=cF t (k:Int) af lq
 | .Yh x,lp,a,w,u,wl,lq,k,af,h,hS,hL,cx,hk,ha=>by
   rw[spT] at hS;rw[fR] at hL;rw[ME] at ha cx ⊢;let pz:=cx.pz;let fa:=hφ a `a (by rw[(dD hS.gY.1).1];exact sO);rw[Du hS.gY.1 Mx hL.d0,cF,Uv];show[(("do":Str),(if("do":Str)="call" then("":Str) else x),φ (a:Int),φ ((aZ S Ld).getD ((a:Int)+1).toNat 0),(if("do":Str)="call" then(YH XN x:Int) else -1))]=_;rw[show((a:Int)+1).toNat=a+1 by cbv,ha,fa,hk,XF `b,XF `b]
 | .call j,lp,a,w,u,wl,lq,k,af,h,hS,hL,cx,hk,ha=>by
   rw[spT] at hS;rw[fR] at hL;rw[Hs] at ha cx ⊢;simp only[bZ] at h;let pz:=cx.pz;let fa:=hφ a `a (by rw[(dD hS.gY.1).1];exact nV);rw[Du hS.gY.1 Fz hL.d0,cF,Uv];show[(("call":Str),(if("call":Str)="call" then("":Str) else XN.getD j.toNat ""),φ (a:Int),φ ((aZ S Ld).getD ((a:Int)+1).toNat 0),(if("call":Str)="call" then(YH XN (XN.getD j.toNat ""):Int) else -1))]=_;rw[show((a:Int)+1).toNat=a+1 by cbv,ha,fa,hk,XG rfl,XG rfl,J1 nd `a,show((j.toNat:Nat):Int)=j by cbv]
 | .leave,lp,a,w,u,wl,lq,k,af,h,hS,hL,cx,hk,ha=>by
   rw[spT] at hS;rw[FX];rw[jG hS.gY.1 oO,cF];rfl
 | .back,lp,a,w,u,wl,lq,k,af,h,hS,hL,cx,hk,ha=>by
   rw[spT] at hS;rw[Il];rw[jG hS.gY.1 rB,cF];rfl
 | .X1 x A,lp,a,w,u,wl,lq,k,af,h,hS,hL,cx,hk,ha=>by
   simp only[bZ] at h;rw[spT] at hS;rw[fR] at hL;rw[bz] at cx ha ⊢;let⟨s1,s2⟩:=hS.app;let⟨s2,s3⟩:=s2.app;let⟨d1,d2⟩:=hL.app;let⟨d2,d3⟩:=d2.app;rw[cv] at s3;rw[d9] at d3;simp only[Si,SH,UE] at s2 s3 d2 d3;let pz:=cx.pz;let pl:=cx.pl;let fa:=hφ a `a (by rw[(dD s1.gY.1).1];exact gN);let se:(aZ S Ld).getD (a+1+XS A) 0=(a:Int):=DF s3.gY.1 iN d3.d0 `a `a;let cx':sU S Ld φ pe ((a:Int)+2+XS A) af true (a+1+XS A):=⟨`a,pl,cx.ps,λ_=>⟨`a,`a,by rw[show((a:Int)+2+XS A).toNat=a+(2+XS A) by cbv];exact ha⟩⟩;let k1:Yy S 0 (a+1)=k+1:=by rw[gC,hk,UE,vH (by rw[(dD s1.gY.1).1];exact gN)]
   let s2':cG S (a+1) (cg XN ((a+1:Nat):Int) (w+2) (a:Int) A):=by push_cast;exact s2
   let d2':cG Ld (a+1) (gI ((a+1:Nat):Int) ((a:Int)+2+XS A) (pe:Int) A):=by push_cast;exact d2
   let hb:φ ((aZ S Ld).getD (a+1+XS A) 0)=(k:Int):=by rw[se,fa,hk]
   let en:=vG hφ h.2 s2' d2' cx' k1 hb;let ih:=BB A true (a+1) (w+2) (a:Int) ((a:Int)+2+XS A) af (k+1) (k:Int) h.2 s2' d2' cx' k1 hb;rw[show 2+XS A=1+(XS A+1) by cbv,dR,dR,Cc s1.gY.1 DZ d1.d0,jG s3.gY.1 iN,Sw,So,ih,cF];refine Ck ?_ (by push_cast;rfl);show[(("yes":Str),(if("yes":Str)="call" then("":Str) else x),φ (a:Int),φ ((aZ S Ld).getD ((a:Int)+1).toNat 0),(if("yes":Str)="call" then(YH XN x:Int) else -1)),(("no":Str),(if("no":Str)="call" then("":Str) else x),φ (a:Int),φ ((aZ S Ld).getD ((a:Int)+2+XS A).toNat 0),(if("no":Str)="call" then(YH XN x:Int) else -1))]=_;rw[show((a:Int)+1).toNat=a+1 by cbv,show((a:Int)+2+XS A).toNat=a+(2+XS A) by cbv,ha,en,fa,hk,XF `b,XF `b,XF `b,XF `b];push_cast;rfl
 | .ifs x A B,lp,a,w,u,wl,lq,k,af,h,hS,hL,cx,hk,ha=>by
   simp only[bZ] at h;rw[spT,Su] at hS;rw[fR,Su] at hL;rw[bz] at cx ha ⊢;let⟨s1,s2⟩:=hS.app;let⟨s2,s3⟩:=s2.app;let⟨s3,s4⟩:=s3.app;let⟨s4,s5⟩:=s4.app;let⟨d1,d2⟩:=hL.app;let⟨d2,d3⟩:=d2.app;let⟨d3,d4⟩:=d3.app;let⟨d4,d5⟩:=d4.app;rw[cv] at s3 s4 s5;rw[cv] at s5;rw[d9] at d3 d4 d5;rw[d9] at d5;simp only[Si,SH,UE] at s2 s3 s4 s5 d2 d3 d4 d5;let pz:=cx.pz;let pl:=cx.pl;let fa:=hφ a `a (by rw[(dD s1.gY.1).1];exact mS);let s5e:(aZ S Ld).getD (a+1+XS A+1+XS B) 0=(aZ S Ld).getD (a+(3+XS A+XS B)) 0:=by
    rw[mj s5.gY.1 iN d5.d0 `a `a];congr 1;cbv
   let s3e:(aZ S Ld).getD (a+1+XS A) 0=(aZ S Ld).getD (a+(3+XS A+XS B)) 0:=by
    rw[mj s3.gY.1 nG d3.d0 `a `a,← s5e];congr 1;cbv
   let k1:Yy S 0 (a+1)=k+1:=by rw[gC,hk,UE,vH (by rw[(dD s1.gY.1).1];exact mS)]
   let k2:Yy S 0 (a+1+XS A)=k+1+fG A:=G2 s2 k1;let k3:Yy S 0 (a+1+XS A+1)=k+1+fG A:=by rw[gC,k2,UE,vx (by rw[(dD s3.gY.1).1];exact nG),UL]
   let s2':cG S (a+1) (cg XN ((a+1:Nat):Int) (w+2) (a:Int) A):=by push_cast;exact s2
   let d2':cG Ld (a+1) (gI ((a+1:Nat):Int) wl (pe:Int) A):=by push_cast;exact d2
   let q4:((a+1+XS A+1:Nat):Int)=(a:Int)+2+XS A:=`a
   let s4':cG S (a+1+XS A+1) (cg XN ((a+1+XS A+1:Nat):Int) (w+3+(X5 XN A).length) ((a:Int)+1+XS A) B):=by rw[q4];exact s4
   let d4':cG Ld (a+1+XS A+1) (gI ((a+1+XS A+1:Nat):Int) wl (pe:Int) B):=by rw[q4];exact d4
   let cA:sU S Ld φ pe wl lq lp (a+1+XS A):=cx.less `a;let cB:sU S Ld φ pe wl lq lp (a+1+XS A+1+XS B):=cx.less `a;let hA:φ ((aZ S Ld).getD (a+1+XS A) 0)=af:=by rw[s3e];exact ha
   let hB:φ ((aZ S Ld).getD (a+1+XS A+1+XS B) 0)=af:=by rw[s5e];exact ha
   let eA:=vG hφ h.2.1 s2' d2' cA k1 hA;let eB:=vG hφ h.2.2 s4' d4' cB k3 hB;let iA:=BB A lp (a+1) (w+2) (a:Int) wl lq (k+1) af h.2.1 s2' d2' cA k1 hA;let iB:=BB B lp (a+1+XS A+1) (w+3+(X5 XN A).length) ((a:Int)+1+XS A) wl lq (k+1+fG A) af h.2.2 s4' d4' cB k3 hB;rw[show 3+XS A+XS B=1+(XS A+(1+(XS B+1))) by cbv,dR,dR,dR,dR,Cc s1.gY.1 Mt d1.d0,jG s3.gY.1 nG,jG s5.gY.1 iN,Sw,S8,So,So,iA,iB,cF];refine Ck ?_ (by push_cast;rfl);show[(("yes":Str),(if("yes":Str)="call" then("":Str) else x),φ (a:Int),φ ((aZ S Ld).getD ((a:Int)+1).toNat 0),(if("yes":Str)="call" then(YH XN x:Int) else -1)),(("no":Str),(if("no":Str)="call" then("":Str) else x),φ (a:Int),φ ((aZ S Ld).getD ((a:Int)+2+XS A).toNat 0),(if("no":Str)="call" then(YH XN x:Int) else -1))]=_;rw[show((a:Int)+1).toNat=a+1 by cbv,show((a:Int)+2+XS A).toNat=a+1+XS A+1 by cbv,eB,eA,fa,hk,XF `b,XF `b,XF `b,XF `b];push_cast;rfl
theorem BB:∀(ts:`U)(lp:Bool)(a:Nat)(w u wl lq:Int)(k:Nat)(bh:Int),bJ lo m lp ts->cG S a (cg XN (a:Int) w u ts)->cG Ld a (gI (a:Int) wl (pe:Int) ts)->sU S Ld φ pe wl lq lp (a+XS ts)->Yy S 0 a=k->φ ((aZ S Ld).getD (a+XS ts) 0)=bh->(cI S Ld a (XS ts)).map (wc XN φ)=cO ts (k:Int) bh lq
 | [],lp,a,w,u,wl,lq,k,bh,h,hS,hL,cx,hk,hb=>by rw[XS,cO];rfl
 | t::ts,lp,a,w,u,wl,lq,k,bh,h,hS,hL,cx,hk,hb=>by
   simp only[bJ] at h;rw[cg] at hS;rw[gI] at hL;rw[XS] at cx hb ⊢;let⟨s1,s2⟩:=hS.app;let⟨d1,d2⟩:=hL.app;rw[kR] at s2;rw[pR] at d2;let s2':cG S (a+bz t) (cg XN ((a+bz t:Nat):Int) (w+(c9 XN t).length) u ts):=by push_cast;exact s2
   let d2':cG Ld (a+bz t) (gI ((a+bz t:Nat):Int) wl (pe:Int) ts):=by push_cast;exact d2
   let k1:=MW s1 hk;rw[← UQ] at cx hb;let en:=vG hφ h.2.2 s2' d2' cx k1 hb;let i1:=mpT t lp a w u wl lq k _ h.1 s1 d1 (cx.less `a) hk en;let i2:=BB ts lp (a+bz t) (w+(c9 XN t).length) u wl lq (k+eT t) bh h.2.2 s2' d2' cx k1 hb;rw[dR,So,i1,i2,cO];push_cast;rfl
end
end
noncomputable def mW (φ:Int->Int)(F:RF):RF:=F.map λy=>(φ y.1,y.2)
def Bc (φ:Int->Int)(Kp:Rv):Prop:=∀x∈Kp,∀y∈Kp,φ x=φ y->x=y
theorem pW {φ:Int->Int}{Kp:Rv}(hi:Bc φ Kp){k:Int}(hk:k∈Kp):∀{F:RF},(∀x∈F.map (·.1),x∈Kp)->bo (mW φ F) (φ k)=bo F k
 | [],_=>rfl
 | y::F,h=>by
   let ih:=pW hi hk (F:=F) λx hx=>h x (Sb _ hx);let hy:=h y.1 Se;unfold bo mW at ih ⊢;rw[SK];by_cases q:y.1=k
   ·rw[Uh (~~~congrArg φ q),Uh (~~~q)];rfl
   ·rw[TZ (~~~λe=>q (hi _ hy _ hk e)),TZ (~~~q)];exact ih
theorem Aj (hi:Bc φ Kp){k:Int}(hk:k∈Kp)(hF:∀x∈F.map (·.1),x∈Kp):cU (mW φ F) (φ k)=mW φ (cU F k)/\∀x∈(cU F k).map (·.1),x∈Kp:=by
 unfold cU;rw[pW hi hk hF];cases (bo F k).isSome with
 | true=>exact⟨rfl,hF⟩
 | false=>
   refine⟨?_,λx hx=>?_⟩
   ·show mW φ F++[(φ k,((mW φ F).length:Int))]=mW φ (F++[(k,(F.length:Int))]);unfold mW;rw[So,R9];rfl
   ·let hx:x∈(F++[(k,(F.length:Int))]).map (·.1):=hx;rw[So] at hx;obtain hx | hx:=Sl.mp hx
    ·exact hF x hx
    ·rw[Sa.mp hx];exact hk
abbrev i8 (F:RF)(a b:Int):RF:=cU (cU F a) b
theorem wA {φ:Int->Int}{Kp:Rv}(XN:Rx)(hi:Bc φ Kp):∀{rs:List Rw}{F:RF},(∀x∈F.map (·.1),x∈Kp)->(∀r∈rs,r.1∈Kp/\r.2.1∈Kp)->(rs.map (wc XN φ)).foldl `ad (mW φ F)=mW φ (rs.foldl (λF r=>i8 F r.1 r.2.1) F)/\∀x∈(rs.foldl (λF r=>i8 F r.1 r.2.1) F).map (·.1),x∈Kp
 | [],F,hF,_=>⟨rfl,hF⟩
 | r::rs,F,hF,hr=>by
   let⟨k1,k2⟩:=hr r Se;let⟨e1,h1⟩:=Aj hi k1 hF;let⟨e2,h2⟩:=Aj hi k2 h1;let ih:=wA XN hi (rs:=rs) (F:=i8 F r.1 r.2.1) h2 λx hx=>hr x (Sb _ hx);rw[SK,S9,S9];show(rs.map (wc XN φ)).foldl _ (cU (cU (mW φ F) (φ r.1)) (φ r.2.1))=_/\_;rw[e1,e2];exact ih
theorem rf {p:hV}:∀{rs:List Rw}{F:RF},(∀r∈rs,ip p r=false)->rs.foldl (eh p) F=F
 | [],F,_=>rfl
 | r::rs,F,h=>by
   rw[S9,show eh p F r=F by unfold eh;rw[h r Se];rfl];exact rf λx hx=>h x (Sb _ hx)
theorem zc {p:hV}:∀{rs:List Rw}{F:RF},(∀r∈rs,ip p r=true)->rs.foldl (eh p) F=rs.foldl (λF r=>i8 F r.1 r.2.1) F
 | [],F,_=>rfl
 | r::rs,F,h=>by
   rw[S9,S9,show eh p F r=i8 F r.1 r.2.1 by unfold eh;rw[h r Se];rfl];exact zc λx hx=>h x (Sb _ hx)
theorem lQ {a:Nat}(h:r∈cI S Ld a n):∃i:Nat,a<=i/\i<a+n/\r.1=(i:Int):=by
 unfold cI at h;let⟨i,hi,hr⟩:=T3.mp h;let⟨y,hy,rfl⟩:=Sv.mp hr;have:=List.mem_range'_1.mp hi;exact⟨i,this.1,this.2,rfl⟩
theorem Gk {m:Nat}(h:n<m)(hr:aY (aU S (n:Int))=true):Yy S 0 n<Yy S 0 m:=by
 obtain⟨d,rfl⟩:∃d,m=n+(1+d):=⟨m-n-1,`a⟩;rw[gC,UE,gC,vH hr];cbv
theorem qS:∀(zs:`aX)(j:Nat)(z:`bf),zs[j]?∣z->du (zs.take (j+1))=du (zs.take j)+(2+XS z.2)
 | [],j,z,h=>by simp at h
 | y::r,0,z,h=>by
   let e:y=z:= ~~~h
   subst e;rw[S3,du,TC,TC,du];cbv
 | y::r,j+1,z,h=>by
   have:=qS r j z (~~~h);rw[S3,S3,du,du,this];cbv
noncomputable def Ye (Ls:`F)(j:Nat):Nat:=((Ls.take j).map fG).sum
def X2 (Ls:`F)(j:Nat):List mZ:=cO (Ls.getD j []) (Ye Ls j:Int) (-1) 0
noncomputable def eD (Ls:`F)(j:Nat):RF:=(X2 Ls j).foldl `ad [((Ye Ls j:Int),0),(-1,1)]
def d7 (j:Nat)(F:RF)(r:mZ):Row:=((j:Int),(bo F r.2.2.1).getD 0,(bo F r.2.2.2.1).getD 0,r.2.2.2.2)
noncomputable def XY (Ls:`F):gX:=((Sm Ls.length).map λj=>((eD Ls j).length:Int),(Sm Ls.length).flatMap λj=>(X2 Ls j).map (d7 j `aR))
noncomputable def ku (XN:Rx)(Ls:`F)(j:Nat)(z:`bf)(x:Int):Int:=if x=((lst `k z:Nat):Int) then -1 else(Yy `i 0 x.toNat:Int)
theorem rY (S:`N)(Ld:List Rv){f:Nat}{w:Int}(hb:fJ S Ld XN f w z):cI S Ld f (2+XS z.2)=cI S Ld (f+1) (XS z.2):=by
 rw[show 2+XS z.2=1+(XS z.2+1) by cbv,dR,dR,jG hb.nm wO,jG hb.e iN,Sw,S8]
theorem tT {f:Nat}{w:Int}(hb:fJ S Ld XN f w z):Yy S 0 (f+1)=Yy S 0 f/\Yy S 0 (f+(2+XS z.2))=Yy S 0 f+fG z.2:=by
 let k1:Yy S 0 (f+1)=Yy S 0 f:=by rw[gC,UE,vx (by rw[hb.k];exact wO),UL]
 refine⟨k1,?_⟩;let k2:=G2 hb.s k1;rw[show f+(2+XS z.2)=(f+1+XS z.2)+1 by cbv,gC,k2,UE,vx (by rw[(dD hb.e).1];exact iN),UL]
theorem vB (h:`aI)(hj:j<Ls.length):∃z,(dg XN Ls)[j]?∣z/\z.2=Ls.getD j []:=by
 let hl:j<(dg XN Ls).length:=by rw[oU h];exact hj
 let hz:=R7 hl;refine⟨_,hz,?_⟩;have:=(eX h hz).2.2.2.2;rw[R8,this];rfl
theorem AY (h:`aI):∀j,j<=Ls.length->Yy `i 0 `k=Ye Ls j
 | 0,_=>rfl
 | j+1,hj=>by
   let⟨z,hz,ez⟩:=vB h (j:=j) `a;let⟨w,hb⟩:=hZ (XN:=XN) (Ls:=Ls) hz;let hL:=(eX h hz).2.2.2.2;let e:fst XN Ls (j+1)=fst XN Ls j+(2+XS z.2):=qS _ _ _ hz;rw[e,(tT hb).2,AY h j `a];unfold Ye;rw[SS,hL,So,Uu];simp
theorem all_rows (h:`aI):∀n,n<=Ls.length->cI `i `D 0 (fst XN Ls n)=(Sm n).flatMap λj=>cI `i `D `ap (XS (Ls.getD j []))
 | 0,_=>rfl
 | n+1,hn=>by
   let⟨z,hz,ez⟩:=vB h (j:=n) `a;let⟨w,hb⟩:=hZ (XN:=XN) (Ls:=Ls) hz;let e:fst XN Ls (n+1)=fst XN Ls n+(2+XS z.2):=qS _ _ _ hz;rw[e,dR,all_rows h n `a,UE,rY _ _ hb,TB,To,TL,ez]
theorem w6 (h:`aI):(bK XN Ls).rows=(Sm Ls.length).flatMap λj=>cI `i `D `ap (XS (Ls.getD j [])):=by
 rw[← all_rows h Ls.length (Uw _)];show gj `i `D (aZ `i `D)=_;rw[zx];congr 1;rw[Bu,← oU h];show du `M=du ((dg XN Ls).take _);rw[SW]
theorem uP (h:`aI)(hz:(dg XN Ls)[j]?∣z):(cI `i `D `ap (XS z.2)).map (wc XN (ku XN Ls j z))=X2 Ls j:=by
 let⟨w,hb⟩:=hZ (XN:=XN) (Ls:=Ls) hz;let⟨Y9,ZE,ok3,hn,hL⟩:=eX h hz;let jl:=(R6.mp hL).1;let ll:lst `k z<(aw XN Ls).length:=(R6.mp hb.e).1;let hφ:∀n:Nat,n<lst `k z->aY (aU `i (n:Int))=true->ku XN Ls j z (n:Int)=(Yy `i 0 n:Int):=λn hn _=>by
  unfold ku;rw[XF `a,RX]
 let ps:ku XN Ls j z ((aZ `i `D).getD (lst `k z) 0)= -1:=by
  rw[i9 ll (.inl hb.dl)];unfold ku;rw[XG rfl]
 let hk:Yy `i 0 `ap=Ye Ls j:=by rw[(tT hb).1,AY h j `a]
 have:=BB (S:=aw XN Ls) (Ld:=cC XN Ls) (XN:=XN) (φ:=ku XN Ls j z) (pe:=lst `k z) (lo:=(j:Int)) (m:=(Ls.length:Int)) h.nd (by rw[h.l];exact RY _) `a hφ z.2 false `ap (w+2) (fst XN Ls j:Int) 0 0 (Ye Ls j) (-1) Y9 hb.s hb.d ⟨Uw _,ll,ps,λe=>by cases e⟩ hk ps;rw[this];unfold X2;rw[R8,hL];rfl
theorem uz (h:`aI):Bc (ku XN Ls j z) (oj `i `k z):=λx hx y hy e=>by
 let⟨x1,x2,x3⟩:=xw hx;let⟨y1,y2,y3⟩:=xw hy;unfold ku at e;by_cases qx:x=((lst `k z:Nat):Int)
 ·by_cases qy:y=((lst `k z:Nat):Int)
  ·rw[qx,qy]
  ·rw[XG qx,XF qy] at e;cbv
 ·by_cases qy:y=((lst `k z:Nat):Int)
  ·rw[XF qx,XG qy] at e;cbv
  ·rw[XF qx,XF qy] at e;let rx:=x3.resolve_left qx;let ry:=y3.resolve_left qy;let ex:((x.toNat:Nat):Int)=x:=`a
   let ey:((y.toNat:Nat):Int)=y:=`a
   obtain q | q | q:=Nat.lt_trichotomy x.toNat y.toNat
   ·have:=Gk (S:=aw XN Ls) q (by rw[ex];exact rx);cbv
   ·cbv
   ·have:=Gk (S:=aw XN Ls) q (by rw[ey];exact ry);cbv
theorem zE (h:`aI)(hz:(dg XN Ls)[j]?∣z)(hr:r∈cI `i `D `ap (XS z.2)):r∈(bK XN Ls).rows:=by
 let⟨_,_,_,_,hL⟩:=eX h hz;rw[w6 h];refine T3.mpr ⟨j,Tb.mpr (R6.mp hL).1,?_⟩;rw[R8,hL];exact hr
theorem qp (h:`aI)(hz:(dg XN Ls)[j]?∣z):mW (ku XN Ls j z) (cL `B (i6 `k z))=eD Ls j/\∀x∈(cL `B (i6 `k z)).map (·.1),x∈oj `i `k z:=by
 let⟨w,hb⟩:=hZ (XN:=XN) (Ls:=Ls) hz;let⟨Y9,ZE,ok3,hn,hL⟩:=eX h hz;let jl:=(R6.mp hL).1;let⟨hr,h1⟩:=lj hb Y9 ZE;let hk:Yy `i 0 `ap=Ye Ls j:=by rw[(tT hb).1,AY h j `a]
 let hrows:(bK XN Ls).rows=cI `i `D 0 `k++(cI `i `D `ap (XS z.2)++cI `i `D (fst XN Ls j+(2+XS z.2)) ((aw XN Ls).length-(fst XN Ls j+(2+XS z.2)))):=by
  show gj `i `D (aZ `i `D)=_;rw[zx,← rY _ _ hb,← dR];have:=dR `i `D 0 `k (2+XS z.2+((aw XN Ls).length-(fst XN Ls j+(2+XS z.2))));rw[UE] at this;rw[← this];congr 1;let ll:fst XN Ls j+1+XS z.2<(aw XN Ls).length:=(R6.mp hb.e).1;cbv
 let b0:(bK XN Ls).St.getD ((i6 `k z).2.1).toNat 0=((fst XN Ls j+1:Nat):Int):=by
  show(aZ `i `D).getD (((fst XN Ls j:Nat):Int)).toNat 0=_;rw[RX,hb.first Y9 ZE]
 let inr:∀r∈cI `i `D `ap (XS z.2),ip (i6 `k z) r=true:=λr hr=>by
  let⟨i,i1,i2,e⟩:=lQ hr;unfold ip;rw[RJ,e];exact⟨XJ (show((fst XN Ls j:Nat):Int)<(i:Int) by cbv),XJ (show(i:Int)<((fst XN Ls j+1+XS z.2:Nat):Int) by cbv)⟩
 let e:cL `B (i6 `k z)=(cI `i `D `ap (XS z.2)).foldl (λF r=>i8 F r.1 r.2.1) [(((fst XN Ls j+1:Nat):Int),0),(((lst `k z:Nat):Int),1)]:=by
  unfold cL;let o1:∀r∈cI `i `D 0 `k,ip (i6 `k z) r=false:=λr hr=>by
   let⟨i,i1,i2,e⟩:=lQ hr;unfold ip;rw[e,XM (show¬((fst XN Ls j:Nat):Int)<(i:Int) by cbv),Bool.false_and]
  let o2:∀r∈cI `i `D (fst XN Ls j+(2+XS z.2)) ((aw XN Ls).length-(fst XN Ls j+(2+XS z.2))),ip (i6 `k z) r=false:=λr hr=>by
   let⟨i,i1,i2,e⟩:=lQ hr;unfold ip;rw[e,XM (show¬(i:Int)<((fst XN Ls j+1+XS z.2:Nat):Int) by cbv),Bool.and_false]
  rw[b0,hrows,Tg,Tg,rf o1,zc inr,rf o2]
 let hl:((lst `k z:Nat):Int)=((fst XN Ls j+1+XS z.2:Nat):Int):=rfl;let⟨q1,q2⟩:=wA XN (uz h (j:=j) (z:=z)) (rs:=cI `i `D `ap (XS z.2)) (F:=[(((fst XN Ls j+1:Nat):Int),0),(((lst `k z:Nat):Int),1)]) (λx hx=>by
  let hx:x=((fst XN Ls j+1:Nat):Int)∨x=((lst `k z:Nat):Int):= ~~~hx
  obtain rfl | rfl:=hx
  ·exact jQ ⟨`a,`a,.inr hr⟩
  ·exact jQ ⟨`a,RY _,.inl rfl⟩) λr hr=>xO h hz hb (zE h hz hr) (inr r hr)
 rw[← e] at q1 q2;refine⟨?_,q2⟩;rw[← q1,uP h hz];unfold eD;congr 1;show[(ku XN Ls j z ((fst XN Ls j+1:Nat):Int),(0:Int)),(ku XN Ls j z ((lst `k z:Nat):Int),(1:Int))]=_;let p1:ku XN Ls j z ((fst XN Ls j+1:Nat):Int)=(Ye Ls j:Int):=by unfold ku;rw[XF `a,RX,hk]
 let p2:ku XN Ls j z ((lst `k z:Nat):Int)= -1:=by unfold ku;rw[XG rfl]
 rw[p1,p2]
theorem nE {α β:Type}{f g:α->List β}:∀{l:`u},(∀x∈l,f x=g x)->l.flatMap f=l.flatMap g
 | [],_=>rfl
 | x::l,h=>by rw[Te,Te,h x Se,nE λy hy=>h y (Sb _ hy)]
theorem z4 (h:`aI):Yx `B=XY Ls:=by
 let pl:=zR h;refine UZ ?_ ?_
 ·show(eP `B).map (λF=>(F.length:Int))=(Sm Ls.length).map λj=>((eD Ls j).length:Int);refine S6 λj=>?_;obtain hj | hj:=UD j Ls.length
  ·let⟨z,hz,ez⟩:=vB h hj;rw[Sf,lg h hz,Sf,SY hj];show some ((cL `B (i6 `k z)).length:Int)∣((eD Ls j).length:Int);rw[← (qp h hz).1];unfold mW;rw[R9]
  ·rw[SE (by rw[R9,pl];exact hj),SE (by rw[R9,SX];exact hj)]
 ·show(bK XN Ls).rows.map (fI `B)=(Sm Ls.length).flatMap λj=>(X2 Ls j).map (d7 j `aR);rw[w6 h,map_flatMap];refine nE λj hj=>?_;let⟨z,hz,ez⟩:=vB h (Tb.mp hj);let⟨w,hb⟩:=hZ (XN:=XN) (Ls:=Ls) hz;let⟨pp,pk⟩:=qp h hz;rw[← ez,← uP h hz,Ta];refine Tu λr hr=>?_;let⟨i,i1,i2,e⟩:=lQ hr;let ep:cW `B r.1=(j:Int):=by rw[e];exact pK h hz `a (by show i<=fst XN Ls j+1+XS z.2;cbv)
  let eF:(eP `B).getD (cW `B r.1).toNat []=cL `B (i6 `k z):=by
   rw[ep,RX,R8,lg h hz];rfl
  let hi:ip (i6 `k z) r=true:=by
   unfold ip;rw[RJ,e];exact⟨XJ (show((fst XN Ls j:Nat):Int)<(i:Int) by cbv),XJ (show(i:Int)<((fst XN Ls j+1+XS z.2:Nat):Int) by cbv)⟩
  let⟨k1,k2⟩:=xO h hz hb (zE h hz hr) hi;show fI `B r=d7 j `aR (wc XN (ku XN Ls j z) r);unfold fI d7 wc;dsimp only;let hpn:(bK XN Ls).parts.map (·.1)=XN:=vy h;rw[eF,ep,hpn,← pp,pW (uz h) k1 pk,pW (uz h) k2 pk]
end K1
namespace Fc
open PySem PySem.Spec PySem.W PySem.Calls L2
open PyProof.Rows hiding St
open PySem PySem.Spec L2 K1
variable {e:Expr}{ps:List PT}{q0:PT}
section
variable {X:Cx}{Z Γ1:Ga}{α:Type}{N:Ga->Prop}{T:RT}
theorem Eu (i:Nat){x:Str}{p1 pos:Pos}{F:RF}{k:Int}(hu:`be)(he:EV X e Z ag k Z)(hΓ:Z[i]?∣(.di (cH F)))(hN:`o)(hm:Vx .NotIn `h=false:=by first | exact sT _ | with_unfolding_all rfl):TV X (.Compare e [.NotIn] [.Name x p1] pos) Z (!(bo F k).isSome) Z:=by
 intro σ H0 R0 H R E Q q;refine tS (m8 (mh hu aN (aV hN)) hm) `K;cases e1
 let⟨a,ea,ha,hR⟩:=E1.ent i _ hΓ;refine⟨.ref a,at_of ea,a,_,rfl,iE.k (k:=Sum.inl k) ha,_,rfl,?_⟩;rw[ng,ID];exact q H1 R1 E1 s1
theorem EV.Pa (h:EV X e Z nW () Γ1):EV X e Z av .X4 Γ1:=h.re λK R v e=>by cases e;exact .X4
mutual
theorem c7.nodes {H:Hp}:∀{v:V}{x:PV}{fp:Rz},c7 H v x fp->∀a∈fp,∃vs,H a∣.lst vs
 | _,_,_,.str x,_,h=>by cases h
 | _,_,_,.int n,_,h=>by cases h
 | _,_,_,.lst q t z,a,h=>by
   obtain rfl | h:=Sj.mp h
   ·exact⟨_,q⟩
   ·exact t.nodes a h
theorem bB.nodes {H:Hp}:∀{vs:`P}{xs:`aQ}{fp:Rz},bB H vs xs fp->∀a∈fp,∃vs,H a∣.lst vs
 | _,_,_,.nil,_,h=>by cases h
 | _,_,_,.cons q t,a,h=>(Sl.mp h).elim (q.nodes a) (t.nodes a)
end
theorem w9 {R R':Hp}(h:∀t us,R t∣.tup us->R' t∣.tup us){K:Xh}:∀{vs:`P}{ws:List je},PySem.Paired (av.R K R) vs (ws.map f9)->PySem.Paired (av.R K R') vs (ws.map f9)
 | _,[],.nil=>.nil
 | _,w::_,.cons q t=>.cons (by
  let⟨a,rfl,e⟩:=Co (K:=K) (w:=w) q;exact .tup (h _ _ e) (.cons (.str _) (.cons (.str _) (.cons (.int _) (.cons (.int _) (.cons (.int _) .nil)))))) (w9 h t)
theorem Of (i j l:Nat){x y z:Str}{m n n':Nat}{e1 e2:Expr}{p p0 p1 cp pos:Pos}{a c:Addr}{ts:`U}{k:Int}{bh lp:PV}{rws:List je}(C:aE X.prog X.w X.K X.mg X.base x m (nL n X.K))(hr:bG m X.A)(hil:i≠l)(h1:EV X e1 Z av bh Z)(h2:EV X e2 Z av lp Z)(hΓ:`Y)(hj:Z[j]?∣.im dJ q0.2.1)(hq:ps[n']?∣q0)(hts:q0.1=fq ts k)(hl:Z[l]?∣(.ob (aO c av [])))(hd:dH ts<=n)(hz:bY ts<=1000)(hrw:K1.fu ts k bh lp=rws.map f9)(h:N (Z.set l (.ob (aO c av (rws.map f9)))))(hg:Gl X x:=by rfl)(Yo:YJ x:=by decide)(s0:Vf [.Name y p0,e1,e2,.Name z p1] X.env=(false,eval (.Name y p0) X.env)::Vf [e1,e2,.Name z p1] X.env:=by rfl)(s1:Vf [e1,e2,.Name z p1] X.env=(false,eval e1 X.env)::Vf [e2,.Name z p1] X.env:=by rfl)(s2:Vf [e2,.Name z p1] X.env=(false,eval e2 X.env)::Vf [.Name z p1] X.env:=by rfl)(s3:dq X (.Name z p1) []:=by rfl)(Yb:fc X cp [e1,e2,.Name z p1]:=by rfl)(hNj:autoParam (At X j y) cb)(hNl:autoParam (At X l z) cb)(Yn:Vh (.Call `aq [.Name y p0,e1,e2,.Name z p1] [] cp) none pos.line X.env=pure false:=by rfl):W1 X (.Expr (.Call `aq [.Name y p0,e1,e2,.Name z p1] [] cp) pos) Z N T:=λσ H0 R0 H R E D dn dr=>by
 let⟨f,fd,pn,F,hm,hk,hb⟩:=C.ex;let⟨v0,e0,Zh⟩:=E.ent j _ hj;cases Zh
 refine sS (dQ (iZ F hr hg hm hk hb .nil kx (aI (aV hNj) (aI aN (aI aN (aI (aV hNl) br s3) s2) s1) s0) Yo s0 Yb) Yn) ⟨.ref q0.2.1,at_of e0,?_⟩;refine h1 σ H0 R0 H R E _ λv1 H2 R2 E2 q2 g1=>h2 σ H0 R0 H2 R2 E2 _ λv2 H3 R3 E3 q3 g2=>?_;let⟨⟨v,ea,rfl,kk⟩,hR⟩:=E3.ent i _ hΓ;let⟨ec,⟨ws,hc,pc⟩,hRc⟩:=dk (E3.ent l _ hl);cases pc
 let⟨t,nd,_⟩:=kk.pt n' q0 hq;rw[hts] at t;let inB:∀d∈cP q0,d∈(bC a ps).fp:=λd hd=>Sb _ (bQ.mpr ⟨n',q0,hq,hd⟩);let nR:∀d∈cP q0,R3 d=none:=λd hd=>hR d (inB d hd);let nc:∀d∈cP q0,d≠c:=λd hd z=>hil (E3.ds i l _ _ d hΓ hl (inB d hd) (by rw[z];exact Sa.mpr rfl));let s34:au R3 (λd=>if d∈cP q0 then H3 d else R3 d):=λd o e=>by
  show(if d∈cP q0 then H3 d else R3 d)∣o;rw[XF λw=>by rw[nR d w] at e;cases e];exact e
 refine⟨.ref c,at_of ec,?_⟩;show nL n X.K [.ref q0.2.1,v1,v2,.ref c] H3 (λ_ H1=>D.nx σ H1) E0;let t4:c7 (λd=>if d∈cP q0 then H3 d else R3 d) (.ref q0.2.1) (.lst (fq ts k)) (cP q0):=t.loc λd hd=>XG hd;refine⟨λd=>if d∈cP q0 then H3 d else R3 d,c,[],[],.ref q0.2.1,v1,v2,ts,k,bh,lp,rfl,λd o e=>?_,?_,hc,.nil,?_,av.mono (K:=X.K) (q3.trans s34) g1,av.mono (K:=X.K) s34 g2,hd,by show 0+bY ts<=1000;cbv,λH' R' YT xx w1 w2 pq=>?_⟩
 ·by_cases w:d∈cP q0
  ·let e:(if d∈cP q0 then H3 d else R3 d)∣o:=e;rwa [XG w] at e
  ·let e:(if d∈cP q0 then H3 d else R3 d)∣o:=e;rw[XF w] at e;exact E3.sub _ _ e
 ·show(if c∈cP q0 then H3 c else R3 c)=none;rw[XF λw=>nc c w rfl];exact hRc
 ·cases t4 with
  | @lst _ vs _ _ hb tt zz=>exact⟨_,vs,rfl,hb,tt.rZ.pair,zz⟩
 ·rw[S8,hrw] at pq;let hD:∀d∈cP q0,H' d=H3 d:=λd w=>by
   let⟨vs,e⟩:=t.nodes d w;rw[e];exact xx.h d _ (by unfold del;rw[XF (nc d w)];exact e)
  let x5:Ext (del H3 c) R3 H' (λd=>if d∈cP q0 then none else R' d):=⟨xx.h,λd o e=>?_,λd o e=>?_,λd e=>?_⟩
  ·let E4:ar X.K σ H0 R0 H' (λd=>if d∈cP q0 then none else R' d) (Z.set l (.ob (aO c av (rws.map f9)))):=E3.AZ hl (B:=aO c av []) (by
    have:gp H3 (aO c av ([]:List PV)).fp=del H3 c:=by funext b;show(if b∈[c] then none else H3 b)=_;unfold del;simp only[Sa]
    rw[this];exact x5) (by rw[ec];exact⟨⟨_,rfl,rfl,YT,w1,w9 (λu us e=>by
     show(if u∈cP q0 then none else R' u)=_;rw[XF λw=>by
      let⟨vs,e'⟩:=t.nodes u w;rw[← hD u w,xx.s _ _ e] at e';cases e']
     exact e) pq⟩,λb hb=>by
      rw[Sa.mp hb];show(if c∈cP q0 then none else R' c)=none;rw[XF λw=>nc c w rfl];exact w2⟩) λb hb=>hb
   exact dn σ H' _ _ E4 (q2.trans (q3.trans x5.r)) h
  ·show(if d∈cP q0 then none else R' d)∣o;rw[XF λw=>by rw[nR d w] at e;cases e]
   exact xx.r _ _ (s34 _ _ e)
  ·let e:(if d∈cP q0 then none else R' d)∣o:=e;by_cases w:d∈cP q0
   ·rw[XG w] at e;cases e
   ·rw[XF w] at e;exact xx.s _ _ e
  ·show(if d∈cP q0 then none else R' d)=R3 d;by_cases w:d∈cP q0
   ·rw[XG w,nR d w]
   ·rw[XF w,xx.old d e];show(if d∈cP q0 then H3 d else R3 d)=R3 d;rw[XF w]
theorem K4 {i j:Nat}{a:Addr}{n:Nat}(hΓ:`Y)(hj:Z[j]?∣.im dJ q0.2.1)(hq:ps[n]?∣q0)(σ:St)(H0 R0 H R:Hp)(E:`aU):ar X.K σ H H H H ((Z.map nY).set j (.im (ae av) q0.1)):=by
 let⟨⟨v,ea,rfl,k⟩,_⟩:=E.ent i _ hΓ;let⟨v0,e0,Zh⟩:=E.ent j _ hj;cases Zh
 cases (k.pt n _ hq).1 with
 | @lst _ vs _ _ hb tt zz=>
 exact E.YI.ma (i:=j) (e0:=.im dJ q0.2.1) (by rw[Sf,hj];rfl) ⟨_,e0,_,vs,rfl,hb,tt.rZ.pair,zz⟩ λb w=>by cases w
def QK:oK:=⟨[],λ_ _ _ _=>True,λ_ _ h=>h,λ_ b hb=>by cases hb⟩
end
end Fc
namespace K1
open PySem L2 Fc
open PySem.Spec hiding Row
open PyProof.Rows hiding St
open PySem.Builtin.Int (intBits)
variable {P:Ve}{w:World}{K:Xh}{mg:Rt}{base:Heap}{f:Addr}{fd:Vi}
mutual
theorem DO:∀(t:Th)(k:Int),(bu t k).2=k+eT t
 | .Yh x,k=>by rw[bu,eT];rfl
 | .call j,k=>by rw[bu,eT];rfl
 | .leave,k=>by rw[bu,eT];show k=_;cbv
 | .back,k=>by rw[bu,eT];show k=_;cbv
 | .X1 x A,k=>by rw[bu,eT];show(aT A (k+1)).2=_;rw[mP A];cbv
 | .ifs x A B,k=>by rw[bu,eT];show(aT B (aT A (k+1)).2).2=_;rw[mP B,mP A];cbv
theorem mP:∀(ts:`U)(k:Int),(aT ts k).2=k+fG ts
 | [],k=>by rw[aT,fG];show k=_;cbv
 | t::ts,k=>by rw[aT,fG];show(aT ts (bu t k).2).2=_;rw[mP ts,DO t];cbv
end
theorem sQ {k bh lp:Int}:∀ts:List Th,uj ts k bh lp=mn ts k bh lp
 | []=>rfl
 | .leave::_=>rfl
 | .back::_=>rfl
 | .Yh _::_=>rfl
 | .call _::_=>rfl
 | .ifs _ _ _::_=>rfl
 | .X1 _ _::_=>rfl
mutual
theorem HB:∀(t:Th)(k af lp:Int),gm t k af lp=cF t k af lp
 | .Yh x,k,af,lp=>by rw[gm,cF]
 | .call j,k,af,lp=>by rw[gm,cF]
 | .leave,k,af,lp=>by rw[gm,cF]
 | .back,k,af,lp=>by rw[gm,cF]
 | .X1 x A,k,af,lp=>by rw[gm,cF,mR A,sQ]
 | .ifs x A B,k,af,lp=>by rw[gm,cF,mR A,mR B,sQ,sQ,mP]
theorem mR:∀(ts:`U)(k bh lp:Int),jP ts k bh lp=cO ts k bh lp
 | [],k,bh,lp=>by rw[jP,cO]
 | t::ts,k,bh,lp=>by rw[jP,cO,HB t,mR ts,sQ,DO]
end
theorem xA {lo m:Int}{L:`U}{k:Int}(h:bJ lo m false L):fu L k (.int (-1)) .X4=(cO L k (-1) 0).map f9:=by
 rw[← mR];exact oA L 0 k (-1) h
abbrev dv:Rep (List je×RF):=cQ (ae qA) jw
def mw (Ls:`F)(j:Nat):List je×RF:=(X2 Ls j,eD Ls j)
noncomputable def Ya (Ls:`F):List (List je×RF):=(Sm Ls.length).map (mw Ls)
noncomputable def ZF (Ls:`F):List (List PV):=(Sm Ls.length).map λj=>fq (Ls.getD j []) (Ye Ls j:Int)
noncomputable def Az (K:Xh):Sp:=λvs H Q _=>∃(R:Hp)(a:Addr)(ps:List PT)(XN:Rx)(Ls:`F),vs=[.ref a]/\au R H/\ka H a ps/\(∀d∈a::eJ ps,R d=none)/\ps.map (·.1)=Ls.map bN/\cj XN Ls/\
 ∀v H' R',Ext (gp H (a::eJ ps)) R H' R'->(ae dv).R K R' v (Ya Ls)->(ae (ae av)).R K R' (.ref a) (ZF Ls)->Q v H'
end K1
namespace Fc
open PySem PySem.Spec PySem.W PySem.Calls L2
open PyProof.Rows hiding St
open PySem PySem.Spec L2 K1
variable {ps:List PT}{pos:Pos}
section
variable {X:Cx}{Z Γ1:Ga}{N:Ga->Prop}{T:RT}
variable {a:Addr}
def FZ {α:Type}(a:Addr)(r:Rep α):Rep α:=⟨λK H v x=>v= .ref a/\r.R K H v x,λs h=>⟨h.1,r.mono s h.2⟩⟩
theorem WS.OE (i:Nat){YG:List Stmt}(hΓ:`Y)(hz:ps.length<=U9)(h:WS X YG (Z.set i (.im (FZ a (ae (ae av))) (ps.map (·.1)))) N T):WS X YG Z N T:=λσ H0 R0 H R E D dn dr=>by
 let⟨⟨v,ea,rfl,k⟩,hR⟩:=E.ent i _ hΓ;let⟨E1,sR⟩:=E.Km hΓ;let hl:i<Z.length:=(R6.mp hΓ).1;let k':ka (λb=>if b∈(bC a ps).fp then H b else R b) a ps:=((bC a ps).loc (K:=X.K) (v:=.ref a) (λb hb=>XG hb) (au.refl R) ⟨rfl,k⟩).2;let E2:=E1.tell (i:=i) (e0:=.no) (en:=.im (FZ a (ae (ae av))) (ps.map (·.1))) (Sh hl) ⟨.ref a,ea,rfl,a,_,rfl,k'.hd,vZ λp hp=>by
  let⟨n,hn⟩:=Sr.mp hp;exact(k'.pt n p hn).1,by rw[R9];exact hz⟩ λb w=>by cases w
 rw[Ti] at E2;exact h σ H0 R0 H _ E2 D (λσ2 H2 R2 Γ2 E3 s2=>dn σ2 H2 R2 Γ2 E3 (sR.trans s2)) dr
theorem KL (i:Nat){α β:Type}{e:Expr}{r:Rep α}{y:α}{r':Rep β}{x:β}(he:EV X e Z r y Γ1)(hΓ1:Γ1[i]?∣(.im (FZ a r') x)):W1 X (.Return (some e) pos) Z N (λ_ v _ R'=>r.R X.K R' v y/\r'.R X.K R' (.ref a) x):=λσ H0 R0 H R E D dn dr=>
 sS (h9 aN) (he σ H0 R0 H R E _ λv H1 R1 E1 s1 e1=>by
  let⟨u,eu,hu⟩:=E1.ent i _ hΓ1;let⟨rfl,hu⟩:=hu;exact dr v H1 R1 E1.ext ⟨e1,hu⟩)
theorem N6 (i:Nat){x y:Str}{m:Nat}{p p1:Pos}{XN:Rx}{Ls:`F}(C:aE X.prog X.w X.K X.mg X.base x m (Az X.K))(hr:bG m X.A)(hΓ:`Y)(YL:ps.map (·.1)=Ls.map bN)(hP:`aI)(hg:Gl X x:=by rfl)(Yo:YJ x:=by decide)(he:dq X (.Name y p1) []:=by rfl)(Yb:fc X pos []:=by rfl)(hN:autoParam (At X i y) cb):
 EV X (.Call `aq [.Name y p1] [] pos) Z (ae dv) (Ya Ls) (Z.set i (.im (ae (ae av)) (ZF Ls))):=λσ H0 R0 H R E Q q=>by
 let⟨f,fd,pn,F,hm,hk,hb⟩:=C.ex;let⟨⟨v,ea,rfl,kk⟩,hR⟩:=E.ent i _ hΓ;refine eS (iZ F hr hg hm hk hb .nil kx (aI (aV hN) br he) Yo he Yb) ⟨.ref a,at_of ea,?_⟩;show Az X.K [.ref a] H Q E0;refine⟨R,a,ps,XN,Ls,rfl,E.sub,kk,hR,YL,hP,λv H' R' xx r r2=>?_⟩;let E1:ar X.K σ H0 R0 H' R' (Z.set i (.ob QK)):=E.AZ hΓ (B:=bC a ps) xx (by rw[ea];exact⟨⟨_,rfl,trivial⟩,λb hb=>by cases hb⟩) λc hc=>by cases hc
 let hl:i<Z.length:=(R6.mp hΓ).1;let E2:=E1.tell (i:=i) (en:=.im (ae (ae av)) (ZF Ls)) (Sh hl) ⟨_,ea,r2⟩ λb w=>by cases w
 rw[Ti] at E2;exact q v H' R' E2 xx.r r
end
end Fc
namespace K1
open PySem L2 Fc
open PySem.Spec hiding Row
open PyProof.Rows hiding St
open PySem.Builtin.Int (intBits)
variable {P:Ve}{w:World}{K:Xh}{mg:Rt}{base:Heap}{f:Addr}{fd:Vi}
variable {L:`U}{Ls:`F}{i:Nat}
theorem JZ {R H:Hp}{a:Addr}{ps:List PT}{N:Rx}(hN:N.length=12)(s:au R H)(kk:ka H a ps)(hR:∀d∈a::eJ ps,R d=none):
 ar K (L2.start N [.ref a]) (gp H (a::eJ ps)) R H R [.ob (bC a ps),.no,.no,.no,.no,.no,.no,.no,.no,.no,.no,.no]:=by
 let es:L2.start N [.ref a]=some (.ref a)::S7 11 none:=by unfold L2.start;rw[hN];rfl
 rw[es];let at_:∀(i:Nat)(e:Ent),(Ent.ob (bC a ps)::S7 11 Ent.no:Ga)[i]?∣e->(i=0/\e= .ob (bC a ps))∨e= .no:=λi e q=>by
  cases i with
  | zero=>exact .inl ⟨rfl,by simpa using q.symm⟩
  | succ i=>
    right;have:e∈S7 11 Ent.no:=Sg (~~~q);exact List.eq_of_mem_replicate this
 show ar K _ _ R H R (Ent.ob (bC a ps)::S7 11 Ent.no);refine⟨⟨qU,au.refl _,s,λ_ _=>rfl⟩,λi e q=>?_,λi e d q w=>?_,λi j e e' d q q' w w'=>?_,rfl⟩
 ·obtain⟨rfl,rfl⟩ | rfl:=at_ i e q
  ·exact⟨⟨_,rfl,rfl,kk⟩,hR⟩
  ·trivial
 ·obtain⟨rfl,rfl⟩ | rfl:=at_ i e q
  ·exact kQ w
  ·cases w
 ·obtain⟨rfl,rfl⟩ | rfl:=at_ i e q
  ·obtain⟨rfl,rfl⟩ | rfl:=at_ j e' q'
   ·rfl
   ·cases w'
  ·cases w
noncomputable def vR (Ls:`F)(i:Nat):List (List PV):=((Sm i).map λj=>fq (Ls.getD j []) (Ye Ls j:Int))++(Ls.drop i).map bN
theorem K7 (h:Ls[i]?∣L):(vR Ls i)[i]?∣bN L/\vR Ls (i+1)=(vR Ls i).set i (fq L (Ye Ls i:Int)):=by
 let hl:=(R6.mp h).1;let e1:((Sm i).map λj=>fq (Ls.getD j []) (Ye Ls j:Int)).length=i:=by rw[R9,SX]
 let hd:Ls.drop i=L::Ls.drop (i+1):=by
  let⟨h1,h2⟩:=R6.mp h;rw[Tf h1,h2]
 let hg:Ls.getD i []=L:=by rw[R8,h];rfl
 unfold vR;refine⟨?_,?_⟩
 ·rw[SG `a,e1,UP,hd];rfl
 ·rw[List.set_append_right _ _ `a,e1,UP,hd,TB,So,Su];show _++(fq (Ls.getD i []) (Ye Ls i:Int)::_)=_;rw[hg];rfl
theorem vW (F:RF)(k:Int):(cU F k).length<=F.length+1:=by
 unfold cU;split
 ·cbv
 ·rw[Sd];exact Uw _
theorem zG {F:RF}{k:Int}:cU F k=if(bo F k).isSome then F else jM F k (F.length:Int):=by
 unfold cU jM;cases (bo F k).isSome<;>rfl
theorem IU (rs:List mZ):∀(F:RF),(rs.foldl `ad F).length<=F.length+2*rs.length:=by
 induction rs with
 | nil=>intro F;exact Uw _
 | cons r rs ih=>
   intro F;rw[S9,Si];let h1:_<=(cU (cU F r.2.2.1) r.2.2.2.1).length+2*rs.length:=ih (i8 F r.2.2.1 r.2.2.2.1);let h2:=vW (cU F r.2.2.1) r.2.2.2.1;let h3:=vW F r.2.2.1;cbv
theorem Bv {lo m:Int}(h:bJ lo m false L)(k:Int):(cO L k (-1) 0).length=bY L:=by
 have:=congrArg List.length (xA (k:=k) h);rw[iG,R9] at this;exact this.symm
theorem LD {k:Int}{bh lp:PV}{lo m:Int}(h:iJ L)(ho:bJ lo m false L):lK L k bh lp= .int k:=by
 let⟨t,ts,rfl,hb⟩:=h;cases t with
 | leave=>simp only[bJ,bZ] at ho;cases ho.1
 | back=>cases hb
 | Yh _=>rfl
 | call _=>rfl
 | ifs _ _ _=>rfl
 | X1 _ _=>rfl
abbrev Dq:Stmt:=top tZ
abbrev ML:Rx:=["_law_lists","_law_keys","_law_mapped_here","_law_items","_law_rows_here","_law_known","_law_key","_law_word","_law_name_here","_law_one","_law_other","_law_calls"]
abbrev JT:Rx:=["_law_lists"]
theorem KU:bF ML JT (ao Dq):=Y6
theorem NY (M:`ba)(CN:aE P w K mg base "_law_numbered" 5 (mG 4))(CE:aE P w K mg base "_law_entry" 1 (aR DI K))(CR:aE P w K mg base "_law_rows" 6 (nL 4 K))(F:dO K "_law_mapped" "_law_mapped" Dq f fd)(hm:mg "_law_mapped"∣.ref f)(hb:Binds K fd JT []):aE P w K mg base "_law_mapped" 7 (Az K):=by
 let nd:=KU.nd;let CN:=CN.mono (show 5<=6 by decide);let CE:=CE.mono (show 1<=6 by decide);refine⟨f,fd,JT,?_,hm,F.kp,hb⟩;refine F.ok (k:=6) KU (λvs H Q E h=>?_) `ae
 ·let⟨R,a,ps,XN,Ls,rfl,_⟩:=h;rfl
 ·let⟨R,a,ps,XN,Ls,rfl,sR,kk,hR,YL,hP,q⟩:=h;let hu:=ru hr;let l4:=hP.l4;let lps:ps.length=Ls.length:=by have:=congrArg List.length YL;rwa [R9,R9] at this
  let body:WS (eU eI P w K mg base ML "_law_mapped" (ao Dq) f XU A outer s H E).gW (bE Dq) [.ob (bC a ps),.no,.no,.no,.no,.no,.no,.no,.no,.no,.no,.no] (λ_=>False) (λ_ v _ R'=>(ae dv).R K R' v (Ya Ls)/\(ae (ae av)).R K R' (.ref a) (ZF Ls)):=by
   refine ai (cD 1 (r:=ag) (ys:=[0]) (aP (ak ev_int aM) (by show 1<=U9;decide)) ?_);refine ai (cD 2 (r:=dv) (ys:=[]) `az ?_);refine WS.box 1 rfl λc=>?_;refine bD (N1:=λZ=>∃qs e1 e3 e4 e5 e6 e7 e8 e9 YS Zc,Z=[.ob (bC a qs),e1,.mu dv (Ya Ls),e3,e4,e5,e6,e7,e8,e9,YS,Zc]/\qs.map (·.1)=ZF Ls) (As 0 (a:=a) (ps:=ps) (λi Z=>∃qs e3 e4 e5 e6 e7 e8 e9 YS Zc,Z=[.ob (bC a qs),.ob (aO c ag [(Ye Ls i:Int)]),.mu dv ((Sm i).map (mw Ls)),e3,e4,e5,e6,e7,e8,e9,YS,Zc]/\qs.map (·.2)=ps.map (·.2)/\qs.map (·.1)=vR Ls i) rfl (aW 3) ⟨ps,_,_,_,_,_,_,_,_,_,rfl,rfl,YL⟩ (λk Z ⟨qs,e3,e4,e5,e6,e7,e8,e9,YS,Zc,e,h1,_⟩=>⟨qs,by rw[e];rfl,h1⟩) (λi p Z hp hΓ=>?_) `X) ?_
   ·let⟨qs,e3,e4,e5,e6,e7,e8,e9,YS,Zc,rfl,h1,h2⟩:=hΓ;let il:i<Ls.length:=by have:=(R6.mp hp).1;rwa [lps] at this
    obtain⟨L,hL⟩:∃L,Ls[i]?∣L:=⟨_,R7 il⟩;let hg:Ls.getD i []=L:=by rw[R8,hL];rfl
    let⟨n1,n2⟩:=K7 hL;let ql:qs.length=ps.length:=by have:=congrArg List.length h1;rwa [R9,R9] at this
    obtain⟨q0,hq⟩:∃q,qs[i]?∣q:=⟨_,R7 `a⟩;let er:q0.2=p.2:=by
     have:=congrArg (·[i]?) h1;simp only[Sf,hq,hp,UX] at this;exact Option.some.inj this
    let ey:q0.1=bN L:=by
     have:=congrArg (·[i]?) h2;simp only[Sf,hq,n1,UX] at this;exact Option.some.inj this
    let hq2:(qs.set i `am)[i]?∣`am:=Sh (R6.mp hq).1;let h1':(qs.set i `am).map (·.2)=ps.map (·.2):=by
     rw[List.map_set,lT (by rw[Sf,hq];rfl),h1]
    let h3:(qs.set i `am).map (·.1)=vR Ls (i+1):=by rw[List.map_set,h2,n2]
    let hm:=Sg hL;let ho:=hP.ok i L hL;let hh:=hP.hd L hm;let h14:=hP.rw L hm;let rl:=Bv ho (Ye Ls i:Int);change WS _ _ [.ob (bC a qs),.ob (aO c ag [(Ye Ls i:Int)]),.mu dv ((Sm i).map (mw Ls)),.im dJ p.2.1,e4,e5,e6,e7,e8,e9,YS,Zc] _ _;rw[← er];refine ai (Qz 0 3 1 CN hr `c rfl rfl rfl hq ey (hP.dp L hm) ?_);refine ai (cD 4 (r:=av) (ys:=[]) `az ?_);refine WS.box 4 rfl λd=>?_;change WS _ _ [.ob (bC a (qs.set i `am)),.ob (aO c ag [(aT L (Ye Ls i:Int)).2]),.mu dv ((Sm i).map (mw Ls)),.im dJ q0.2.1,.ob (aO d av []),e5,e6,e7,e8,e9,YS,Zc] _ _;generalize qs.set i `am=us at hq2 h1' h3 ⊢;refine ai (Of 0 3 4 (q0:=`am) (ts:=L) (k:=(Ye Ls i:Int)) (bh:=.int (-1)) (lp:=.X4) CR hr `c (EV.pI `af) (EV.Pa Ds) rfl rfl hq2 rfl rfl (hP.dp L hm) `a (xA ho) ?_);refine WS.unb 4 rfl ?_;refine WS.freeze 4 rfl (aL (by rw[R9];cbv)) ?_;refine ai (pG 5 ?_);let kn:(aT L (Ye Ls i:Int)).2=(Ye Ls (i+1):Int):=by
     rw[mP];unfold Ye;rw[SS,hL,So,Uu];show _=(((List.map fG (Ls.take i)).sum + [fG L].sum:Nat):Int);rw[show[fG L].sum=fG L by simp];push_cast;rfl
    rw[kn];let hen:lK L (Ye Ls i:Int) (.int (-1)) .X4= .int (Ye Ls i:Int):=LD hh ho;let rws:cO L (Ye Ls i:Int) (-1) 0=X2 Ls i:=by unfold X2;rw[hg]
    let knf:(X2 Ls i).foldl `ad [((Ye Ls i:Int),0),(-1,1)]=eD Ls i:=rfl;rw[rws] at rl ⊢;let nx:(Sm (i+1)).map (mw Ls)=(Sm i).map (mw Ls)++[(X2 Ls i,eD Ls i)]:=by rw[TB,So];rfl
    rw[nx];let ml:((Sm i).map (mw Ls)).length<=4:=by rw[R9,SX];cbv
    generalize (Sm i).map (mw Ls)=ms at ml;let k0:(0:Int)<=(Ye Ls i:Int):=Int.natCast_nonneg _;change WS _ _ [.ob (bC a us),.ob `aY,.mu dv ms,.im dJ q0.2.1,.im (ae av) ((X2 Ls i).map f9),.di (cH []),e6,e7,e8,e9,YS,Zc] _ _;refine bD (N1:=λZ=>∃e6,Z=[.ob (bC a us),.ob `aY,.mu dv ms,.im dJ q0.2.1,.im (ae av) ((X2 Ls i).map f9),.di (cH [((Ye Ls i:Int),0),(-1,1)]),e6,e7,e8,e9,YS,Zc]) (bO (r:=ag) (xs:=[(Ye Ls i:Int), -1]) (λk Z=>∃e6,Z=[.ob (bC a us),.ob `aY,.mu dv ms,.im dJ q0.2.1,.im (ae av) ((X2 Ls i).map f9),.di (cH (([((Ye Ls i:Int),(0:Int)),(-1,1)]:RF).take k)),e6,e7,e8,e9,YS,Zc]) (bI (ba.im (aP (ak (EV.YI (r:=ag) (K4 (i:=0) (j:=3) (q0:=`am) rfl rfl hq2) (λ_ _ _ _ _ h=>h) (EV.iP (n:=(Ye Ls i:Int)) (EV.cast (aJ CE hr (ah `p (ah ev_int (ah (EV.pI `af) (ah (EV.Pa Ds) ax)))) ⟨L,(Ye Ls i:Int),0,.int (-1),.X4,rfl,Uy _,rfl⟩) (by rw[drop_zero,TC,aT];exact hen)))) (ak `af aM)) (by show 2<=U9;decide)))) (aW 6) ⟨_,rfl⟩ (λk x Z hx hΓ=>?_) (λZ hΓ=>hΓ)) ?_
    ·let⟨e6,rfl⟩:=hΓ
     match k,hx with
     | 0,hx=>
       let hx:x=(Ye Ls i:Int):= ~~~hx.symm
       subst hx;exact aj (sf 5 hu `an (n8 5 M.len rfl) rfl (show 0<U9 by decide) ⟨_,rfl⟩)
     | 1,hx=>
       let hx:x= -1:= ~~~hx.symm
       subst hx;let e:jM [((Ye Ls i:Int),(0:Int))] (-1) 1=[((Ye Ls i:Int),0),(-1,1)]:=by
        unfold jM bo;rw[TZ `d];rfl
       refine aj (sf 5 (F:=[((Ye Ls i:Int),(0:Int))]) hu `an (n8 5 M.len rfl) rfl (show 1<U9 by decide) ⟨aA (-1),?_⟩);show _=[Ent.ob (bC a us),.ob `aY,.mu dv ms,.im dJ q0.2.1,.im (ae av) ((X2 Ls i).map f9),.di (cH [((Ye Ls i:Int),0),(-1,1)]),aA (-1),e7,e8,e9,YS,Zc];rw[← e];rfl
     | k+2,hx=>simp at hx
    rintro _ ⟨e6,rfl⟩;refine bD (N1:=λZ=>∃e6 e7 e8 e9 YS Zc,Z=[.ob (bC a us),.ob `aY,.mu dv ms,.im dJ q0.2.1,.im (ae av) ((X2 Ls i).map f9),.di (cH (eD Ls i)),e6,e7,e8,e9,YS,Zc]) (bO (r:=qA) (xs:=X2 Ls i) (λk Z=>∃e6 e7 e8 e9 YS Zc,Z=[.ob (bC a us),.ob `aY,.mu dv ms,.im dJ q0.2.1,.im (ae av) ((X2 Ls i).map f9),.di (cH (((X2 Ls i).take k).foldl `ad [((Ye Ls i:Int),0),(-1,1)])),e6,e7,e8,e9,YS,Zc]) (bI (EV.Qt `T)) (GW 7 8 9 10 11) ⟨_,_,_,_,_,_,rfl⟩ (λk r Z YW hΓ=>?_) `X) ?_
    ·let⟨e6,e7,e8,e9,YS,Zc,rfl⟩:=hΓ;let kl:=(R6.mp YW).1;let nx:((X2 Ls i).take (k+1)).foldl `ad [((Ye Ls i:Int),0),(-1,1)]=i8 (((X2 Ls i).take k).foldl `ad [((Ye Ls i:Int),0),(-1,1)]) r.2.2.1 r.2.2.2.1:=by
      rw[SS,YW,Tg];rfl
     rw[nx];let Fl:=IU ((X2 Ls i).take k) [((Ye Ls i:Int),0),(-1,1)];rw[Sx] at Fl;let Fl:(((X2 Ls i).take k).foldl `ad [((Ye Ls i:Int),0),(-1,1)]).length<=40:=by
      refine Ux Fl ?_;show 2+2*min k (X2 Ls i).length<=40;cbv
     generalize ((X2 Ls i).take k).foldl `ad [((Ye Ls i:Int),0),(-1,1)]=F0 at Fl;let⟨wd,nm,o1,o2,cl⟩:=r;refine aj (bO (r:=ag) (xs:=[o1,o2]) (λk Z=>∃e6,Z=[.ob (bC a us),.ob `aY,.mu dv ms,.im dJ q0.2.1,.im (ae av) ((X2 Ls i).map f9),.di (cH ((([o1,o2]:Rv).take k).foldl cU F0)),e6,.im aq wd,.im aq nm,aA o1,aA o2,aA cl]) (bI (ba.im (aP (ak (aa 9 rfl) (ak (aa 10 rfl) aM)) (by show 2<=U9;decide)))) (aW 6) ⟨_,rfl⟩ (λk x Z hx hΓ=>?_) `X)
     ·let⟨e6,rfl⟩:=hΓ;let kl:k<2:=(R6.mp hx).1;let nx:(([o1,o2]:Rv).take (k+1)).foldl cU F0=cU ((([o1,o2]:Rv).take k).foldl cU F0) x:=by
       rw[SS,hx,Tg];rfl
      rw[nx];let F1l:((([o1,o2]:Rv).take k).foldl cU F0).length<=42:=by
       match k,kl with
       | 0,_=>show F0.length<=42;cbv
       | 1,_=>show(cU F0 o1).length<=42;have:=vW F0 o1;cbv
      generalize (([o1,o2]:Rv).take k).foldl cU F0=F1 at F1l;refine aj (a9 (Eu 5 hu `an rfl) (λh=>?_) `J)
      ·let h:(bo F1 x).isSome=false:= ~~~h
       refine aj (sf 5 hu `an (n8 5 M.len rfl) rfl (Uz F1l `c) ⟨aA x,?_⟩);rw[zG,h];rfl
      ·let h:(bo F1 x).isSome=true:= ~~~h
       refine⟨aA x,?_⟩;rw[zG,h];rfl
     ·let⟨e6,rfl⟩:=hΓ;exact⟨_,_,_,_,_,_,rfl⟩
    ·let⟨e6,e7,e8,e9,YS,Zc,rfl⟩:=hΓ;rw[SW];exact⟨_,_,_,_,_,_,rfl⟩
    rintro _ ⟨e6,e7,e8,e9,YS,Zc,rfl⟩;refine WS.N7 5 rfl ?_;refine aj (eQ 2 (r:=dv) (y:=(X2 Ls i,eD Ls i)) (i7 (ah (EV.Qt `T) (ah `ai ax))) rfl rfl (Uz ml `c) ⟨us,_,_,_,_,_,_,_,_,_,rfl,h1',h3⟩)
   ·let⟨qs,e3,e4,e5,e6,e7,e8,e9,YS,Zc,rfl,h1,h2⟩:=hΓ;rw[lps] at h2 ⊢;refine⟨qs,_,_,_,_,_,_,_,_,_,_,rfl,h2.trans ?_⟩;unfold vR ZF;rw[Uq,T4,Sw]
   rintro _ ⟨qs,e1,e3,e4,e5,e6,e7,e8,e9,YS,Zc,rfl,h2⟩;let ql:qs.length=Ls.length:=by have:=congrArg List.length h2;unfold ZF at this;rwa [R9,R9,SX] at this
   refine WS.OE 0 rfl (aL `a) ?_;rw[← h2];refine WS.freeze 2 rfl (aL (by unfold Ya;rw[R9,SX];cbv)) ?_;exact aj (KL 0 `r rfl)
  exact⟨_,iC,body (L2.start ML [.ref a]) (gp H (a::eJ ps)) R H R (JZ rfl sR kk hR) {nx:=λ_ H'=>Q .X4 H',rt:=Q} (λσ' H' R' Γ' E' _ h=>h.elim) λv H' R' xx t=>q v H' R' xx t.1 t.2⟩
structure r8 (mg:Rt):Prop where
 isinstance:mg "isinstance"=none
 bool:mg "bool"=none
 str:mg "str"=none
 tuple:mg "tuple"=none
mutual
noncomputable def oi:PV->Bool
 | .str _=>true
 | .int _=>true
 | .tup xs=>decide (xs.length<=1000)&&kf xs
 | .lst xs=>kf xs
 | _=>false
noncomputable def kf:List PV->Bool
 | []=>true
 | x::xs=>oi x&&kf xs
end
theorem qW {x:PV}:∀{xs:`aQ},kf xs=true->x∈xs->oi x=true
 | y::xs,h,hx=>by
   rw[kf,RJ] at h;obtain rfl | hx:=Sj.mp hx
   ·exact h.1
   ·exact qW h.2 hx
theorem t9:∀{xs:`aQ},(∀x∈xs,oi x=true)->kf xs=true
 | [],_=>by rw[kf]
 | y::xs,h=>by rw[kf,h y Se,t9 λx hx=>h x (Sb _ hx)];rfl
variable {α:Type}
theorem wk {xs:`u}{y:α×α}(h:(xs.zip xs)[i]?∣y):y.1∈xs/\y=(y.1,y.1):=by
 let⟨h1,h2⟩:=Fc.ni h;rw[h1] at h2;exact⟨Sg h1,UZ rfl (Option.some.inj h2).symm⟩
abbrev GY:Stmt:=top wN
abbrev nSM:Rx:=["_law_told","_law_due","_law_one","_law_other"]
abbrev Mq:Rx:=["_law_told","_law_due"]
theorem JR:bF nSM Mq (ao GY):=Y6
def Hk (n:Nat):dh:=λK ps T=>∃x:PV,ps=[⟨av,x⟩,⟨av,x⟩]/\x.deep<=n/\oi x=true/\T=cR K dc (· =true)
theorem DU (M:`ba)(MS:r8 mg){n:Nat}(CS:∀m,n=m+1->aE P w K mg base "_law_same" (m+1) (aR (Hk m) K))(F:dO K "_law_same" "_law_same" GY f fd)(hm:mg "_law_same"∣.ref f)(hb:Binds K fd Mq []):aE P w K mg base "_law_same" (n+1) (aR (Hk n) K):=by
 let nd:=JR.nd;refine gU (k:=n) F JR hm hb (λqs T ⟨_,e,_⟩=>by rw[e];rfl) `ab;let⟨x,rfl,hd,ho,rfl⟩:=hS;cases x with
 | X4=>simp[oi] at ho
 | bl b=>simp[oi] at ho
 | int k=>
   refine ai (a9 (TW.tv (jd (bV (bA (b:=false) MS.isinstance MS.tuple U3 `g kN)) (λ_=>jb (bV (bA (b:=false) MS.isinstance M.list U0 `g kN))))) `aE (λ_=>aG ?_));refine ai (a9 (bV (bA (b:=false) MS.isinstance MS.bool boot_bool `g kN)) `aE (λ_=>aG ?_));refine ai (a9 (bV (bA (b:=true) MS.isinstance M.int U5 `g kN)) (λ_=>?_) `aE);exact aj (aX (oz (bA (b:=true) MS.isinstance M.int U5 `e kN) (λ_=>oz (wu (bA (b:=false) MS.isinstance MS.bool boot_bool `e kN)) (λ_=>tE (jt gi (EV.iP (n:=k) `e) (EV.iP (n:=k) `g))))) `d)
 | str y=>
   refine ai (a9 (TW.tv (jd (bV (bA (b:=false) MS.isinstance MS.tuple U3 `g kM)) (λ_=>jb (bV (bA (b:=false) MS.isinstance M.list U0 `g kM))))) `aE (λ_=>aG ?_));refine ai (a9 (bV (bA (b:=false) MS.isinstance MS.bool boot_bool `g kM)) `aE (λ_=>aG ?_));refine ai (a9 (bV (bA (b:=false) MS.isinstance M.int U5 `g kM)) `aE (λ_=>aG ?_));refine ai (a9 (bV (bA (b:=true) MS.isinstance MS.str PyProof.Rows.boot_str `g kM)) (λ_=>?_) `aE);exact aj (aX (oz (bA (b:=true) MS.isinstance MS.str PyProof.Rows.boot_str `e kM) (λ_=>tE (jt cu (EV.sP (x:=y) `e) (EV.sP (x:=y) `g)))) `d)
 | tup xs=>
   rw[PV.deep] at hd;rw[oi,RJ] at ho;cases n with
   | zero=>cbv
   | succ m=>
   let CS:=CS m rfl;refine ai (a9 (TW.tv (jd (y:=false) (bV (bA (b:=true) MS.isinstance MS.tuple U3 `g oG)) `aE)) (λ_=>?_) `aE);refine ai (a9 (TW.tv (jd (ay vE (bA (b:=true) MS.isinstance MS.tuple U3 `e oG) (bA (b:=true) MS.isinstance MS.tuple U3 `g oG)) (λ_=>jb (ay vE (bA (b:=false) MS.isinstance M.list U0 `e oG) (bA (b:=false) MS.isinstance M.list U0 `g oG))))) `aE (λ_=>aG ?_));refine ai (a9 (ay EK (yZ M.len `e) (yZ M.len `g)) (λh=>XE h `d) (λ_=>aG ?_));refine bD (N1:=λZ=>∃e2 e3,Z=[.im av (.tup xs),.im av (.tup xs),e2,e3]) (bO (r:=cQ av av) (λi Z=>∃e2 e3,Z=[.im av (.tup xs),.im av (.tup xs),e2,e3]) (EF M.zip `e `g (aL (Ux (XH ho.1) `c))) (eL 2 3) ⟨_,_,rfl⟩ (λi y Z hy hΓ=>?_) (λZ hΓ=>hΓ)) ?_
   ·let⟨e2,e3,rfl⟩:=hΓ;let⟨h1,h2⟩:=wk hy;rw[h2];have:=qM h1;exact aj (a9 (gz (bV (aJ CS hr (ah `r (ah `p ax)) ⟨y.1,rfl,`a,qW ho.2 h1,rfl⟩))) `aE (λ_=>aG ⟨_,_,rfl⟩))
   rintro _ ⟨e2,e3,rfl⟩;exact aj (aX jK rfl)
 | lst xs=>
   rw[PV.deep] at hd;rw[oi] at ho;cases n with
   | zero=>cbv
   | succ m=>
   let CS:=CS m rfl;refine ai (a9 (TW.tv (jd (bV (bA (b:=false) MS.isinstance MS.tuple U3 `g kL)) (λ_=>jb (bV (bA (b:=true) MS.isinstance M.list U0 `g kL))))) (λ_=>?_) `aE);refine ai (a9 (TW.tv (jd (ay vE (bA (b:=false) MS.isinstance MS.tuple U3 `e kL) (bA (b:=false) MS.isinstance MS.tuple U3 `g kL)) (λ_=>jb (ay vE (bA (b:=true) MS.isinstance M.list U0 `e kL) (bA (b:=true) MS.isinstance M.list U0 `g kL))))) `aE (λ_=>aG ?_));refine ai (a9 (ay EK (cX M.len (EV.lP (xs:=xs) `e)) (cX M.len (EV.lP (xs:=xs) `g))) (λh=>XE h `d) (λ_=>aG ?_));refine bD (N1:=λZ=>∃e2 e3,Z=[.im av (.lst xs),.im av (.lst xs),e2,e3]) (bO (r:=cQ av av) (λi Z=>∃e2 e3,Z=[.im av (.lst xs),.im av (.lst xs),e2,e3]) (BU M.zip (EV.lP (xs:=xs) `e) (EV.lP (xs:=xs) `g)) (eL 2 3) ⟨_,_,rfl⟩ (λi y Z hy hΓ=>?_) (λZ hΓ=>hΓ)) ?_
   ·let⟨e2,e3,rfl⟩:=hΓ;let⟨h1,h2⟩:=wk hy;rw[h2];have:=qM h1;exact aj (a9 (gz (bV (aJ CS hr (ah `r (ah `p ax)) ⟨y.1,rfl,`a,qW ho h1,rfl⟩))) `aE (λ_=>aG ⟨_,_,rfl⟩))
   rintro _ ⟨e2,e3,rfl⟩;exact aj (aX jK rfl)
theorem Hm (M:`ba)(MS:r8 mg)(F:dO K "_law_same" "_law_same" GY f fd)(hm:mg "_law_same"∣.ref f)(hb:Binds K fd Mq []):∀n,aE P w K mg base "_law_same" (n+1) (aR (Hk n) K)
 | 0=>DU M MS (λm h=>XE h `a) F hm hb
 | n+1=>DU M MS (λm h=>by cases h;exact Hm M MS F hm hb n) F hm hb
section
variable {P:α->Prop}
theorem pL {a b:`u}:(∀r∈a++b,P r)↔(∀r∈a,P r)/\∀r∈b,P r:=
 ⟨λh=>⟨λr hr=>h r (Sn _ hr),λr hr=>h r (Sk _ hr)⟩,λh r hr=>(Sl.mp hr).elim (h.1 r) (h.2 r)⟩
theorem pZ {a b:α}:(∀r∈[a,b],P r)↔P a/\P b:=`d
theorem Ag {a:α}:(∀r∈[a],P r)↔P a:=`d
end
section
variable {lo m:Int}
mutual
theorem Qx:∀(t:Th)(lp:Bool)(k af lq:Int),bZ lo m lp t->(cF t k af lq).length=cn t/\∀r∈cF t k af lq,k<=r.2.2.1/\r.2.2.1<k+eT t
 | .Yh x,lp,k,af,lq,_=>by rw[cF,Ag];simp[cn,eT];cbv
 | .call x,lp,k,af,lq,ho=>by rw[cF,Ag];simp[cn,eT];cbv
 | .leave,lp,k,af,lq,_=>by simp[cF,cn,eT]
 | .back,lp,k,af,lq,_=>by simp[cF,cn,eT]
 | .X1 x A,lp,k,af,lq,ho=>by
   simp only[bZ] at ho;let⟨a1,a3⟩:=sh A true (k+1) k af ho.2;rw[cF,pL,pZ,cn,eT];refine⟨by simp[a1];cbv,⟨⟨?_,?_⟩,?_,?_⟩,λr hr=>?_⟩<;>try (dsimp only;cbv)
   have:=a3 r hr;cbv
 | .ifs x A B,lp,k,af,lq,ho=>by
   simp only[bZ] at ho;let⟨a1,a3⟩:=sh A lp (k+1) af lq ho.2.1;let⟨b1,b3⟩:=sh B lp (k+1+fG A) af lq ho.2.2;rw[cF,pL,pZ,pL,cn,eT];refine⟨by simp[a1,b1];cbv,⟨⟨?_,?_⟩,?_,?_⟩,λr hr=>?_,λr hr=>?_⟩<;>try (dsimp only;cbv)
   ·have:=a3 r hr;cbv
   ·have:=b3 r hr;cbv
theorem sh:∀(ts:`U)(lp:Bool)(k bh lq:Int),bJ lo m lp ts->(cO ts k bh lq).length=bY ts/\∀r∈cO ts k bh lq,k<=r.2.2.1/\r.2.2.1<k+fG ts
 | [],lp,k,bh,lq,_=>by simp[cO,bY,fG]
 | t::ts,lp,k,bh,lq,ho=>by
   simp only[bJ] at ho;let⟨a1,a3⟩:=Qx t lp k (mn ts (k+eT t) bh lq) lq ho.1;let⟨b1,b3⟩:=sh ts lp (k+eT t) bh lq ho.2.2;rw[cO,pL,bY,fG,Sd];refine⟨`a,λr hr=>?_,λr hr=>?_⟩
   ·have:=a3 r hr;cbv
   ·have:=b3 r hr;cbv
end
def G3 {α:Type}(w:α->Str)(l:`u):Prop:=l=[]∨(∃r,l=[r]/\w r≠"yes")∨∃r s,l=[r,s]/\w r="yes"
abbrev atK (x:Int)(r:mZ):Bool:=decide (r.2.2.1=x)
theorem ju {x:Int}{l:List mZ}(h:∀r∈l,r.2.2.1≠x):l.filter (atK x)=[]:=Tj.mpr λr hr=>by simpa using h r hr
abbrev w1 (r:mZ):Str:=r.1
mutual
theorem flT:∀(t:Th)(lp:Bool)(k af lq:Int),bZ lo m lp t->∀x,G3 w1 ((cF t k af lq).filter (atK x))
 | .Yh n,lp,k,af,lq,_,x=>by
   rw[cF,T2];split
   ·exact .inr (.inl ⟨_,rfl,by show("do":Str)≠"yes";decide⟩)
   ·exact .inl rfl
 | .call n,lp,k,af,lq,_,x=>by
   rw[cF,T2];split
   ·exact .inr (.inl ⟨_,rfl,by show("call":Str)≠"yes";decide⟩)
   ·exact .inl rfl
 | .leave,lp,k,af,lq,_,x=>by rw[cF];exact .inl rfl
 | .back,lp,k,af,lq,_,x=>by rw[cF];exact .inl rfl
 | .X1 n A,lp,k,af,lq,ho,x=>by
   simp only[bZ] at ho;let ih:=B5 A true (k+1) k af ho.2 x;let rb:=(sh A true (k+1) k af ho.2).2;rw[cF,SU];by_cases h:k=x
   ·rw[ju (l:=cO A _ _ _) λr hr=>by have:=rb r hr;cbv,Sw,SQ.mpr (by simp[h])];exact .inr (.inr ⟨_,_,rfl,rfl⟩)
   ·rw[ju (l:=[_,_]) (by rw[pZ];exact⟨h,h⟩)];exact ih
 | .ifs n A B,lp,k,af,lq,ho,x=>by
   simp only[bZ] at ho;let ia:=B5 A lp (k+1) af lq ho.2.1 x;let ra:=(sh A lp (k+1) af lq ho.2.1).2;let ib:=B5 B lp (k+1+fG A) af lq ho.2.2 x;let rb:=(sh B lp (k+1+fG A) af lq ho.2.2).2;rw[cF,SU,SU];by_cases h:k=x
   ·rw[ju (l:=cO A _ _ _) λr hr=>by have:=ra r hr;cbv,ju (l:=cO B _ _ _) λr hr=>by have:=rb r hr;cbv,Sw,SQ.mpr (by simp[h])];exact .inr (.inr ⟨_,_,rfl,rfl⟩)
   ·rw[ju (l:=[_,_]) (by rw[pZ];exact⟨h,h⟩)];by_cases q:x<k+1+fG A
    ·rw[ju (l:=cO B _ _ _) λr hr=>by have:=rb r hr;cbv,Sw];exact ia
    ·rw[ju (l:=cO A _ _ _) λr hr=>by have:=ra r hr;cbv];exact ib
theorem B5:∀(ts:`U)(lp:Bool)(k bh lq:Int),bJ lo m lp ts->∀x,G3 w1 ((cO ts k bh lq).filter (atK x))
 | [],lp,k,bh,lq,_,x=>by rw[cO];exact .inl rfl
 | t::ts,lp,k,bh,lq,ho,x=>by
   simp only[bJ] at ho;let ia:=flT t lp k (mn ts (k+eT t) bh lq) lq ho.1 x;let ra:=(Qx t lp k (mn ts (k+eT t) bh lq) lq ho.1).2;let ib:=B5 ts lp (k+eT t) bh lq ho.2.2 x;let rb:=(sh ts lp (k+eT t) bh lq ho.2.2).2;rw[cO,SU];by_cases q:x<k+eT t
   ·rw[ju (l:=cO ts _ _ _) λr hr=>by have:=rb r hr;cbv,Sw];exact ia
   ·rw[ju (l:=cF t _ _ _) λr hr=>by have:=ra r hr;cbv];exact ib
end
end
noncomputable def Gw (rs:List mZ)(F:RF):RF:=rs.foldl `ad F
theorem BZ:∀{rs:List mZ}{F:RF},Ix F->Ix (Gw rs F)/\F <+:Gw rs F/\∀r∈rs,r.2.2.1∈(Gw rs F).map (·.1)/\r.2.2.2.1∈(Gw rs F).map (·.1)
 | [],F,hi=>⟨hi,List.prefix_refl F,λr h=>by cases h⟩
 | r::rs,F,hi=>by
   let⟨a,c,e⟩:=BZ (rs:=rs) (F:=i8 F r.2.2.1 r.2.2.2.1) ((hi.put _).put _);let p1:=(mK (cU F r.2.2.1) r.2.2.2.1).trans c;refine⟨a,(mK F r.2.2.1).trans p1,λq hq=>?_⟩;obtain rfl | hq:=Sj.mp hq
   ·exact⟨(p1.map _).subset (pX F _),(c.map _).subset (pX _ _)⟩
   ·exact e q hq
variable {j:Nat}
section
variable {XN:Rx}
structure PaL (Ls:`F)(j:Nat)(L:`U):Prop where
 ok:bJ (j:Int) (Ls.length:Int) false L
 rs:X2 Ls j=cO L (Ye Ls j:Int) (-1) 0
 ln:(X2 Ls j).length=bY L
 ix:Ix `aR
 inn:∀r∈X2 Ls j,r.2.2.1∈(eD Ls j).map (·.1)/\r.2.2.2.1∈(eD Ls j).map (·.1)
theorem A9 (h:`aI)(hL:Ls[j]?∣L):PaL Ls j L:=by
 let ho:=h.ok j L hL;let hrs:X2 Ls j=cO L (Ye Ls j:Int) (-1) 0:=by unfold X2;rw[R8,hL];rfl
 let⟨ix,_,inn⟩:=BZ (rs:=X2 Ls j) (DM (Ye Ls j:Int) (-1));exact⟨ho,hrs,by rw[hrs];exact(sh L false _ _ _ ho).1,ix,inn⟩
theorem vz (hj:j<Ls.length):Ls[j]?∣(Ls.getD j []):=by rw[R8,R7 hj];rfl
theorem Kj (h:`aI):(XY Ls).2.length=(Ls.map bY).sum:=by
 unfold XY;rw[List.length_flatMap];congr 1;refine S6 λj=>?_;by_cases hj:j<Ls.length
 ·rw[Sf,Sf,SY hj,vz hj];exact congrArg some ((R9 ..).trans (A9 h (vz hj)).ln)
 ·rw[SE (by simp;cbv),SE (by simp;cbv)]
theorem L0 (h:`aI)(hj:j<Ls.length)(q:Int):G3 w1 ((X2 Ls j).filter λr=>decide ((bo `aR r.2.2.1).getD 0=q)):=by
 let po:=A9 h (vz hj);by_cases c:∃r∈X2 Ls j,(bo `aR r.2.2.1).getD 0=q
 ·let⟨r0,hr0,e0⟩:=c;let⟨i0,f0,_,g0⟩:=po.ix.val (po.inn r0 hr0).1;rw[Ul (q:=atK r0.2.2.1) λr hr=>?_]
  ·rw[po.rs];exact B5 _ _ _ _ _ po.ok _
  let⟨i,f,_,g⟩:=po.ix.val (po.inn r hr).1;rw[← e0,f,f0];refine decide_eq_decide.mpr ⟨λe=>?_,λe=>?_⟩
  ·let e:(i:Int)=(i0:Int):=e;have:i=i0:=`a
   rw[this,g0] at g;exact(congrArg Prod.fst (Option.some.inj g)).symm
  ·rw[e,f0] at f;rw[f]
 ·exact .inl (Tj.mpr λr hr=>by simpa using λe=>c ⟨r,hr,e⟩)
noncomputable def oo (Ls:`F):List (Str×Row):=(Sm Ls.length).flatMap λj=>(X2 Ls j).map λr=>(r.1,d7 j `aR r)
noncomputable def Zp (Ls:`F)(i:Nat):Rx:=(Sm i).flatMap λj=>(X2 Ls j).map λr=>r.1
theorem Er:(oo Ls).map (·.2)=(XY Ls).2:=by unfold oo XY;rw[map_flatMap];simp only[Ta];rfl
theorem FP:(oo Ls).map (·.1)=Zp Ls Ls.length:=by unfold oo Zp;rw[map_flatMap];simp only[Ta];rfl
theorem xc {α:Type}{h:Nat->List α}{p:Nat}(e:∀j,j≠p->h j=[]):∀n,(Sm n).flatMap h=if p<n then h p else[]
 | 0=>`d
 | n+1=>by
   rw[TB,To,TL,xc e n];by_cases q:n=p
   ·subst q;simp
   ·rw[e n q,Sw];by_cases c:p<n
    ·rw[XG c,XG `a]
    ·rw[XF c,XF `a]
theorem NS (h:`aI)(p q:Int):G3 (λz=>z.1) ((oo Ls).filter λz=>decide ((z.2.1,z.2.2.1)=(p,q))):=by
 unfold oo;rw[List.filter_flatMap];by_cases c:0<=p/\p<Ls.length
 ·obtain⟨j,rfl⟩:∃j:Nat,p=(j:Int):=⟨p.toNat,`a⟩;let jl:j<Ls.length:=`a
  rw[xc (p:=j) λi hi=>Tj.mpr λz hz=>by
   let⟨r,_,rfl⟩:=Sv.mp hz;simp[d7];cbv,XG jl,Ui]
  have:=L0 h jl q;rw[Ul (q:=λr=>decide ((bo `aR r.2.2.1).getD 0=q)) λr _=>by simp[d7,Function.comp]];rcases this with e | ⟨r,e,w⟩ | ⟨r,s,e,w⟩<;>rw[e]
  ·exact .inl rfl
  ·exact .inr (.inl ⟨_,rfl,w⟩)
  ·exact .inr (.inr ⟨_,_,rfl,w⟩)
 ·refine .inl (List.flatMap_eq_nil_iff.mpr λj hj=>Tj.mpr λz hz=>?_);let⟨r,_,rfl⟩:=Sv.mp hz;have:=Tb.mp hj;simp[d7];cbv
theorem DA {α:Type}(d:α){P:α->Bool}:∀(n:Nat)(l:`u),n=l.length->((ups 0 n).filter λk=>P (l.getD k.toNat d)).map (λk=>l.getD k.toNat d)=l.filter P
 | 0,l,e=>by obtain rfl:=Ub.mp e.symm;rfl
 | n+1,l,e=>by
   let X3:l≠[]:=λc=>by rw[c] at e;cases e
   obtain⟨l',x,rfl⟩:∃l' x,l=l'++[x]:=⟨_,_,(S5 X3).symm⟩;let el:n=l'.length:=by simp at e;exact e
   let g:∀k∈ups 0 n,(l'++[x]).getD k.toNat d=l'.getD k.toNat d:=λk hk=>by
    let⟨i,hi⟩:=Sr.mp hk;let⟨il,rfl⟩:=eR hi;rw[R8,R8,SD `a]
   let gx:(l'++[x]).getD ((n:Int)).toNat d=x:=by rw[R8,RX,el];simp
   rw[xy,SU,So,SU,Ul (q:=λk=>P (l'.getD k.toNat d)) λk hk=>by rw[g k hk],Tu (g:=λk=>l'.getD k.toNat d) λk hk=>g k (SV.mp hk).1,DA d n l' el];congr 1;rw[T2,T2,gx];split
   ·rw[filter_nil,SK,gx];rfl
   ·rfl
theorem KZ (h:`aI){p q k:Int}{ks:Rv}(e:me (XY Ls) p q=k::ks):∃wd,bX (Zp Ls Ls.length) k∣wd/\decide (wd="yes")=decide (1<(k::ks).length):=by
 let hl:(XY Ls).2.length=(oo Ls).length:=by rw[← Er,R9]
 let ro:∀k,rowOf (XY Ls) k=((oo Ls).getD k.toNat (("":Str),n9)).2:=λk=>by
  unfold rowOf;rw[← Er,R8,R8,Sf];cases (oo Ls)[k.toNat]?<;>rfl
 let f:=DA (P:=λz=>decide ((z.2.1,z.2.2.1)=(p,q))) (("":Str),n9) _ (oo Ls) hl;let e':=e;unfold me at e;simp only[ro] at e;rw[e] at f;let g:=NS h p q;rw[← f] at g;let km:k∈me (XY Ls) p q:=by rw[e'];exact Se
 let⟨i,hi⟩:=Sr.mp (SV.mp km).1;let⟨il,ek⟩:=eR hi;let wl:(Zp Ls Ls.length).length=(oo Ls).length:=by rw[← FP,R9]
 refine⟨((oo Ls).getD k.toNat (("":Str),n9)).1,?_,?_⟩
 ·rw[gb `a `a,← FP,Sf,R8,R7 `a];rfl
 ·obtain g | ⟨r,g,w⟩ | ⟨r,s,g,w⟩:=g
  ·cases g
  ·let⟨rfl,g2⟩:=List.cons.inj g;obtain rfl:=List.map_eq_nil_iff.mp g2;exact(XM w).trans `d
  ·let⟨rfl,g2⟩:=List.cons.inj g;obtain⟨y,rfl⟩:∃y,ks=[y]:=by
    have:=congrArg List.length g2;rw[R9] at this
    match ks,this with
    | [y],_=>exact⟨y,rfl⟩
   exact(XJ w).trans `d
end
noncomputable def ZS (Ls:`F)(i:Nat):List Row:=(Sm i).flatMap λj=>(X2 Ls j).map (d7 j `aR)
theorem B1 (Ls:`F)(hi:i<=Ls.length):(ZS Ls i).length<=(XY Ls).2.length:=by
 show(ZS Ls i).length<=((Sm Ls.length).flatMap λj=>(X2 Ls j).map (d7 j `aR)).length;unfold ZS;obtain⟨d,hd⟩:∃d,Ls.length=i+d:=⟨Ls.length-i,`a⟩;rw[hd,List.range_add,To,Sd];cbv
theorem C7 (h:j<Ls.length):(Ya Ls)[j]?∣mw Ls j:=by
 unfold Ya;rw[Sf,SY h];rfl
abbrev K2:Stmt:=top yC
abbrev Qn:Rx:=["_law_mapped_here","_law_rows_here","_law_part","_law_word","_law_name_here","_law_one","_law_other","_law_calls"]
def O8:dh:=λK ps T=>∃(XN:Rx)(Ls:`F),ps=[⟨ae dv,Ya Ls⟩]/\cj XN Ls/\T=cR K gF (· =XY Ls)
theorem OH (M:`ba)(Df:Def K mg "_law_web" K2 ["_law_mapped_here"]):aE P w K mg base "_law_web" 1 (aR O8 K):=by
 let Zd:SJ [("_law_some":Str),"_law_known"]:=`c
 refine bP (N:=Qn) (k:=0) Df `n;let⟨XN,Ls,rfl,hP,rfl⟩:=hS;let hu:=ru hr;let n30:=Kj hP;let tot:=hP.tot;let l4:=hP.l4;let ml:(Ya Ls).length=Ls.length:=by unfold Ya;rw[R9,SX]
 change WS _ _ [.im (ae dv) (Ya Ls),.no,.no,.no,.no,.no,.no,.no] _ _;refine ai (cD 1 (r:=dU) (ys:=[]) `az ?_);refine bD (N1:=λZ=>∃e2 e3 e4 e5 e6 e7,Z=[.im (ae dv) (Ya Ls),.mu dU (XY Ls).2,e2,e3,e4,e5,e6,e7]) (bO (λi Z=>∃e2 e3 e4 e5 e6 e7,Z=[.im (ae dv) (Ya Ls),.mu dU (ZS Ls i),e2,e3,e4,e5,e6,e7]) (dA M.range (cX M.len `e) ⟨`a,`a⟩) (aW 2) ⟨_,_,_,_,_,_,rfl⟩ (λj jj Z hj hΓ=>?_) `X) ?_
 ·let⟨e2,e3,e4,e5,e6,e7,rfl⟩:=hΓ;let⟨jl,ej⟩:=eR hj;obtain rfl:jj=(j:Int):=`a
  let il:j<Ls.length:=`a
  let Yw:bX (Ya Ls) (j:Int)∣mw Ls j:=by
   rw[gb `a `a,RX];exact C7 il
  let nx:ZS Ls (j+1)=ZS Ls j++(X2 Ls j).map (d7 j `aR):=by
   unfold ZS;rw[TB,To,TL]
  let n30':(ZS Ls j).length+(X2 Ls j).length<=30:=by
   have:=B1 Ls (i:=j+1) il;rw[nx,Sd,R9] at this;cbv
  rw[nx];generalize ZS Ls j=ys at n30';refine aj (bO (r:=qA) (xs:=X2 Ls j) (λk Z=>∃e3 e4 e5 e6 e7,Z=[.im (ae dv) (Ya Ls),.mu dU (ys++((X2 Ls j).take k).map (d7 j `aR)),aA (j:Int),e3,e4,e5,e6,e7]) (bI (si (aK `e `r Yw))) (GW 3 4 5 6 7) ⟨_,_,_,_,_,by rw[TC,T4,Sw];rfl⟩ (λk r Z YW hΓ=>?_) `X)
  ·let⟨e3,e4,e5,e6,e7,rfl⟩:=hΓ;let kl:=(R6.mp YW).1;let⟨k1,k2⟩:=(A9 hP (vz il)).inn r (Sg YW);let nx:ys++((X2 Ls j).take (k+1)).map (d7 j `aR)=ys++((X2 Ls j).take k).map (d7 j `aR)++[d7 j `aR r]:=by
    rw[SS,YW];simp only[So,Su,Option.toList,SK,T4]
   rw[nx];let yl:(ys++((X2 Ls j).take k).map (d7 j `aR)).length<=30:=by
    rw[Sd,R9,Sx];cbv
   generalize ys++((X2 Ls j).take k).map (d7 j `aR)=us at yl;let⟨wd,nm,o1,o2,cl⟩:=r;let k1:bo `aR o1∣((bo `aR o1).getD 0):=lV (iH.mpr k1);let k2:bo `aR o2∣((bo `aR o2).getD 0):=lV (iH.mpr k2);change WS _ _ [.im (ae dv) (Ya Ls),.mu dU us,aA (j:Int),.im aq wd,.im aq nm,aA o1,aA o2,aA cl] _ _;exact aj (eQ 1 (y:=d7 j `aR (wd,nm,o1,o2,cl)) (Kh (ah `r (ah (jr hu (h8 (aK `e `r Yw)) `ai k1) (ah (jr hu (h8 (aK `e `r Yw)) `an k2) (ah (aa 7 rfl) ax))))) rfl rfl (Uz yl `c) ⟨_,_,_,_,_,rfl⟩)
  ·let⟨e3,e4,e5,e6,e7,rfl⟩:=hΓ;rw[SW];exact⟨_,_,_,_,_,_,rfl⟩
 ·let⟨e2,e3,e4,e5,e6,e7,rfl⟩:=hΓ;rw[bp,ml,RX];exact⟨_,_,_,_,_,_,rfl⟩
 rintro _ ⟨e2,e3,e4,e5,e6,e7,rfl⟩;refine WS.freeze 1 rfl (aL `a) ?_;refine aj (aX (i7 (ah (ba.im (bW (own:=["_law_some","_law_known"]) (fr:=[]) (ix:=[]) (ra:=dv) (rb:=ag) (p:=λ_=>true) (f:=λy=>(y.2.length:Int)) (bH (so:=ao K2) (N0:=Qn) rfl rfl `R `b) (bI `e)
  (λC s H ex=>eL 0 1) (λx=>⟨.inr rfl,.inr rfl,trivial⟩) `ak (λC' s' H ex o ho _=>qL M.len `g))) (ah `g ax))) ?_)
 let e:(Ya Ls).map (λy=>(y.2.length:Int))=(XY Ls).1:=by unfold Ya XY;rw[Ta];rfl
 rw[SQ.mpr λ_ _=>rfl,e]
theorem Kl (Ls:`F)(i:Nat):(Zp Ls i).length=(ZS Ls i).length:=by unfold Zp ZS;simp[List.length_flatMap]
theorem map_set {α β:Type}(g:α->β)(x:α):∀(n:Nat)(l:`u),(l.map g).set n (g x)=(l.set n x).map g
 | _,[]=>rfl
 | 0,y::l=>rfl
 | n+1,y::l=>by rw[SK,Ue,Ue,SK,map_set g x n l]
theorem zL (st:g6):∀xs∈st.map tw2,xs.length<=U9:=λxs hx=>by
 let⟨t,_,rfl⟩:=Sv.mp hx;show 2<=U9;decide
abbrev xS:Stmt:=top xK
abbrev Cg:Rx:=["_law_mapped_here","_law_answers_here","_law_bound","_law_web_here","_law_words_here","_law_rows_here","_law_known","_law_stack","_law_gone_here","_law_used","_law_here"]
theorem JY:bF Cg ["_law_mapped_here","_law_answers_here","_law_bound"] (ao xS):=Y6
def Kr:dh:=λK ps T=>∃(XN:Rx)(Ls:`F)(ans:Rv)(bound:Int),ps=[⟨ae dv,Ya Ls⟩,⟨ae ag,ans⟩,⟨ag,bound⟩]/\cj XN Ls/\(∀a∈ans,a=0∨a=1)/\0<=bound/\bound<=2000/\T=cR K av (· =sy (fZ (XY Ls) ans bound.toNat Zs))
theorem MZ (M:`ba)(CB:aE P w K mg base "_law_web" 1 (aR O8 K))(F:dO K "_law_gone" "_law_gone" xS f fd)(hm:mg "_law_gone"∣.ref f)(hb:Binds K fd ["_law_mapped_here","_law_answers_here","_law_bound"] []):aE P w K mg base "_law_gone" 2 (aR Kr K):=by
 let nd:=JY.nd;let Zd:SJ [("_law_row":Str)]:=`c
 let ZZ:SJ [("_law_k":Str),"_law_stack","_law_web_here"]:=`c
 let ndc3:SJ [("_law_part":Str),"_law_place"]:=`c
 refine gU (k:=1) F JY hm hb (λqs T ⟨_,_,_,_,e,_⟩=>by rw[e];rfl) `ab;let⟨XN,Ls,ans,bound,rfl,hP,hab,b0,b1,rfl⟩:=hS;let hu:=ru hr;let ha:=z5 hab;let hv:mq (XY Ls):=by rw[← z4 hP];exact GI hP (qH hP).2
 let yes:=λ{p q k ks}=>KZ hP (p:=p) (q:=q) (k:=k) (ks:=ks);let wl:(Zp Ls Ls.length).length=(XY Ls).2.length:=by rw[← FP,← Er,R9,R9]
 let rl30:=hv.rl;let ml:(Ya Ls).length=Ls.length:=by unfold Ya;rw[R9,SX]
 change WS _ _ [.im (ae dv) (Ya Ls),c8 ans,aA bound,.no,.no,.no,.no,.no,.no,.no,.no] _ _;refine ai (bc 3 (r:=gF) (y:=XY Ls) (aJ CB hr `bd ⟨XN,Ls,rfl,hP,rfl⟩) ?_);refine ai (bc 4 (r:=ae aq) (y:=[]) (ba.im `az) ?_);refine bD (N1:=λZ=>∃e5 e6,Z=[.im (ae dv) (Ya Ls),c8 ans,aA bound,.im gF (XY Ls),.im (ae aq) (Zp Ls Ls.length),e5,e6,.no,.no,.no,.no]) (bO (r:=dv) (xs:=Ya Ls) (λi Z=>∃e5 e6,Z=[.im (ae dv) (Ya Ls),c8 ans,aA bound,.im gF (XY Ls),.im (ae aq) (Zp Ls i),e5,e6,.no,.no,.no,.no]) (bI `e) (eL 5 6) ⟨_,_,rfl⟩ (λj y Z hj hΓ=>?_) `X) ?_
 ·let⟨e5,e6,rfl⟩:=hΓ;let jl:j<Ls.length:=by rw[← ml];exact(R6.mp hj).1
  rw[C7 jl] at hj;cases hj
  let nx:Zp Ls (j+1)=Zp Ls j++(X2 Ls j).map λr=>r.1:=by
   unfold Zp;rw[TB,To,TL]
  let sm:(Zp Ls j).length+(X2 Ls j).length<=30:=by
   have:=B1 Ls (i:=j+1) jl;rw[← Kl] at this;rw[nx,Sd,R9] at this;cbv
  rw[nx];change WS _ _ [.im (ae dv) (Ya Ls),c8 ans,aA bound,.im gF (XY Ls),.im (ae aq) (Zp Ls j),.im (ae qA) (X2 Ls j),.im jw `aR,.no,.no,.no,.no] _ _;generalize Zp Ls j=ws at sm;generalize X2 Ls j=rs at sm;refine aj (bc 4 (ba.im (cJ `T (ba.im (bW (own:=["_law_row"]) (fr:=[]) (ix:=[]) (ra:=qA) (rb:=aq) (p:=λ_=>true) (f:=λr=>r.1) (bH (so:=ao xS) (N0:=Cg) rfl rfl `R `b) (bI `ai)
   `G `W `ak (λC' s' H ex o ho _=>EV.sP (dz (xs:=[.str o.1,.str o.2.1,.int o.2.2.1,.int o.2.2.2.1,.int o.2.2.2.2]) (EV.re (r:=qA) (x:=o) `e λ_ _ _ h=>h) ev_int rfl)))) (aL (by rw[SQ.mpr λ_ _=>rfl,R9];cbv)))) ⟨_,_,by rw[SQ.mpr λ_ _=>rfl];rfl⟩)
 ·let⟨e5,e6,rfl⟩:=hΓ;rw[ml];exact⟨_,_,rfl⟩
 rintro _ ⟨e5,e6,rfl⟩;generalize Zp Ls Ls.length=wds at yes wl;generalize XY Ls=v at hv yes wl rl30;refine ai (E6 7 (r:=ag) (ys:=[0,0]) (aP (ak ev_int (ak ev_int aM)) (by show 2<=U9;decide)) λa b=>?_);refine ai (cD 8 (r:=ag) (ys:=[]) `az ?_);refine ai (bc 9 (y:=((0:Nat):Int)) ev_int ?_);generalize hR:fZ v ans bound.toNat Zs=R;refine aj (jA (λm Z=>∃(rows:Rv)(u:Nat)(sl:g6)(bs:Rz)(YS:Ent),Z=[.im (ae dv) (Ya Ls),c8 ans,aA bound,.im gF v,.im (ae aq) wds,e5,e6,.ob (fN ag a bs (sl.map tw2)),.mu ag rows,aA (u:Int),YS]/\fZ v ans m (rows,u,trim sl)=R/\(rows.length:Int)+(m:Int)=bound/\pf v (trim sl)/\sl.length<=rows.length+1/\u<=ans.length) (m0:=bound.toNat) ⟨[],0,[(0,0)],[b],.no,rfl,hR,by rw[SH];cbv,va hv,Uw _,Uy _⟩ ?_);rintro m Z ⟨rows,u,sl,bs,YS,rfl,hw,hm,hs,hl,Z1⟩;refine⟨true,_,bV jK,λ_=>?_,λh=>by cases h⟩;let rl:rows.length<=2000:=`a
 refine bD (N1:=λZ=>∃bs,Z=[.im (ae dv) (Ya Ls),c8 ans,aA bound,.im gF v,.im (ae aq) wds,e5,e6,.ob (fN ag a bs ((trim sl).map tw2)),.mu ag rows,aA (u:Int),YS]) (jA (λn Z=>∃(s3:g6)(bs:Rz),Z=[.im (ae dv) (Ya Ls),c8 ans,aA bound,.im gF v,.im (ae aq) wds,e5,e6,.ob (fN ag a bs (s3.map tw2)),.mu ag rows,aA (u:Int),YS]/\n=s3.length/\trim s3=trim sl/\s3.length<=sl.length) (m0:=sl.length) ⟨sl,bs,rfl,rfl,rfl,Uw _⟩ ?_) ?_
 ·rintro n Z ⟨s3,bs,rfl,rfl,ht,l3⟩;let zl:(s3.map tw2).length<=U9:=aL (by rw[R9];cbv);let z2:=zL s3;by_cases X3:s3=[]
  ·subst X3;exact⟨_,_,TV.YI (nK (i:=7) rfl zl z2) (TW.tv (cZ (y:=false) (ay iL (cX M.len (aa 7 rfl)) ev_int) `aE)),λh=>XE h `c,λ_=>⟨bs,by rw[← ht];rfl⟩⟩
  ·obtain⟨s4,t,rfl⟩:∃s4 t,s3=s4++[t]:=⟨_,_,(kD X3).symm⟩;let g:(s4++[t]).getLast X3=t:=List.getLast_concat;let a1:bX ((s4++[t]).map tw2) (-1)∣tw2 t:=lF `d;refine⟨_,_,TV.YI (nK (i:=7) rfl zl z2) (TW.tv (cZ (ay iL (cX M.len (aa 7 rfl)) ev_int) (λ_=>eK (ay gi (aK (y:=t.2) (aK (aa 7 rfl) `af a1) ev_int rfl) ev_int)))),λh=>?_,λh=>?_⟩
   ·rw[RJ] at h;let h1:t.2=1:=XH h.2;have:=qJ X3 (by rw[g];exact h1);rw[List.dropLast_concat] at this;rw[Sd] at l3;refine aj (IF 7 (a:=a) (xss:=s4.map tw2) (ys:=tw2 t) (by rw[So];rfl) λbs=>⟨s4.length,by rw[Sd];exact UG _,s4,bs,rfl,rfl,by rw[← this];exact ht,`a⟩)
   ·let h1:t.2≠1:=λe=>by
     rw[e] at h;simp at h
    have:=oT X3 (by rw[g];exact h1);exact⟨bs,by rw[← ht,this]⟩
 rintro _ ⟨bs,rfl⟩;let tl:(trim sl).length<=rows.length+1:=by
  let⟨s',e,_⟩:=rA _ sl rfl;have:=congrArg List.length e;rw[Sd] at this;cbv
 generalize trim sl=st at hw hs tl;let z2:=zL st;let zl:(st.map tw2).length<=U9:=aL (by rw[R9];cbv);refine ai (a9 (TV.YI (nK (i:=7) rfl zl z2) (ay gi (cX M.len (aa 7 rfl)) ev_int)) (λh=>?_) `J)
 ·let hz:st=[]:=by
   have:=XH h;rw[R9] at this;exact Ub.mp `a
  subst hz;rw[xt rfl] at hw;refine WS.freeze 8 rfl (aL `a) ?_;refine aj (aX (fP (ak (EV.zZ (aa 8 rfl)) (ak (EV.pS aB) (ak (EV.zN (xs:=[]) (ba.im `az)) aM))) (by show 3<=U9;decide)) ?_);rw[← hw];rfl
 let X3:st≠[]:=λe=>by rw[e] at h;exact XE h `c
 let lz:=qO X3;rw[← qG X3] at lz;let a1:bX (st.map tw2) (-1)∣(tw2 (dW st)):=lF (by rw[R9,Sf,lz];rfl);refine ai (IS 10 (nK (i:=7) rfl zl z2) (own:=["_law_k"]) (fr:=["_law_stack","_law_web_here"]) (ix:=[7,3]) (ra:=ag) (rb:=ag) (p:=λk=>decide (((rowOf v k).1,(rowOf v k).2.1)=((dW st).1,(dW st).2))) (f:=id) (λ_ _ _ _ _ h=>h) (bH (so:=ao xS) (N0:=Cg) rfl rfl `R `b) (dA M.range (cX M.len `T) ⟨`a,`a⟩)
  `G (λx=>⟨.inr rfl,.inl rfl,.inl rfl,trivial⟩) (λC' s H ex k hk=>by
   let⟨i,hi⟩:=Sr.mp hk;let⟨il,rfl⟩:=eR hi;exact ic (ay (NF eq_int eq_int hu hu) (Ez (aK (h8 `r) `e (a7 n9 `a `a))) (i7 (ah (aK (aK `g `af a1) ev_int rfl) (ah (aK (aK `g `af a1) ev_int rfl) ax))))) (λC' s' H ex o ho _=>aa 0 rfl) ?_)
 let ef:((ups 0 ((wds.length:Int)).toNat).filter λk=>decide (((rowOf v k).1,(rowOf v k).2.1)=((dW st).1,(dW st).2))).map id=dF v st:=by rw[map_id,RX,wl];rfl
 rw[ef];let fne:=xU hv hs X3;let fl:(dF v st).length<=30:=by
  refine Ux (Tv _ _) ?_;rw[bp];exact rl30
 refine WS.freeze 10 rfl (aL `a) ?_;let⟨k0,ks,ek⟩:=List.exists_cons_of_ne_nil fne;let⟨wd,hwd,hy⟩:=yes ek;rw[← ek] at hy;let hk0:bX (dF v st) 0∣k0:=by rw[ek,gb (RY _) `d];rfl
 refine ai (a9 (ay gi (tU 8 M.len rfl) `r) (λh=>?_) `J)
 ·let h:(rows.length:Int)=bound:=XH h;let m0:m=0:=`a
  subst m0;rw[Ap X3] at hw;refine WS.freeze 8 rfl (aL `a) (WS.nK 7 rfl zl z2 ?_);refine aj (aX (fP (ak (EV.zZ (aa 8 rfl)) (ak (EV.pS aB) (ak (EV.zN (ba.im (bW (own:=["_law_part","_law_place"]) (fr:=[]) (ix:=[]) (ra:=wa ag) (rb:=cQ ag ag) (p:=λ_=>true) (f:=id) (bH (so:=ao xS) (N0:=Cg) rfl rfl `R `b) (bI (EV.two (aa 7 rfl))) (λC s H ex=>zq 0 1) (λx=>⟨.inr rfl,.inr rfl,trivial⟩) `ak (λC' s' H ex o ho _=>i7 (ah `e (ah `g ax)))))) aM))) (by show 3<=U9;decide)) ?_);rw[SQ.mpr λ_ _=>rfl,map_id,← hw];rfl
 let h:¬(rows.length:Int)=bound:=XI h;obtain⟨m',rfl⟩:∃m',m=m'+1:=⟨m-1,`a⟩;refine bD (N1:=λZ=>∃(c:Int)(u':Nat)(hs':Rv),Z=[.im (ae dv) (Ya Ls),c8 ans,aA bound,.im gF v,.im (ae aq) wds,e5,e6,.ob (fN ag a bs (st.map tw2)),.mu ag rows,aA (u':Int),c8 hs']/\bX hs' 0∣c/\lr v ans u st∣(c,u')/\u'<=ans.length)
  (a9 (ay cu (aK `T (aK (aa 10 rfl) ev_int hk0) hwd) aB) (λh=>?_) `J) ?_
 ·rw[hy] at h;let h:1<(dF v st).length:=XH h;refine ai (a9 (ay gi (aa 9 rfl) (cX M.len `g)) (λq=>?_) (λq=>aG ?_))
  ·let q:(u:Int)=(ans.length:Int):=XH q;let hn:mi v ans (rows,u,st)=none:=by
    unfold mi lr;rw[XG h,SE (show ans.length<=u by cbv)];rfl
   rw[uy X3 hn] at hw;refine WS.freeze 8 rfl (aL `a) (WS.nK 7 rfl zl z2 ?_);refine aj (aX (fP (ak (EV.zZ (aa 8 rfl)) (ak (EV.pS aB) (ak (EV.zN (ba.im (bW (own:=["_law_part","_law_place"]) (fr:=[]) (ix:=[]) (ra:=wa ag) (rb:=cQ ag ag) (p:=λ_=>true) (f:=id) (bH (so:=ao xS) (N0:=Cg) rfl rfl `R `b) (bI (EV.two (aa 7 rfl))) (λC s H ex=>zq 0 1) (λx=>⟨.inr rfl,.inr rfl,trivial⟩) `ak (λC' s' H ex o ho _=>i7 (ah `e (ah `g ax)))))) aM))) (by show 3<=U9;decide)) ?_);rw[SQ.mpr λ_ _=>rfl,map_id,← hw];rfl
  ·let q:¬(u:Int)=(ans.length:Int):=XI q;let ul:u<ans.length:=`a
   let hau:ans[u]?=some ans[u]:=R7 ul;let hab:=ym ha hau;generalize ans[u]=b at hau hab;let Yw:bX ans (u:Int)∣b:=by rw[a7 (xs:=ans) 0 `a `a,R8,show((u:Nat):Int).toNat=u by cbv,hau];rfl
   refine ai (bc 10 (r:=ae ag) (y:=cut (dF v st) (some (1-b)) none) (ba.im (jR (aa 10 rfl) (ov_some (gy ev_int (aK `g (aa 9 rfl) Yw))) ov_none)) ?_);refine aj (bc 9 (y:=((u+1:Nat):Int)) (EV.cast (bR (aa 9 rfl) ev_int) (by push_cast;rfl)) ⟨(dF v st).getD (1-b).toNat 0,u+1,_,rfl,?_,?_,ul⟩)
   ·obtain⟨i,hi⟩:∃i:Nat,1-b=(i:Int):=⟨(1-b).toNat,`a⟩;rw[hi,oN,RX,gb (RY _) (by rw[TJ];cbv),Ug,R8];show(dF v st)[i+0]?=_;rw[UL,R7 `a];rfl
   ·unfold lr;rw[XG h,hau];rfl
 ·rw[hy] at h;let h:¬1<(dF v st).length:=XI h;refine⟨k0,u,_,rfl,hk0,?_,Z1⟩;unfold lr;rw[XF h,ek];rfl
 rintro _ ⟨c,u',hs',rfl,hh,hc,hu''⟩;let cm:=zK hv ha hs X3 hc;let⟨c0,c1,c2⟩:=y4 cm;let ct:((rowOf v c).1,(rowOf v c).2.1)=((dW st).1,(dW st).2):=XH (SV.mp cm).2;let ct:=congrArg Prod.fst ct;let hn:mi v ans (rows,u,st)∣(rows++[c],u',jx st (rowOf v c)):=by unfold mi;rw[hc];rfl
 rw[uK X3 hn] at hw;let gk:=Gn hv hs X3 c2;let Zi:bX v.2 c∣rowOf v c:=a7 n9 c0 c1;let r4:=(hv.rw _ c2).2.2.2;let hpos:=TY.mpr X3;generalize rowOf v c=r at ct hw gk Zi r4;refine ai (eQ 8 (y:=c) (aK (aa 10 rfl) ev_int hh) rfl rfl (Uz rl `c) ?_);refine ai (HE 7 (a:=a) (as:=bs) (xss:=st.map tw2) (j:=st.length-1) (n:=1) (xs:=tw2 (dW st)) (zC (aK (h8 `p) (aK (aa 10 rfl) ev_int hh) Zi)) `af ev_int rfl (by rw[R9];unfold fL;rw[XF `a,XG `a];congr 1;cbv) (by rw[Sf,lz];rfl) rfl ?_);let e1:(st.map tw2).set (st.length-1) ((tw2 (dW st)).set 1 r.2.2.1)=(st.set (st.length-1) (r.1,r.2.2.1)).map tw2:=by
  rw[← map_set];show _=(st.map tw2).set _ [r.1,r.2.2.1];rw[show r.1=(dW st).1 from ct];rfl
 change WS _ _ [.im (ae dv) (Ya Ls),c8 ans,aA bound,.im gF v,.im (ae aq) wds,e5,e6,.ob (fN ag a bs ((st.map tw2).set (st.length-1) ((tw2 (dW st)).set 1 r.2.2.1))),.mu ag (rows++[c]),aA (u':Int),c8 hs'] _ _;rw[e1];unfold jx at hw gk;let ln:(st.set (st.length-1) (r.1,r.2.2.1)).length=st.length:=SR;let rn:((rows++[c]).length:Int)=rows.length+1:=by rw[Sd];rfl
 refine aj (a9 (ay Mw (pD (aK (h8 `p) (aK (aa 10 rfl) ev_int hh) Zi)) ev_int) (λh=>?_) `J)
 ·let h:0<=r.2.2.2:=XH h;rw[XF `a] at hw gk;refine aj (Bj 7 (r:=ag) (ys:=tw2 (r.2.2.2,0)) (aP (ak (pD (aK (h8 `p) (aK (aa 10 rfl) ev_int hh) Zi)) (ak ev_int aM)) (by show 2<=U9;decide)) rfl rfl (Uz (show _<=2001 by rw[R9,ln];cbv) `c) λb=>⟨m',`a,rows++[c],u',st.set (st.length-1) (r.1,r.2.2.1)++[(r.2.2.2,0)],bs++[b],_,by rw[So];rfl,hw,`a,gk.1,?_,hu''⟩);rw[Sd,ln];show st.length+1<=_;cbv
 ·let h:¬0<=r.2.2.2:=XI h;rw[XG `a] at hw gk;exact⟨m',`a,rows++[c],u',st.set (st.length-1) (r.1,r.2.2.1),bs,_,rfl,hw,`a,gk.1,`a,hu''⟩
theorem yp {v:gX}{ans:Rv}{n:Int}{m:Nat}(h:n<=m):(fZ v ans n.toNat Zs).1.length<=m:=by
 let⟨ex,h1,h2⟩:=wJ (v:=v) (ans:=ans) n.toNat Zs;rw[h1,Sd];show 0+ex.length<=m;cbv
theorem Kq (x:Wk):oi (sy x)=true:=by
 let h1:kf (x.1.map PV.int)=true:=t9 λx hx=>by let⟨y,_,rfl⟩:=Sv.mp hx;simp[oi]
 let h2:kf (x.2.2.map rE)=true:=t9 λx hx=>by let⟨y,_,rfl⟩:=Sv.mp hx;simp[rE,oi,kf]
 simp[sy,oi,kf,h1,h2]
theorem qT {n:Nat}:∀{xs:`aQ},(∀x∈xs,x.deep<=n)->PV.ir xs<=n
 | [],_=>by rw[PV.ir];exact Uy _
 | x::xs,h=>by
   rw[PV.ir];let h1:=h x Se;let h2:=qT (xs:=xs) λy hy=>h y (Sb _ hy);cbv
theorem Hx (x:Wk):(sy x).deep<=3:=by
 let h1:PV.ir (x.1.map PV.int)<=0:=qT λx hx=>by let⟨y,_,rfl⟩:=Sv.mp hx;simp[PV.deep]
 let h2:PV.ir (x.2.2.map rE)<=1:=qT λx hx=>by let⟨y,_,rfl⟩:=Sv.mp hx;simp[rE,PV.deep,PV.ir]
 simp only[sy,PV.deep,PV.ir];cbv
mutual
theorem QA:∀(t:Th)(k:Int),ig t (.lst (bu t k).1)
 | .Yh x,k=>by rw[bu,ig];exact⟨_,rfl⟩
 | .call x,k=>by rw[bu,ig];exact⟨_,rfl⟩
 | .ifs x A B,k=>by rw[bu,ig];exact⟨_,_,_,rfl,xI A _,xI B _⟩
 | .X1 x A,k=>by rw[bu,ig];exact⟨_,_,rfl,xI A _⟩
 | .leave,k=>by rw[bu,ig];exact⟨_,rfl⟩
 | .back,k=>by rw[bu,ig];exact⟨_,rfl⟩
theorem xI:∀(ts:`U)(k:Int),lW ts (fq ts k)
 | [],k=>by rw[lW,fq,aT];rfl
 | t::ts,k=>by rw[lW,fq,aT];exact⟨_,_,rfl,QA t k,xI ts _⟩
end
theorem Nl (Ls:`F):(ZF Ls).length=Ls.length/\∀(i:Nat)(L:`U),Ls[i]?∣L->∃x,(ZF Ls)[i]?∣x/\lW L x:=by
 refine⟨by unfold ZF;rw[R9,SX],λi L h=>⟨_,?_,xI L (Ye Ls i:Int)⟩⟩;unfold ZF;rw[Sf,SY (R6.mp h).1];show some (fq (Ls.getD i []) _)=_;rw[R8,h];rfl
abbrev sI:Stmt:=top LJ
abbrev nLA:Rx:=["_law_script","_law_names","_law_lists","_law_mapped_here","_law_answers_here","_law_text_here","_law_most","_law_bounds","_law_k","_law_bound"]
theorem JD:bF nLA ["_law_script"] (ao sI):=Y6
def wC:dh:=λK ps T=>∃ns:Rv,ps=[⟨cT,ns⟩]/\ns.length<=63/\(∀n∈ns,intBits n<=2 ^ 20)/\T=cR K dc (· =true)
theorem M8 (M:`ba)(M4:jN mg)(CM:aE P w K mg base "_law_mixed" 1 (aR Hd K))(CD:aE P w K mg base "_law_drawn" 17 (aR PM K))(CT:aE P w K mg base "_law_text" 7 (aR PD K))(CP:aE P w K mg base "_law_mapped" 7 (Az K))(CG:aE P w K mg base "_law_gone" 2 (aR Kr K))(CA:aE P w K mg base "_law_answers" 2 (aR Qs K))(CW:aE P w K mg base "walked" 8 (aR Ki K))(CE:aE P w K mg base "_law_same" 4 (aR (Hk 3) K))(F:dO K "law" "law" sI f fd):eZ P w K mg base eI 18 f fd ["_law_script"] (aR wC K):=by
 let nd:=JD.nd;let CM:=CM.mono (show 1<=17 by decide);let CT:=CT.mono (show 7<=17 by decide);let CP:=CP.mono (show 7<=17 by decide);let CG:=CG.mono (show 2<=17 by decide);let CA:=CA.mono (show 2<=17 by decide);let CW:=CW.mono (show 8<=17 by decide);let CE:=CE.mono (show 4<=17 by decide);refine JV (k:=17) F JD (λqs T ⟨_,e,_⟩=>by rw[e];rfl) `ab;let⟨ns,rfl,h63,Zm,rfl⟩:=hS;let hs:zS ns:=⟨h63,Zm⟩;change WS _ _ [.im cT ns,.no,.no,.no,.no,.no,.no,.no,.no,.no] _ _;refine ai (Jx 1 2 (r:=ae aq) (P:=λy L=>y=YF ns 0/\L=(YO ns 0).map bN) CD hr (ah `e (ah ev_int ax)) ⟨ns,0,rfl,hs,`c,`c,rfl⟩ `c (λa y ps hy=>?_));let⟨rfl,YL⟩:=hy;let hP:=Ir ns 0;generalize YF ns 0=XN at hP;generalize YO ns 0=Ls at hP YL;refine ai (bc 3 (r:=ae dv) (y:=Ya Ls) (N6 2 CP hr rfl YL hP) ?_);let ab:=EO ns 300;let al:=xD ns 300;refine ai (cD 4 (r:=ag) (ys:=Zo ns 300) (v9 CA hr (ah `e (ah ev_int ax)) ⟨ns,300,rfl,hs,`c,`c,rfl⟩) ?_);refine WS.freeze 4 rfl (aL `a) ?_;generalize Zo ns 300=ans at ab al;let⟨nl,nr⟩:=Nl Ls;let⟨hk,hG⟩:=qH hP;let key:∀b:Int,0<=b->b<=1000->Ki K [⟨aq,W7 " " (kq XN Ls)⟩,⟨ae ag,ans⟩,⟨ag,b⟩] (cR K av (· =sy (fZ (XY Ls) ans b.toNat Zs))):=λb b0 b1=>
  ⟨_,_,_,_,_,rfl,HN hP,hk,hG,GC hP,GI hP hG,z5 ab,b0,yp `a,by rw[← z4 hP]⟩
 let go:∀b:Int,0<=b->b<=1000->Kr K [⟨ae dv,Ya Ls⟩,⟨ae ag,ans⟩,⟨ag,b⟩] (cR K av (· =sy (fZ (XY Ls) ans b.toNat Zs))):=λb b0 b1=>⟨XN,Ls,ans,b,rfl,hP,ab,b0,`a,rfl⟩;change WS _ _ [.im cT ns,.im (ae aq) XN,.im (ae (ae av)) (ZF Ls),.im (ae dv) (Ya Ls),c8 ans,.no,.no,.no,.no,.no] _ _;refine ai (bc 5 (y:=W7 " " (kq XN Ls)) (aJ CT hr (ah `g (ah `r ax)) ⟨XN,Ls,ZF Ls,rfl,hP,nl,nr,rfl⟩) ?_);generalize W7 " " (kq XN Ls)=tx at key;refine ai (bc 6 (y:=((fZ (XY Ls) ans (200:Int).toNat Zs).1.length:Int)) (cX M.len (EV.liP (xs:=(fZ (XY Ls) ans (200:Int).toNat Zs).1) (dz (aJ CG hr (ah `p (ah `T (ah ev_int ax))) (go 200 `c `c)) ev_int rfl))) ?_);let ms:(fZ (XY Ls) ans (200:Int).toNat Zs).1.length<=200:=yp `c;generalize (fZ (XY Ls) ans (200:Int).toNat Zs).1.length=mo at ms;generalize XY Ls=v at key go;generalize Ya Ls=mp at go;generalize ZF Ls=nu;refine ai (cD 7 (r:=ag) (ys:=[0,(mo:Int),if(mo:Int)-1>0 then(mo:Int)-1 else 0,(mo:Int)+1]) (aP (ak ev_int (ak `an (ak (Iy M4.max (ah ev_int (ah (gy `an ev_int) ax))) (ak (bR `an ev_int) aM)))) (by show 4<=U9;decide)) ?_);change WS _ _ [.im cT ns,.im (ae aq) XN,.im (ae (ae av)) nu,.im (ae dv) mp,c8 ans,.im aq tx,aA (mo:Int),.mu ag [0,(mo:Int),if(mo:Int)-1>0 then(mo:Int)-1 else 0,(mo:Int)+1],.no,.no] _ _;refine bD (N1:=λZ=>∃bs e8,Z=[.im cT ns,.im (ae aq) XN,.im (ae (ae av)) nu,.im (ae dv) mp,c8 ans,.im aq tx,aA (mo:Int),.mu ag bs,e8,.no]/\bs.length<=64/\∀b∈bs,0<=b/\b<=1000) (bO (λi Z=>∃bs e8,Z=[.im cT ns,.im (ae aq) XN,.im (ae (ae av)) nu,.im (ae dv) mp,c8 ans,.im aq tx,aA (mo:Int),.mu ag bs,e8,.no]/\bs.length<=4+i/\∀b∈bs,0<=b/\b<=1000) (dA M.range (yP M.min (ah ev_int (ah (pT M.len `e) ax))) ⟨`a,`a⟩) (aW 8) ⟨_,_,rfl,Uw _,λb hb=>?_⟩ (λi j Z hj hΓ=>?_) `X) ?_
 ·simp only[Sj,S4,or_false] at hb;rcases hb with rfl | rfl | rfl | rfl<;>cbv
 ·let⟨bs,e8,rfl,bl,bb⟩:=hΓ;let⟨jl,ej⟩:=eR hj;let jl:i<60:=`a
  obtain rfl:j=(i:Int):=`a
  refine aj (eQ 7 (y:=aQ ns (350+(i:Int))%80) (c6 (aJ CM hr (ah `e (ah (bR ev_int (aa 8 rfl)) ax)) ⟨ns,_,rfl,hs,`a,`a,rfl⟩) ev_int `c) rfl rfl (Uz (show bs.length<=64 by cbv) `c) ⟨_,_,rfl,by rw[Sd];show _+1<=_;cbv,λb hb=>?_⟩);obtain hb | hb:=Sl.mp hb
  ·exact bb b hb
  ·rw[Sa.mp hb];cbv
 ·let⟨bs,e8,rfl,bl,bb⟩:=hΓ;rw[bp] at bl;exact⟨bs,e8,rfl,`a,bb⟩
 rintro _ ⟨bs,e8,rfl,bl,bb⟩;refine WS.freeze 7 rfl (aL `a) ?_;refine bD (N1:=λZ=>∃e9,Z=[.im cT ns,.im (ae aq) XN,.im (ae (ae av)) nu,.im (ae dv) mp,c8 ans,.im aq tx,aA (mo:Int),c8 bs,e8,e9]) (bO (λi Z=>∃e9,Z=[.im cT ns,.im (ae aq) XN,.im (ae (ae av)) nu,.im (ae dv) mp,c8 ans,.im aq tx,aA (mo:Int),c8 bs,e8,e9]) (bI (aa 7 rfl)) (aW 9) ⟨_,rfl⟩ (λi b Z hj hΓ=>?_) (λZ hΓ=>hΓ)) ?_
 ·let⟨e9,rfl⟩:=hΓ;let⟨b0,b1⟩:=bb b (Sg hj);exact aj (a9 (gz (bV (aJ CE hr (ah (aJ CW hr (ah `ai (ah (ba.im (Ef M.list `T)) (ah (aa 9 rfl) ax))) (key b b0 b1)) (ah (aJ CG hr (ah `p (ah `T (ah (aa 9 rfl) ax))) (go b b0 b1)) ax)) ⟨_,rfl,Hx _,Kq _,rfl⟩))) `aE (λ_=>aG ⟨_,rfl⟩))
 rintro _ ⟨e9,rfl⟩;exact aj (aX jK rfl)
variable {x:Str}{C:Addr}{l:Xz}
section
variable {h:Heap}{P:RC->Prop}{oc:`aK}{od an:Option Addr}{Zu:Array Ry}{doc pm XU ct:`aK}{t1 t2:Tok}
def AG (K:Xh)(mg:Rt):Prop:=∃C fi ZA,bM K C jg/\Mk K C fi/\mg "Step"∣.ref C/\dO K "__init__" "Step.__init__" uZ fi ZA/\Binds K ZA xZ []
def Ay (K:Xh)(mg:Rt):Prop:=∃C fi ZA,bM K C gH/\Mk K C fi/\mg "Spots"∣.ref C/\dO K "__init__" "Spots.__init__" u9 fi ZA/\Binds K ZA wm []
structure Top (P:Ve)(w:World)(K:Xh)(mg:Rt):Prop where
 M:cf K mg
 M2:lX K mg
 M3:kK mg
 M6:r8 mg
 M4:jN mg
 RW:nH P w K mg "ROW_WORDS" dI
 SC:AG K mg
 PC:Ay K mg
 MX:Def K mg "_law_mixed" G0 ["_law_script","_law_k"]
 PL:Def K mg "_law_pull" Qk ["_law_pen"]
 NM:Def K mg "_law_name" Qc ["_law_number"]
 PA:Def K mg "_law_passes" Lw ["_law_items"]
 TH:Def K mg "_law_thing" Gu ["_law_pen","_law_depth","_law_loops","_law_calls"]
 LS:Def K mg "_law_list" sk ["_law_pen","_law_depth","_law_loops","_law_calls"]
 DR:Def K mg "_law_drawn" PR ["_law_script","_law_start"]
 WD:Def K mg "_law_words" Mj ["_law_items","_law_names"]
 TX:Def K mg "_law_text" P6 ["_law_names","_law_lists"]
 IN:Def K mg "is_name" Ka ["word"]
 NB:Def K mg "name_behind" Qh ["words","word"]
 MS:Def K mg "may_stand" Pc ["kind","opened"]
 RD:Def K mg "read" MJ ["text"]
 CS:Def K mg "closing_steps" Qu ["steps"]
 AR:Def K mg "around" Qj ["steps","number","kind"]
 LF:Def K mg "leads_from" O3 ["steps","closing","number"]
 LI:Def K mg "leads_in" LQ ["steps"]
 PI:Def K mg "parts_in" Lo ["steps"]
 ST:Def K mg "stands_in" Pl ["steps","leads"]
 RI:Def K mg "rows_in" P8 ["steps","leads","stands"]
 NW:Def K mg "name_words" JQ ["spots","parts"]
 NA:Def K mg "named_again" G1 ["spots"]
 CA:Def K mg "called_astray" Pw ["spots"]
 CT:Def K mg "come_to" Gh ["spots"]
 NC:Def K mg "not_come_to" Dg ["spots"]
 NL:Def K mg "not_called" GN ["spots"]
 EB:Def K mg "ended_at_begin" KP ["spots"]
 RB:Def K mg "rows_beyond" Lx ["spots"]
 PL2:Def K mg "places_in" J0 ["spots","part"]
 PY:Def K mg "places_beyond" Cj ["spots"]
 PB:Def K mg "parts_beyond" Qw ["spots"]
 HI:Def K mg "hindrances" Ql ["spots"]
 NP:Def K mg "need_program" O4 ["text"]
 NU:Def K mg "_law_numbered" sC ["_law_items","_law_keys"]
 EN:Def K mg "_law_entry" Px ["_law_items","_law_j","_law_behind","_law_loop"]
 RO:Def K mg "_law_rows" rS ["_law_items","_law_behind","_law_loop","_law_rows_here"]
 MP:Def K mg "_law_mapped" Dq ["_law_lists"]
 SM:Def K mg "_law_same" GY ["_law_told","_law_due"]
 WB:Def K mg "_law_web" K2 ["_law_mapped_here"]
 GG:Def K mg "_law_gone" xS ["_law_mapped_here","_law_answers_here","_law_bound"]
 RV:Def K mg "rows_leaving" Ma ["web","part"]
 IW:Def K mg "is_whole" O5 ["value"]
 AW:Def K mg "are_whole" Dc ["values"]
 NQ:Def K mg "need_answers" Gi ["answers","bound"]
 AB:Def K mg "at_begin" P4 ["part"]
 GO:Def K mg "go" Hn ["stack","row"]
 PA2:Def K mg "part_at" Eb ["spots","number"]
 WO:Def K mg "web_of" z3 ["text"]
 WJ:Def K mg "walked" GA ["text","answers","bound"]
 AN:Def K mg "_law_answers" OZ ["_law_script","_law_k"]
theorem MB {P:Ve}(T:Top P w K mg)(F:dO K "law" "law" sI f fd):eZ P w K mg base eI 18 f fd ["_law_script"] (aR wC K):=by
 let M:=T.M;let M2:=T.M2;let M3:=T.M3;let M6:=T.M6;let M4:=T.M4;let⟨C,fi,ZA,HC,MK,hMg,FI,bi⟩:=T.SC;let⟨D,fj,fdj,HD,MD,hMd,FJ,bj⟩:=T.PC;let GS:Bs P w K mg base C:=⟨HC,⟨fi,ZA,MK,Ot HC FI,bi⟩,hMg⟩;let MX:=NZ (P:=P) (w:=w) (base:=base) M T.MX;let PL:=M9 (P:=P) (w:=w) (base:=base) MX T.PL;let NM:=M7 (P:=P) (w:=w) (base:=base) M T.NM;let⟨_,_,F1,m1,b1⟩:=T.PA;let PA:=OT (P:=P) (w:=w) (base:=base) F1 m1 b1 5;let⟨_,_,FTH,mTH,bTH⟩:=T.TH;let⟨_,_,F1,m1,b1⟩:=T.LS;let LS:=GL (P:=P) (w:=w) (base:=base) M PL NM PA F1 m1 b1 FTH mTH bTH 4;let DR:=OS (P:=P) (w:=w) (base:=base) M PL NM LS T.DR;let⟨_,_,F1,m1,b1⟩:=T.WD;let WD:=OO (P:=P) (w:=w) (base:=base) F1 m1 b1 5;let TX:=Nw (P:=P) (w:=w) (base:=base) M WD T.TX;let IN:=Oz (P:=P) (w:=w) (base:=base) M M2 T.IN;let NB:=N2 (P:=P) (w:=w) (base:=base) M IN T.NB;let MS:=Ou (P:=P) (w:=w) (base:=base) M2 T.MS;let RD:=Nz (P:=P) (w:=w) (base:=base) M M2 GS MS NB T.RD;let CS:=Nv (P:=P) (w:=w) (base:=base) M M2 HC T.CS;let AR:=MU (P:=P) (w:=w) (base:=base) HC T.AR;let LF:=Nk (P:=P) (w:=w) (base:=base) HC AR T.LF;let LI:=Np (P:=P) (w:=w) (base:=base) M CS LF T.LI;let PI:=NK (P:=P) (w:=w) (base:=base) M HC CS T.PI;let ST:=Ni (P:=P) (w:=w) (base:=base) M HC T.RW T.ST;let RI:=OB (P:=P) (w:=w) (base:=base) M HC T.RW T.RI;let GP:xh P w K mg base C D:=⟨HD,⟨fj,fdj,MD,MO HD RD PI LI ST RI FJ,bj⟩,hMd⟩;let NW:=M5 (P:=P) (w:=w) (base:=base) (C:=C) (D:=D) T.NW;let NA:=OW (P:=P) (w:=w) (base:=base) M HD NW T.NA;let CA:=Nc (P:=P) (w:=w) (base:=base) M HC HD T.CA;let⟨_,_,F1,m1,b1⟩:=T.CT;let CT:=NO (P:=P) (w:=w) (base:=base) (C:=C) M HD F1 m1 b1;let⟨_,_,F1,m1,b1⟩:=T.NC;let NC:=Nh (P:=P) (w:=w) (base:=base) M M2 HC HD CT F1 m1 b1;let NL:=Nt (P:=P) (w:=w) (base:=base) M HC HD NW T.NL;let EB:=N4 (P:=P) (w:=w) (base:=base) HD NW T.EB;let RB:=Od (P:=P) (w:=w) (base:=base) (C:=C) M3 HD T.RB;let PL2:=KW (P:=P) (w:=w) (base:=base) (C:=C) M M3 HD T.PL2;let⟨_,_,F1,m1,b1⟩:=T.PY;let PY:=Ob (P:=P) (w:=w) (base:=base) M M3 HD NW CT PL2 F1 m1 b1;let PB:=Oq (P:=P) (w:=w) (base:=base) M3 HD NW T.PB;let HI:=Nm (P:=P) (w:=w) (base:=base) NA CA NC NL EB RB PY PB T.HI;let NP:=OR (P:=P) (w:=w) (base:=base) GP HI T.NP;let⟨_,_,F1,m1,b1⟩:=T.NU;let NU:=Hf (P:=P) (w:=w) (base:=base) F1 m1 b1 4;let EN:=Oo (P:=P) (w:=w) (base:=base) M T.EN;let⟨_,_,F1,m1,b1⟩:=T.RO;let RO:=Gv (P:=P) (w:=w) (base:=base) M EN F1 m1 b1 4;let⟨_,_,F1,m1,b1⟩:=T.MP;let MP:=NY (P:=P) (w:=w) (base:=base) M NU EN RO F1 m1 b1;let⟨_,_,F1,m1,b1⟩:=T.SM
 let SM:=Hm (P:=P) (w:=w) (base:=base) M M6 F1 m1 b1 3;let WB:=OH (P:=P) (w:=w) (base:=base) M T.WB;let⟨_,_,F1,m1,b1⟩:=T.GG;let GG:=MZ (P:=P) (w:=w) (base:=base) M WB F1 m1 b1;let RV:=OL (P:=P) (w:=w) (base:=base) true M T.RV;let IW:=NT (P:=P) (w:=w) (base:=base) M M4 T.IW;let⟨_,_,F1,m1,b1⟩:=T.AW;let AW:=Nj (P:=P) (w:=w) (base:=base) M M4 IW F1 m1 b1;let⟨_,_,F1,m1,b1⟩:=T.NQ;let NQ:=ND (P:=P) (w:=w) (base:=base) M M4 IW AW F1 m1 b1;let AB:=Og (P:=P) (w:=w) (base:=base) M3 T.AB;let GO:=Om (P:=P) (w:=w) (base:=base) M3 M4 AB T.GO;let PA2:=Mc (P:=P) (w:=w) (base:=base) (C:=C) M HD T.PA2;let⟨_,_,F1,m1,b1⟩:=T.WO;let WO:=Ol (P:=P) (w:=w) (base:=base) M M4 HD NP PL2 PA2 F1 m1 b1;let⟨_,_,F1,m1,b1⟩:=T.WJ;let WJ:=Ng (P:=P) (w:=w) (base:=base) M M4 WO NQ RV AB GO F1 m1 b1;let AN:=OU (P:=P) (w:=w) (base:=base) M MX T.AN;exact M8 M M4 MX DR TX MP GG AN WJ SM F
theorem tI {xs:Rx}{g:Addr}{gd:Option Addr}{gn:Nat}{gs:Array Ry}{XT:Array Value}(KX:K.In h)(G:h.Ns Vc mg)(a:Xi K Vc x∣(some (.ref g)))(l:K.lookup g∣⟨.type "tuple",gd,.seq XT gn,gs⟩)(z:XT.size<=U9)(v:Vals (xs.map V.str) XT.toList):tW K mg x xs:=⟨g,_,_,_,Xl KX G a,l,rfl,rfl,z,v⟩
theorem Ia (KX:K.In h)(G:h.Ns Vc mg)(b1:Xi K Vc "len"∣none)(b2:Xi K Vc "min"∣none)(b3:Xi K Vc "range"∣none)(b4:Xi K Vc "int"∣none)(b5:Xi K Vc "list"∣none)(b6:Xi K Vc "zip"∣none)(b7:Xi K Vc "enumerate"∣none)(b8:Xi K Vc "reversed"∣none)(b9:Xi K Vc "any"∣none)(b10:Xi K Vc "all"∣none):cf K mg:=
 ⟨Xj KX G b1,Xj KX G b2,Xj KX G b3,Xj KX G b4,Xj KX G b5,Xj KX G b6,Xj KX G b7,Xj KX G b8,Xj KX G b9,Xj KX G b10⟩
theorem Gb (KX:K.In h)(G:h.Ns Vc mg){s1_1 s1_2 s1_3 s1_4 s1_5 s2_1 s2_2 s2_3 s2_4 s2_5 s2_6 s3_1 s3_2 s3_3 s3_4 s4_1 s4_2:Tok}{g1 g2 g3 g4:Addr}{d1 d2 d3 d4:Option Addr}{n1 n2 n3 n4:Nat}{e1 e2 e3 e4:Array Ry}(a1:Xi K Vc "MOST_LETTERS"∣(some (.int 8 t1)))(a2:Xi K Vc "NO_STEP"∣(some (.int (-1) t2)))(c1:Xi K Vc "NAMED"∣(some (.ref g1)))(l1:K.lookup g1∣⟨.type "tuple",d1,.seq #[.str "part" s1_1,.str "do" s1_2,.str "call" s1_3,.str "if" s1_4,.str "while" s1_5] n1,e1⟩)(c2:Xi K Vc "SENTENCES"∣(some (.ref g2)))(l2:K.lookup g2∣⟨.type "tuple",d2,.seq #[.str "do" s2_1,.str "call" s2_2,.str "if" s2_3,.str "while" s2_4,.str "leave" s2_5,.str "back" s2_6] n2,e2⟩)(c3:Xi K Vc "OPENING"∣(some (.ref g3)))(l3:K.lookup g3∣⟨.type "tuple",d3,.seq #[.str "part" s3_1,.str "if" s3_2,.str "else" s3_3,.str "while" s3_4] n3,e3⟩)(c4:Xi K Vc "CLOSING"∣(some (.ref g4)))(l4:K.lookup g4∣⟨.type "tuple",d4,.seq #[.str "else" s4_1,.str "end" s4_2] n4,e4⟩):lX K mg:=
 ⟨⟨_,Xl KX G a1⟩,⟨_,Xl KX G a2⟩,tI KX G c1 l1 (by show 5<=U9;decide) (.cons ⟨s1_1,rfl⟩ (.cons ⟨s1_2,rfl⟩ (.cons ⟨s1_3,rfl⟩ (.cons ⟨s1_4,rfl⟩ (.cons ⟨s1_5,rfl⟩ (.nil)))))),tI KX G c2 l2 (by show 6<=U9;decide) (.cons ⟨s2_1,rfl⟩ (.cons ⟨s2_2,rfl⟩ (.cons ⟨s2_3,rfl⟩ (.cons ⟨s2_4,rfl⟩ (.cons ⟨s2_5,rfl⟩ (.cons ⟨s2_6,rfl⟩ (.nil))))))),tI KX G c3 l3 (by show 4<=U9;decide) (.cons ⟨s3_1,rfl⟩ (.cons ⟨s3_2,rfl⟩ (.cons ⟨s3_3,rfl⟩ (.cons ⟨s3_4,rfl⟩ (.nil))))),tI KX G c4 l4 (by show 2<=U9;decide) (.cons ⟨s4_1,rfl⟩ (.cons ⟨s4_2,rfl⟩ (.nil)))⟩
theorem Eg (KX:K.In h)(G:h.Ns Vc mg){t3 t4 t5:Tok}(a1:Xi K Vc "BEGIN"∣(some (.int 0 t1)))(a2:Xi K Vc "END"∣(some (.int 1 t2)))(a3:Xi K Vc "MOST_PARTS"∣(some (.int 4 t3)))(a4:Xi K Vc "MOST_PLACES"∣(some (.int 16 t4)))(a5:Xi K Vc "MOST_PROGRAM_ROWS"∣(some (.int 30 t5))):kK mg:=
 ⟨⟨_,Xl KX G a1⟩,⟨_,Xl KX G a2⟩,⟨_,Xl KX G a3⟩,⟨_,Xl KX G a4⟩,⟨_,Xl KX G a5⟩⟩
theorem FH (KX:K.In h)(G:h.Ns Vc mg){t3 t4 t5 t6:Tok}(b1:Xi K Vc "isinstance"∣none)(b2:Xi K Vc "bool"∣none)(b3:Xi K Vc "max"∣none)(a1:Xi K Vc "NO_CALL"∣(some (.int (-1) t1)))(a2:Xi K Vc "FIRST_PART"∣(some (.int 0 t2)))(a3:Xi K Vc "YES"∣(some (.int 1 t3)))(a4:Xi K Vc "ENDED"∣(some (.str "ended" t4)))(a5:Xi K Vc "BOUND"∣(some (.str "bound" t5)))(a6:Xi K Vc "WANTING"∣(some (.str "wanting" t6))):jN mg:=
 ⟨Xj KX G b1,Xj KX G b2,Xj KX G b3,⟨_,Xl KX G a1⟩,⟨_,Xl KX G a2⟩,⟨_,Xl KX G a3⟩,⟨_,Xl KX G a4⟩,⟨_,Xl KX G a5⟩,⟨_,Xl KX G a6⟩⟩
theorem Fn (KX:K.In h)(G:h.Ns Vc mg)(b1:Xi K Vc "isinstance"∣none)(b2:Xi K Vc "bool"∣none)(b3:Xi K Vc "str"∣none)(b4:Xi K Vc "tuple"∣none):r8 mg:=⟨Xj KX G b1,Xj KX G b2,Xj KX G b3,Xj KX G b4⟩
theorem al1 (h:∀a,P [a]):∀us:RC,us.length=1->P us
 | [a],_=>h a
theorem al2 (h:∀a b,P [a,b]):∀us:RC,us.length=2->P us
 | [a,b],_=>h a b
theorem al3 (h:∀a b c,P [a,b,c]):∀us:RC,us.length=3->P us
 | [a,b,c],_=>h a b c
theorem al4 (h:∀a b c d,P [a,b,c,d]):∀us:RC,us.length=4->P us
 | [a,b,c,d],_=>h a b c d
theorem dm {st:Stmt}{ps:Rx}{kV:`aK}(KX:K.In h)(G:h.Ns Vc mg)(a:Xi K Vc x∣(some (.ref f)):=by k_is)(l:K.lookup f∣⟨oc,od,.func `aS,Zu⟩:=by k_is)(c:Xr K XU x=true:=by k_is)(k:Xm K (.ref f)=true:=by k_is)(b:∀(kV doc pm:`aK)(an:Option Addr)(XU ct:`aK)(us:RC),us.length=ps.length->bindArgs `aS ⟨us,[]⟩=pure (ps.zip us):=by first | exact λ_ _ _ _ _ _=>K1.al1 λ_=>rfl | exact λ_ _ _ _ _ _=>K1.al2 λ_ _=>rfl | exact λ_ _ _ _ _ _=>K1.al3 λ_ _ _=>rfl | exact λ_ _ _ _ _ _=>K1.al4 λ_ _ _ _=>rfl):Def K mg x st ps:=Le KX G a l c k b
theorem Ii {P:Ve}(KX:K.In h)(G:h.Ns Vc mg){d v1 v2 v3 v4:Addr}{k1 k2 k3 k4 s1_1 s2_1 s3_1 s3_2 s4_1 s4_2:Tok}{ep n1 n2 n3 n4:Nat}{d1 d2 d3 d4:Option Addr}{l1 l2 l3 l4:Array Ry}(a:Xi K Vc "ROW_WORDS"∣(some (.ref d)))(l:K.lookup d∣⟨.type "dict",none,.dict #[⟨W5 w.params "do",.str "do" k1,.ref v1⟩,⟨W5 w.params "call",.str "call" k2,.ref v2⟩,⟨W5 w.params "if",.str "if" k3,.ref v3⟩,⟨W5 w.params "while",.str "while" k4,.ref v4⟩] ep, #[]⟩)(sm:(d==Vr)=false)(u1:K.lookup v1∣⟨.type "tuple",d1,.seq #[.str "do" s1_1] n1,l1⟩)(u2:K.lookup v2∣⟨.type "tuple",d2,.seq #[.str "call" s2_1] n2,l2⟩)(u3:K.lookup v3∣⟨.type "tuple",d3,.seq #[.str "yes" s3_1,.str "no" s3_2] n3,l3⟩)(u4:K.lookup v4∣⟨.type "tuple",d4,.seq #[.str "yes" s4_1,.str "no" s4_2] n4,l4⟩):nH P w K mg "ROW_WORDS" dI:=by
 refine⟨d,_,[((Sum.inr "do":Key),.ref v1),((Sum.inr "call":Key),.ref v2),((Sum.inr "if":Key),.ref v3),((Sum.inr "while":Key),.ref v4)],Xl KX G a,l,⟨_,_,⟨rfl,rfl,rfl⟩,rfl,λe he=>?_,?_,by show SJ [(Sum.inr "do":Key),(Sum.inr "call":Key),(Sum.inr "if":Key),(Sum.inr "while":Key)];decide⟩,sm,?_⟩
 ·simp only[List.mem_toArray,Sj,S4,or_false] at he;obtain rfl | rfl | rfl | rfl:=he
  ·exact⟨Sum.inr "do",eC P w "do" k1,rfl⟩
  ·exact⟨Sum.inr "call",eC P w "call" k2,rfl⟩
  ·exact⟨Sum.inr "if",eC P w "if" k3,rfl⟩
  ·exact⟨Sum.inr "while",eC P w "while" k4,rfl⟩
 ·exact .cons (eC P w "do" k1) rfl (.cons (eC P w "call" k2) rfl (.cons (eC P w "if" k3) rfl (.cons (eC P w "while" k4) rfl (.nil))))
 ·exact .cons ⟨rfl,v1,_,_,_,rfl,u1,rfl,rfl,(by show 1<=U9;decide),.cons ⟨s1_1,rfl⟩ (.nil)⟩ (.cons ⟨rfl,v2,_,_,_,rfl,u2,rfl,rfl,(by show 1<=U9;decide),.cons ⟨s2_1,rfl⟩ (.nil)⟩ (.cons ⟨rfl,v3,_,_,_,rfl,u3,rfl,rfl,(by show 2<=U9;decide),.cons ⟨s3_1,rfl⟩ (.cons ⟨s3_2,rfl⟩ (.nil))⟩ (.cons ⟨rfl,v4,_,_,_,rfl,u4,rfl,rfl,(by show 2<=U9;decide),.cons ⟨s4_1,rfl⟩ (.cons ⟨s4_2,rfl⟩ (.nil))⟩ (.nil))))
theorem step_mk (KX:K.In h)(G:h.Ns Vc mg){kV:`aK}(aC:Xi K Vc "Step"∣(some (.ref C)))(a1:Xk K (.ref C) "__init__"∣(some (.ref f)))(i1:XC K (.ref f)=true)(l1:K.lookup f∣⟨oc,od,.func (Xn "__init__" "Step.__init__" (fA uZ) (bE uZ) (ao uZ) .none kV doc pm an XU ct),Zu⟩)(c1:Xr K XU "Step.__init__"=true)(k1:Xm K (.ref f)=true)(pg:Xu K C Str.empty=true)(hd:Xt K C=true)(po:Xv K C=true)(sa:Xk K (.ref C) "__setattr__"∣(some (.builtin "object.__setattr__")))(mk:Xw K C=true)(kc:Xm K (.ref C)=true)(o1:Xk K (.ref C) "kind"∣none)(o2:Xk K (.ref C) "name"∣none)(o3:Xk K (.ref C) "word"∣none)(o4:Xk K (.ref C) "within"∣none):AG K mg:=by
 refine⟨C,f,_,⟨⟨pg,hd,po,sa⟩,λx hx=>?_⟩,⟨mk,a1,i1,kc⟩,Xl KX G aC,kX (st:=uZ) l1 c1 k1,(kX (st:=uZ) l1 c1 k1).binds (ps:=xZ) λ_ _ _ _ _ _ us hl=>match us,hl with | [_,_,_,_,_],_=>rfl⟩;simp only[jg,Sj,S4,or_false] at hx;obtain rfl | rfl | rfl | rfl:=hx
 ·exact o1
 ·exact o2
 ·exact o3
 ·exact o4
theorem IY (KX:K.In h)(G:h.Ns Vc mg){kV:`aK}(aC:Xi K Vc "Spots"∣(some (.ref C)))(a1:Xk K (.ref C) "__init__"∣(some (.ref f)))(i1:XC K (.ref f)=true)(l1:K.lookup f∣⟨oc,od,.func (Xn "__init__" "Spots.__init__" (fA u9) (bE u9) (ao u9) .none kV doc pm an XU ct),Zu⟩)(c1:Xr K XU "Spots.__init__"=true)(k1:Xm K (.ref f)=true)(pg:Xu K C Str.empty=true)(hd:Xt K C=true)(po:Xv K C=true)(sa:Xk K (.ref C) "__setattr__"∣(some (.builtin "object.__setattr__")))(mk:Xw K C=true)(kc:Xm K (.ref C)=true)(o1:Xk K (.ref C) "steps"∣none)(o2:Xk K (.ref C) "parts"∣none)(o3:Xk K (.ref C) "leads"∣none)(o4:Xk K (.ref C) "stands"∣none)(o5:Xk K (.ref C) "rows"∣none):Ay K mg:=by
 refine⟨C,f,_,⟨⟨pg,hd,po,sa⟩,λx hx=>?_⟩,⟨mk,a1,i1,kc⟩,Xl KX G aC,kX (st:=u9) l1 c1 k1,(kX (st:=u9) l1 c1 k1).binds (ps:=wm) λ_ _ _ _ _ _ us hl=>match us,hl with | [_,_],_=>rfl⟩;simp only[gH,Sj,S4,or_false] at hx;obtain rfl | rfl | rfl | rfl | rfl:=hx
 ·exact o1
 ·exact o2
 ·exact o3
 ·exact o4
 ·exact o5
theorem J6 {fa:Addr}{kV:`aK}(KX:K.In h)(G:h.Ns Vc mg)(hfa:mg "law"∣.ref fa)(T:Top l.prog w K mg)(a:Xi K Vc "law"∣(some (.ref f)))(lk:K.lookup f∣⟨oc,od,.func (Xn "law" "law" (fA sI) (bE sI) (ao sI) .none kV doc pm an XU ct),Zu⟩)(c:Xr K XU "law"=true)(k:Xm K (.ref f)=true):
 ∃fd:Vi,(∀(s:Va)(v:`aK),Wg s fd ⟨[v],[]⟩ [("_law_script",v)])/\∀base:Heap,K.In base->base.Ns Vc mg->eZ l.prog w K mg base eI 18 fa fd ["_law_script"] (aR wC K):=by
 let e:=hfa.symm.trans (Xl KX G a);cases e
 exact⟨Xn "law" "law" (fA sI) (bE sI) (ao sI) .none kV doc pm an XU ct,λs v=>.of_eq rfl,λbase _ _=>MB T (kX lk c k)⟩
theorem walk {q:Ve}{loose:Rx}{XP:(Rt)->Heap->Prop}{YP:World->Heap->Prop}{d:DefRec}{K:Params->Xh}(hn:l.most∣63)(hdf:d.params.defaults=[])(hY:∀(w:World)(h:Heap),YP w h->(K w.params).In h)(F:∀(w:World)(mg:Rt)(fa:Addr)(h:Heap),(K w.params).In h->h.Ns Vc mg->mg d.name∣.ref fa->
  ∃fd:Vi,(∀(s:Va)(u:`aK),Wg s fd ⟨[u],[]⟩ [("_law_script",u)])/\∀base:Heap,(K w.params).In base->base.Ns Vc mg->eZ l.prog w (K w.params) mg base eI 18 fa fd ["_law_script"] (aR wC (K w.params))):
 PySem.W.WalkO q loose XP YP l.row.toRowW d [] (λf vs=>PySem.call f vs):=
 L2.Eo (n:=63) (k:=18) (x:="_law_script") (CX:=λ_=>eI) (sp:=λw=>aR wC (K w.params)) hn `c hdf ⟨rfl,`c,`c⟩ hY F
   (λw H a ns hl Zm _ hS=>⟨H,[⟨cT,ns⟩],_,au.refl _,.cons ⟨a,rfl,hS,hl⟩ .nil,⟨ns,rfl,hl,Zm,rfl⟩,λv H' R' _ t=>by let⟨y,hy,rfl⟩:=t;exact hy⟩) λ_ _ _ _ _ z=>z
end
end K1
open PySem PySem.W PyProof.Rows
namespace PySem.W.Fast
def tw15114764598188098001:=0
def tw15555580710260433379:=0
def tw13384706262241140382:=0
def tw2242380721428270688:=0
def tw10230423790728945269:=0
def tw2127667256254874318:=0
def tw13027522544105607956:=0
def tw16286545920897940055:=0
def tw11245047040223280834:=0
def tw4489327114692610801:=0
def tw5019419298137239513:=0
def tw2238584852532491824:=0
def tw5270261856907645877:=0
def tw11973878960043715486:=0
def tw9297541411389697466:=0
def tw16316073773641859704:=0
def tw8388455778310069681:=0
def tw6263474249657366165:=0
def tw8076485881654471816:=0
def tw15701842475299525321:=0
def tw3286282698898900559:=0
def tw2640852546435610527:=0
def tw9963577048367808332:=0
def tw3348302425273551209:=0
def tw12484263687770491862:=0
def tw11671663001959312676:=0
def tw3847029438255316141:=0
def tw8387460745956632952:=0
def tw15305799144143171555:=0
def tw10443923078128867781:=0
def tw13528120926544449681:=0
def tw9808582544200514166:=0
def tw537516445517159477:=0
def tw2757081826881227302:=0
def tw13898360830342831099:=0
def tw13379549291318113288:=0
def tw16590019612906939660:=0
def tw2579655152793142856:=0
def tw15413266492669211064:=0
def tw983662394703763653:=0
def tw17416756083899908955:=0
def tw16155738722642201198:=0
def tw14355403822566956629:=0
def tw13112614482905467931:=0
def tw16071869091748581534:=0
def tw4874375059178423708:=0
def tw12372805898007893914:=0
def tw377717006385468339:=0
def tw11214820196693924846:=0
def tw15827170775070365118:=0
def tw431653603956099229:=0
def tw12132617985553284892:=0
def tw7401560794528597218:=0
def tw4146385447227163906:=0
def tw14219545595601058214:=0
def tw16922652475338773413:=0
def tw1326307573551949777:=0
def tw578479188211710542:=0
def tw2080181521164581398:=0
def tw10912542776821208686:=0
def tw13055058716183238272:=0
def tw7724141047841873522:=0
def tw8487946972417691044:=0
def tw6209629286980389395:=0
def tw8506321772131686514:=0
def tw2474325841683520414:=0
def tw3502678639182299703:=0
def tw18419707200824044499:=0
def tw5035222222557650979:=0
def tw5101039020403767945:=0
def tw14484574602852241183:=0
def tw9685766772069768517:=0
def tw18044636922429502273:=0
def tw5584594176413480311:=0
def tw16260416992418503980:=0
def tw15282099237177456111:=0
def tw1307074722415660373:=0
def tw3783293659596808565:=0
def tw3240947122027147857:=0
def tw4125356123353457998:=0
def tw9197444682053849344:=0
def tw13808683931678269612:=0
def tw5913206184881556538:=0
def tw12768102882335112196:=0
def tw9534303397571051941:=0
def tw15765445654424264839:=0
def tw4750784093888845646:=0
def tw17993470363158213690:=0
def tw15387960847356448391:=0
def tw1728338424746121918:=0
def tw8517371188090538077:=0
def tw4791660690093520135:=0
def tw4694848016917669948:=0
def tw4744958872375327907:=0
def tw14521057084445463703:=0
def tw9821751543906060015:=0
def tw13716851740427067351:=0
def tw993585865952747758:=0
def tw18019285584507516517:=0
def tw13491433428991807717:=0
def tw2600732595802526550:=0
def tw3676865858840916556:=0
def tw5377429931409995045:=0
def tw9366009414577549761:=0
def tw17911610664105970153:=0
def tw18102867322786781677:=0
def tw6606526352105419958:=0
def tw16636928996724501492:=0
def tw2695971331959327676:=0
def tw15867290113150939215:=0
def tw9099606159139731343:=0
def tw15889696481146977523:=0
def tw1129530157605883655:=0
def tw14742616555908877125:=0
def tw2728187082300767790:=0
def tw12710985852592280384:=0
def tw18436322446050012902:=0
def tw17751393488432540543:=0
def tw6811568614851668305:=0
def tw12804184146125562432:=0
def tw15851116270544589004:=0
def tw16292159428189058215:=0
def tw9848767395057794751:=0
def tw1414820304402340297:=0
def tw7859894109466142675:=0
def tw14029099871006178664:=0
def tw3389120616511206774:=0
def tw9975692421403154317:=0
def tw15129712888194431345:=0
def tw6789231371805167708:=0
def tw3762183603522648339:=0
def tw16957962596930761107:=0
def tw6950185112721124133:=0
def tw5992963948484974109:=0
def tw5180765075673079575:=0
def tw6165893415369820399:=0
def tw15819653297403047438:=0
def tw6445966468125786084:=0
def tw4424455989942502778:=0
def tw442317260339968901:=0
def tw10955102865517398326:=0
def tw16303040381591843823:=0
def tw2599810174058344535:=0
def tw10587504263705895927:=0
def tw13820382663078564087:=0
def tw9639577154422196221:=0
def tw5001442543298377808:=0
def tw12358551502326082947:=0
def tw9047789980687241887:=0
def tw16111591512308237611:=0
def tw9282302284809420994:=0
def tw16829905460645586163:=0
def tw13006152836192765110:=0
def tw9868809671439656463:=0
def tw2974587009043862927:=0
def tw9329015462775923121:=0
def tw14555674016383777392:=0
def tw10117323265742202177:=0
def tw7535804309814672571:=0
def tw254426640762913376:=0
def tw3362977781236247089:=0
def tw5133801642642095947:=0
def tw14545513732114499222:=0
def tw13773276517302345119:=0
def tw3698570846699920474:=0
def tw15208163467144764434:=0
def tw17669403803725544803:=0
def tw8187228091151745099:=0
def tw8463418924097974567:=0
def tw16100380143438704270:=0
def tw7933942120183672567:=0
def tw5257519982554050560:=0
def tw179351880166747902:=0
def tw7999112740747104528:=0
def tw12292029016070647157:=0
def tw3391871393610919516:=0
def tw15859222150932591010:=0
def tw1754282616299001884:=0
def tw8838421228458377466:=0
def tw16378871855473190478:=0
def tw7732232571383218253:=0
def tw16110627093815474368:=0
def tw13429828625857778760:=0
def tw9999071728738384332:=0
def tw11497271687412034893:=0
def tw18219715761159034438:=0
def tw16591314582502546637:=0
def tw7148832450230089377:=0
def tw15753233218381197882:=0
def tw9713729515002964139:=0
def tw12122821899166023403:=0
def tw4432086707441813313:=0
def tw11883189044549601204:=0
def tw14961601264733515580:=0
def tw4390811881459080881:=0
def tw1933406271663108913:=0
def tw6797963261002316083:=0
def tw1384902756871073069:=0
def tw10074024759682431155:=0
def tw8674431673072224426:=0
def tw3835972732099343158:=0
def tw10906021647016899140:=0
def tw7928537764037430391:=0
def tw838906592468493927:=0
def tw7001992537912561166:=0
def tw5729191144600411578:=0
def tw5408327196468429322:=0
def tw5274666045852562856:=0
def tw2236809179515672686:=0
def tw15425823043030648931:=0
def tw13003931285927209537:=0
def tw17399026956555312635:=0
def tw13806033333139455166:=0
def tw125764997223881230:=0
def tw11696261695006921776:=0
def tw8747437355511375721:=0
def tw1966914355995552302:=0
def tw1604722105083012951:=0
def tw15018418470684453592:=0
def tw14228885205614720385:=0
def tw12534132700828568285:=0
def tw13508708168452820147:=0
def tw7290659421375066554:=0
def tw8229132881297365038:=0
def tw13657276242025843213:=0
def tw13412045185129171862:=0
def tw10667002219848797189:=0
def tw9441685200938269916:=0
def tw6044324247795378889:=0
def tw1938859209180541682:=0
def tw7510642123594442539:=0
def tw10237313966171753990:=0
def tw14115384648450664003:=0
def tw16292909525262202318:=0
def tw16557445709860667625:=0
def tw622584989561273909:=0
def tw5868983209512482673:=0
def tw14938038582258231033:=0
def tw3909668137756445404:=0
def tw11096380839018478132:=0
def tw5802780883985737920:=0
def tw2925235343167485132:=0
def tw7897642439336453450:=0
def tw4366787003248904442:=0
def tw1716057544073708190:=0
def tw10914972313139781025:=0
def tw4319821677484215567:=0
def tw12740170589590668153:=0
def tw11765476220144648348:=0
def tw10932200333559851382:=0
end PySem.W.Fast
end
set_option maxRecDepth 100000 in
set_option maxHeartbeats 0 in
theorem PySem.Challenge.cw_fewcounters_k67_whole_walks_broken_off_holds : PySem.Challenge.rw_fewcounters_k67_whole_walks_broken_off.Holds := by
 w_on;o_law;k_head;(case hw=>w_witness2)
 k_fill
 refine K1.walk (l:=PySem.Challenge.rw_fewcounters_k67_whole_walks_broken_off) rfl rfl (λw h Y=>PySem.W.kIn_of Y) ?F
 case F=>
  intro w mg fa h KX G hmg;have M:K1.cf (L2.qq KX) mg:=by
   dsimp only[L2.qq];refine' K1.Ia KX G ?b1 ?b2 ?b3 ?b4 ?b5 ?b6 ?b7 ?b8 ?b9 ?b10
   (case b1=>k_is);(case b2=>k_is);(case b3=>k_is);(case b4=>k_is);(case b5=>k_is);(case b6=>k_is);(case b7=>k_is);(case b8=>k_is);(case b9=>k_is);(case b10=>k_is)
  have M2:K1.lX (L2.qq KX) mg:=by
   dsimp only[L2.qq];refine' K1.Gb KX G ?a1 ?a2 ?c1 ?l1 ?c2 ?l2 ?c3 ?l3 ?c4 ?l4
   (case a1=>k_is);(case a2=>k_is);(case c1=>k_is);(case l1=>k_is);(case c2=>k_is);(case l2=>k_is);(case c3=>k_is);(case l3=>k_is);(case c4=>k_is);(case l4=>k_is)
  have M4:K1.jN mg:=by
   refine' K1.FH KX G ?b1 ?b2 ?b3 ?a1 ?a2 ?a3 ?a4 ?a5 ?a6
   (case b1=>k_is);(case b2=>k_is);(case b3=>k_is);(case a1=>k_is);(case a2=>k_is);(case a3=>k_is);(case a4=>k_is);(case a5=>k_is);(case a6=>k_is)
  have M6:K1.r8 mg:=by
   refine' K1.Fn KX G ?b1 ?b2 ?b3 ?b4
   (case b1=>k_is);(case b2=>k_is);(case b3=>k_is);(case b4=>k_is)
  have M3:K1.kK mg:=by
   refine' K1.Eg KX G ?a1 ?a2 ?a3 ?a4 ?a5
   (case a1=>k_is);(case a2=>k_is);(case a3=>k_is);(case a4=>k_is);(case a5=>k_is)
  have DRW:Fc.nH (PySem.Challenge.rw_fewcounters_k67_whole_walks_broken_off).prog w (L2.qq KX) mg "ROW_WORDS" K1.dI:=by
   dsimp only[L2.qq];refine' K1.Ii KX G ?a ?l ?sm ?u1 ?u2 ?u3 ?u4
   (case a=>k_is);(case l=>k_is);(case sm=>rfl);(case u1=>k_is);(case u2=>k_is);(case u3=>k_is);(case u4=>k_is)
  have DSC:K1.AG (L2.qq KX) mg:=by
   dsimp only[L2.qq];refine' K1.step_mk KX G ?aC ?a1 ?i1 ?l1 ?c1 ?k1 ?pg ?hd ?po ?sa ?mk ?kc ?o1 ?o2 ?o3 ?o4
   (case aC=>k_is);(case a1=>k_is);(case i1=>k_is);(case l1=>k_is);(case c1=>k_is);(case k1=>k_is);(case pg=>k_is);(case hd=>k_is);(case po=>k_is);(case sa=>k_is);(case mk=>k_is);(case kc=>k_is);(case o1=>k_is);(case o2=>k_is);(case o3=>k_is);(case o4=>k_is)
  have DPC:K1.Ay (L2.qq KX) mg:=by
   dsimp only[L2.qq];refine' K1.IY KX G ?aC ?a1 ?i1 ?l1 ?c1 ?k1 ?pg ?hd ?po ?sa ?mk ?kc ?o1 ?o2 ?o3 ?o4 ?o5
   (case aC=>k_is);(case a1=>k_is);(case i1=>k_is);(case l1=>k_is);(case c1=>k_is);(case k1=>k_is);(case pg=>k_is);(case hd=>k_is);(case po=>k_is);(case sa=>k_is);(case mk=>k_is);(case kc=>k_is);(case o1=>k_is);(case o2=>k_is);(case o3=>k_is);(case o4=>k_is);(case o5=>k_is)
  refine' K1.J6 KX G hmg ⟨M,M2,M3,M6,M4,DRW,DSC,DPC,by exact K1.dm KX G,by exact K1.dm KX G,by exact K1.dm KX G,by exact K1.dm KX G,by exact K1.dm KX G,by exact K1.dm KX G,by exact K1.dm KX G,by exact K1.dm KX G,by exact K1.dm KX G,by exact K1.dm KX G,by exact K1.dm KX G,by exact K1.dm KX G,by exact K1.dm KX G,by exact K1.dm KX G,by exact K1.dm KX G,by exact K1.dm KX G,by exact K1.dm KX G,by exact K1.dm KX G,by exact K1.dm KX G,by exact K1.dm KX G,by exact K1.dm KX G,by exact K1.dm KX G,by exact K1.dm KX G,by exact K1.dm KX G,by exact K1.dm KX G,by exact K1.dm KX G,by exact K1.dm KX G,by exact K1.dm KX G,by exact K1.dm KX G,by exact K1.dm KX G,by exact K1.dm KX G,by exact K1.dm KX G,by exact K1.dm KX G,by exact K1.dm KX G,by exact K1.dm KX G,by exact K1.dm KX G,by exact K1.dm KX G,by exact K1.dm KX G,by exact K1.dm KX G,by exact K1.dm KX G,by exact K1.dm KX G,by exact K1.dm KX G,by exact K1.dm KX G,by exact K1.dm KX G,by exact K1.dm KX G,by exact K1.dm KX G,by exact K1.dm KX G,by exact K1.dm KX G,by exact K1.dm KX G,by exact K1.dm KX G⟩ ?qa ?qb ?qc ?qd
  (case qa=>k_is);(case qb=>k_is);(case qc=>k_is);(case qd=>k_is)
