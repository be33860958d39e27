import PyProof.Rows.All
import Lean
import Wide.All
import OpenK.AllK
import Wide.FinOn
import PyProof.EqAt
import PyProof.EqKinds
import PyProof.TupleCall
import PyProof.NeKinds
import PyProof.WalksEnum
import PyProof.EnumMake
import KE.KTryMore
import PyProof.NsDelKeeps
import PySem.Challenge.RW_fewcounters_k45_whole_parts_by_themselve
import PyProof.SumWalkG
import PyProof.SeqI3
import PyProof.Rows.TupIter
import KE.KRevIter
import PyProof.ListRange
namespace Fc
open Lean
def ag:Syntax:=Unhygienic.run `(Parser.Tactic.tacticSeq| rfl)
def aw:Syntax:=Unhygienic.run `(Parser.Tactic.tacticSeq| decide)
def bW:Syntax:=Unhygienic.run `(Parser.Tactic.tacticSeq| first | exact Or.inl rfl | exact Or.inr (Or.inl rfl) | exact Or.inr (Or.inr rfl))
def cJ:Syntax:=Unhygienic.run `(Parser.Tactic.tacticSeq| intro _;rfl)
def dh:Syntax:=Unhygienic.run `(Parser.Tactic.tacticSeq| first | exact Or.inl rfl | exact Or.inr rfl)
def dO:Syntax:=Unhygienic.run `(Parser.Tactic.tacticSeq| first | assumption | decide)
def fe:Syntax:=Unhygienic.run `(Parser.Tactic.tacticSeq| first | exact .inl rfl | exact .inr rfl)
def l9:Syntax:=Unhygienic.run `(Parser.Tactic.tacticSeq| exact fun _ _=>rfl)
def aIs:Syntax:=Unhygienic.run `(Parser.Tactic.tacticSeq| intros;rfl)
end Fc
set_option Elab.async false
set_option linter.all false
set_option maxRecDepth 100000
namespace L2
open PySem PySem.Spec PyProof.Rows
noncomputable abbrev Key:=Sum Int Str
noncomputable def iR:Key→Value→Bool
  | .inl k,v=>Value.isInt k v
  | .inr x,v=>Value.isStrOf x v
noncomputable def Bo (w:World):Key→Int
  | .inl k=>hashInt k
  | .inr x=>hashStr w x
theorem cD:∀{k:Key} {v:Value},iR k v=true→(∃i t,k=Sum.inl i∧v=Value.int i t)∨(∃x t,k=Sum.inr x∧v=Value.str x t)
  | .inl i,v,h=>by
    obtain ⟨t,e⟩:=Value.isInt_shape (k:=i) (v:=v) h
    exact .inl ⟨i,t,rfl,e⟩
  | .inr x,v,h=>by
    obtain ⟨t,e⟩:=Value.isStrOf_shape (x:=x) (v:=v) h
    exact .inr ⟨x,t,rfl,e⟩
theorem qW (i:Int)(t:Tok):iR (.inl i) (.int i t)=true:=by simp [iR,Value.isInt]
theorem rn (x:Str)(t:Tok):iR (.inr x) (.str x t)=true:=by simp [iR,Value.isStrOf]
theorem xF (a b:Int):decide ((Sum.inl a:Key)=Sum.inl b)=(a==b):=by
  by_cases e:a=b
  · subst e;simp
  · have h:¬(Sum.inl a:Key)=Sum.inl b:=fun q=>e (Sum.inl.inj q)
    rw [decide_eq_false h]
    exact (beq_eq_false_iff_ne.mpr e).symm
theorem yn (a b:Str):decide ((Sum.inr a:Key)=Sum.inr b)=decide (a=b):=by
  by_cases e:a=b
  · subst e;simp
  · have h:¬(Sum.inr a:Key)=Sum.inr b:=fun q=>e (Sum.inr.inj q)
    rw [decide_eq_false h,decide_eq_false e]
theorem w9 (a:Int)(b:Str):decide ((Sum.inl a:Key)=Sum.inr b)=false:=decide_eq_false (fun q=>nomatch q)
theorem xK (a:Str)(b:Int):decide ((Sum.inr a:Key)=Sum.inl b)=false:=decide_eq_false (fun q=>nomatch q)
noncomputable def cx (prog:Program)(w:World):PySem.KeyKind prog w Key where
  is:=iR
  hash:=Bo w
  inj :=fun v a b ha hb=>by
    rcases cD ha with ⟨i,t,rfl,rfl⟩ | ⟨x,t,rfl,rfl⟩
    · rcases cD hb with ⟨j,u,rfl,e⟩ | ⟨y,u,rfl,e⟩
      · injection e with e1 _;rw [e1]
      · exact nomatch e
    · rcases cD hb with ⟨j,u,rfl,e⟩ | ⟨y,u,rfl,e⟩
      · exact nomatch e
      · injection e with e1 _;rw [e1]
  byValue:=fun k v h=>by
    rcases cD h with ⟨i,t,rfl,rfl⟩ | ⟨x,t,rfl,rfl⟩<;>rfl
  pyHash:=fun hv h=>by
    rcases cD hv with ⟨i,t,rfl,rfl⟩ | ⟨x,t,rfl,rfl⟩
    · exact wpAny_pyHash_int h
    · exact wpAny_pyHash_str h
  eqBool:=fun hu hv h=>by
    rcases cD hu with ⟨i,t,rfl,rfl⟩ | ⟨x,t,rfl,rfl⟩
    · rcases cD hv with ⟨j,u,rfl,rfl⟩ | ⟨y,u,rfl,rfl⟩
      · rw [xF] at h;exact wpAny_eqBool_int h
      · rw [w9] at h;exact SeqAt.EqAt.int_str i t y u _ _ _ _ h
    · rcases cD hv with ⟨j,u,rfl,rfl⟩ | ⟨y,u,rfl,rfl⟩
      · rw [xK] at h;exact SeqAt.EqAt.str_int x t j u _ _ _ _ h
      · rw [yn] at h;exact wpAny_eqBool_str h
  «strs»:=fun k x t v h=>by
    rcases cD h with ⟨i,u,rfl,e⟩ | ⟨y,u,rfl,e⟩
    · exact nomatch e
    · injection e with e1 _
      subst e1
      cases v<;>rfl
theorem nC (prog:Program)(w:World)(i:Int)(t:Tok):(cx prog w).is (.inl i) (.int i t)=true:=qW i t
theorem nD (prog:Program)(w:World)(x:Str)(t:Tok):(cx prog w).is (.inr x) (.str x t)=true:=rn x t
inductive V where
  | non | bl (b:Bool) | int (i:Int) | str (x:Str) | byt (b:Array UInt8) | flt (b:UInt64) | ref (a:Addr) | ty (n:String)
  deriving DecidableEq
noncomputable def RelV:V→Value→Prop
  | .non,u=>u=Value.none
  | .bl b,u=>u=Value.bool b
  | .int i,u=>∃t,u=Value.int i t
  | .str x,u=>∃t,u=Value.str x t
  | .byt b,u=>∃t,u=Value.bytes b t
  | .flt b,u=>∃t,u=Value.float b t
  | .ref a,u=>u=Value.ref a
  | .ty n,u=>u=Value.type n
noncomputable abbrev Vals:List V→List Value→Prop:=Paired RelV
theorem Vals.length {xs:List V}{us:List Value}(r:Vals xs us):xs.length=us.length:=Paired.length r
theorem Vals.get:∀{xs:List V} {us:List Value} {i:Nat} {x:V},Vals xs us→xs[i]?=some x→∃u,us[i]?=some u∧RelV x u
  | _,_,_,_,.nil,e=>by simp at e
  | _,_,0,_,.cons r _,e=>by simp at e;subst e;exact ⟨_,rfl,r⟩
  | _,_,i + 1,x,.cons _ t,e=>by
    obtain ⟨u,h1,h2⟩:=Vals.get (i:=i) (x:=x) t (by simpa using e)
    exact ⟨u,by simpa using h1,h2⟩
theorem Vals.set {x:V}{u:Value}(r:RelV x u):∀{xs:List V} {us:List Value} (i:Nat),Vals xs us→Vals (xs.set i x) (us.set i u)
  | _,_,_,.nil=>.nil
  | _,_,0,.cons _ t=>.cons r t
  | _,_,i + 1,.cons q t=>.cons q (Vals.set r i t)
theorem Vals.append:∀{xs ys:List V} {us ws:List Value},Vals xs us→Vals ys ws→Vals (xs++ys) (us++ws)
  | _,_,_,_,.nil,s=>s
  | _,_,_,_,.cons r t,s=>.cons r (Vals.append t s)
theorem Vals.take:∀{xs:List V} {us:List Value} (n:Nat),Vals xs us→Vals (xs.take n) (us.take n)
  | _,_,0,_=>.nil
  | _,_,_ + 1,.nil=>.nil
  | _,_,n + 1,.cons r t=>.cons r (Vals.take n t)
theorem Vals.drop:∀{xs:List V} {us:List Value} (n:Nat),Vals xs us→Vals (xs.drop n) (us.drop n)
  | _,_,0,r=>r
  | _,_,_ + 1,.nil=>.nil
  | _,_,n + 1,.cons _ t=>Vals.drop n t
noncomputable def fK:Option V→Option Value→Prop
  | some v,some u=>RelV v u
  | none,none=>True
  | _,_=>False
noncomputable def KV {κ:Type}:List (κ×V)→List (κ×Value)→Prop:=Paired fun (p:κ×V) (q:κ×Value)=>p.1=q.1∧RelV p.2 q.2
noncomputable def kV:Key→V
  | .inl i=>.int i
  | .inr x=>.str x
inductive HO where
  /-- a list -/
  | lst (xs:List V)
  /-- a tuple (never changes) -/
  | tup (xs:List V)
  /-- a dict whose keys are ints and texts;one whose keys are tuples of ints and texts (the empty one is both) -/
  | dK (kvs:List (Key×V)) | dT (kvs:List (List Key×V))
  /-- a set of ints:its members,its size -/
  | set (S:Int→Bool) (n:Nat)
  /-- an instance of the class at C,its dict at dx,its attributes -/
  | ins (C dx:Addr) (fs:List (Str×V))
  /-- the dict of the instance at x -/
  | own (x:Addr)
  /-- the dict of an exception -/
  | xd (fs:List (Str×V))
  /-- a bound method,f of x -/
  | met (f x:Addr)
  /-- a range object lo,lo + 1,.. below hi -/
  | rng (lo hi:Int)
  /-- a thing that is known to the object (the script;a dict while a loop walks it):read,never written while it is so -/
  | frz (o:Obj) (u:HO)
  /-- a code object's table -/
  | tbl (ps:Array Value)
  /-- any other thing,by what is true of its one object (a def of one's own:SetO a S n:=HO.ext fun h=>..) -/
  | ext (φ:Heap→Prop)
noncomputable abbrev Hp:=Addr→Option HO
noncomputable def upd (H:Hp)(a:Addr)(o:HO):Hp:=fun b=>if b=a then some o else H b
theorem ay {H:Hp}{a:Addr}{o:HO}:upd H a o a=some o:=by unfold upd;rw [if_pos rfl]
theorem aD {H:Hp}{a b:Addr}{o:HO}(h:b≠a):upd H a o b=H b:=by unfold upd;rw [if_neg h]
theorem vm {H:Hp}{a:Addr}{o u:HO}:upd (upd H a o) a u=upd H a u:=by
  funext b;unfold upd;split<;>rfl
theorem zw {H:Hp}{a b:Addr}{o u:HO}(h:H a=some o)(h':H b=some u)(d:o≠u):a≠b:=by
  intro e;subst e;rw [h] at h';exact d (Option.some.inj h')
theorem cf {H:Hp}{a b:Addr}{o:HO}(h:H a=some o)(h':H b=none):a≠b:=by
  intro e;subst e;rw [h] at h';cases h'
section
variable (P:Program)(w:World)
noncomputable def bT (H:Hp)(h:Heap)(a:Addr):HO→Prop
  | .lst xs=>xs.length≤sizeLine∧∃(its:List Value) (n:Nat),Vals xs its∧h.get? a=some {cls:=.type "list",data:=.seq its.toArray n}
  | .tup xs=>xs.length≤sizeLine∧∃its:List Value,Vals xs its∧IsTup h a its.toArray
  | .dK kvs=>kvs.length≤sizeLine∧(a==sysModules)=false∧∃vs,KV kvs vs∧h.DictOf (cx P w) a vs
  | .dT kvs=>kvs.length≤sizeLine∧(a==sysModules)=false∧∃xs:List (List Key×Addr×Value),
      Paired (fun (p:List Key×V) (q:List Key×Addr×Value)=>p.1=q.1∧H q.2.1=some (.tup (p.1.map kV))∧RelV p.2 q.2.2) kvs xs∧
      ∃o es ep,h.get? a=some o∧o.ExactDict∧o.data= .dict es ep∧es.toList=xs.map (entryOfKey (tupleKind (cx P w)))∧(xs.map (·.1)).Nodup
  | .set S n=>h.SetOf (intKind P w) a S n
  | .ins C dx fs=>H dx=some (.own a)∧fs.length≤1000∧dx≠a∧h.get? a=some (PySem.W.instObj C dx)∧
      ∃mA,h.Ns1 dx mA∧(∀f,fK (fs.lookup f) (mA f))∧PySem.Within mA (fs.map (·.1))
  | .own _=>∃o,h.get? a=some o
  | .xd fs=>∃mA,h.Ns1 a mA∧∀f,fK (fs.lookup f) (mA f)
  | .rng lo hi=>∃t u v,h.get? a=some {cls:=.type "range",data:=.fields #[.int lo t,.int hi u,.int 1 v]}
  | .frz o u=>h.get? a=some o∧bT H h a u
  | .tbl ps=>h.get? a=some {cls:=.none,data:=.fields ps}
  | .met f x=>h.get? a=some (PySem.W.methodObj (.ref f) (.ref x))
  | .ext φ=>φ h∧(∃o,h.get? a=some o)∧∀h1 h2:Heap,φ h1→(∀o,h1.get? a=some o→h2.get? a=some o)→φ h2
noncomputable def cU (H:Hp)(h:Heap):Prop:=∀a o,H a=some o→bT P w H h a o
end
section
variable {P:Program}{w:World}{H H':Hp}{h h':Heap}{a:Addr}{o:HO}
theorem bT.lt (x:bT P w H h a o):a < h.objs.size:=by
  cases o with
  | lst xs=>obtain ⟨_,_,_,_,e⟩:=x;exact Heap.lt_size e
  | tup xs=>obtain ⟨_,_,_,p⟩:=x;exact p.lt
  | dK kvs=>obtain ⟨_,_,_,_,o,_,_,e,_⟩:=x;exact Heap.lt_size e
  | dT kvs=>obtain ⟨_,_,_,_,o,_,_,e,_⟩:=x;exact Heap.lt_size e
  | set S n=>obtain ⟨o,_,_,_,e,_⟩:=x;exact Heap.lt_size e
  | ins C dx fs=>obtain ⟨_,_,_,e,_⟩:=x;exact Heap.lt_size e
  | own y=>obtain ⟨_,e⟩:=x;exact Heap.lt_size e
  | xd fs=>obtain ⟨_,⟨_,_,_,e,_⟩,_⟩:=x;exact Heap.lt_size e
  | rng lo hi=>obtain ⟨_,_,_,e⟩:=x;exact Heap.lt_size e
  | frz ob u=>obtain ⟨e,_⟩:=x;exact Heap.lt_size e
  | tbl ps=>exact Heap.lt_size (show h.get? a=some _ from x)
  | met f y=>exact Heap.lt_size (show h.get? a=some _ from x)
  | ext φ=>obtain ⟨_,⟨_,e⟩,_⟩:=x;exact Heap.lt_size e
theorem Paired.tw {α β:Type}{F G:α→β→Prop}:∀{l₁:List α} {l₂:List β},Paired F l₁ l₂→(∀a b,F a b→G a b)→Paired G l₁ l₂
  | _,_,.nil,_=>.nil
  | _,_,.cons r t,f=>.cons (f _ _ r) (Paired.tw t f)
theorem bT.ic (x:bT P w H h a o)(k:∀b u,(b=a∨H b=some (.own a))→h.get? b=some u→h'.get? b=some u)
    (ho:∀b,H b=some (.own a)→H' b=some (.own a)) (ht:∀b xs,H b=some (.tup xs)→H' b=some (.tup xs)):bT P w H' h' a o:=by
  induction o with
  | lst xs=>obtain ⟨z,its,n,r,e⟩:=x;exact ⟨z,its,n,r,k _ _ (.inl rfl) e⟩
  | tup xs=>obtain ⟨z,its,r,ob,e,c⟩:=x;exact ⟨z,its,r,ob,k _ _ (.inl rfl) e,c⟩
  | dK kvs=>obtain ⟨z,y,vs,r,ob,es,ep,e,c⟩:=x;exact ⟨z,y,vs,r,ob,es,ep,k _ _ (.inl rfl) e,c⟩
  | dT kvs=>
    obtain ⟨z,y,xs,r,ob,es,ep,e,c⟩:=x
    exact ⟨z,y,xs,Paired.tw r fun p q z=>⟨z.1,ht _ _ z.2.1,z.2.2⟩,ob,es,ep,k _ _ (.inl rfl) e,c⟩
  | set S n=>obtain ⟨ob,es,ep,t,e,c⟩:=x;exact ⟨ob,es,ep,t,k _ _ (.inl rfl) e,c⟩
  | ins C dx fs=>
    obtain ⟨d,z,ne,e,mA,⟨od,es,ep,e2,c⟩,r⟩:=x
    exact ⟨ho _ d,z,ne,k _ _ (.inl rfl) e,mA,⟨od,es,ep,k _ _ (.inr d) e2,c⟩,r⟩
  | own y=>obtain ⟨ob,e⟩:=x;exact ⟨ob,k _ _ (.inl rfl) e⟩
  | xd fs=>obtain ⟨mA,⟨od,es,ep,e,c⟩,r⟩:=x;exact ⟨mA,⟨od,es,ep,k _ _ (.inl rfl) e,c⟩,r⟩
  | rng lo hi=>obtain ⟨t,u,v,e⟩:=x;exact ⟨t,u,v,k _ _ (.inl rfl) e⟩
  | frz ob u ih=>obtain ⟨e,q⟩:=x;exact ⟨k _ _ (.inl rfl) e,ih q⟩
  | tbl ps=>
    have e:h.get? a=some {cls:=.none,data:=.fields ps}:=x
    show h'.get? a=some {cls:=.none,data:=.fields ps}
    exact k a _ (.inl rfl) e
  | met f y=>
    have e:h.get? a=some (PySem.W.methodObj (.ref f) (.ref y)):=x
    show h'.get? a=some (PySem.W.methodObj (.ref f) (.ref y))
    exact k a _ (.inl rfl) e
  | ext φ=>obtain ⟨p,⟨o,e⟩,st⟩:=x;exact ⟨st _ _ p fun o q=>k _ _ (.inl rfl) q,⟨o,k _ _ (.inl rfl) e⟩,st⟩
theorem cU.lt (x:cU P w H h)(e:H a=some o):a < h.objs.size:=(x a o e).lt
theorem cU.fresh (x:cU P w H h)(e:h.objs.size≤a):H a=none:=by
  cases q:H a with
  | none=>rfl
  | some u=>exact absurd (Nat.lt_of_lt_of_le (x.lt q) e) (Nat.lt_irrefl _)
theorem cU.kept (x:cU P w H h)(k:∀b u,h.get? b=some u→h'.get? b=some u):cU P w H h':=fun a o e=>
  (x a o e).ic (fun b u _ q=>k b u q) (fun _ q=>q) fun _ _ q=>q
theorem cU.laid (x:cU P w H h)(k:∀b u,h.get? b=some u→h'.get? b=some u)(hp:h.objs.size≤a)(new:bT P w (upd H a o) h' a o):cU P w (upd H a o) h':=fun b u e=>by
  have hn:=x.fresh hp
  by_cases hb:b=a
  · subst hb;rw [ay] at e;cases e;exact new
  · rw [aD hb] at e
    exact (x b u e).ic (fun c v _ q=>k c v q) (fun c q=>by rw [aD (cf q hn)];exact q) fun c xs q=>by rw [aD (cf q hn)];exact q
end
noncomputable def Rd (H:Hp)(a:Addr)(u:HO):Prop:=H a=some u∨∃o,H a=some (.frz o u)
theorem Rd.ok {P:Program}{w:World}{H:Hp}{h:Heap}{a:Addr}{u:HO}(r:Rd H a u)(x:cU P w H h):bT P w H h a u:=by
  rcases r with r | ⟨o,r⟩
  · exact x a u r
  · obtain ⟨_,q⟩:=x a _ r
    exact q
noncomputable def rq:Option HO→Prop
  | some (.lst _)=>True
  | some (.dK _)=>True
  | some (.dT _)=>True
  | some (.set _ _)=>True
  | some (.ins _ _ _)=>True
  | some (.ext _)=>True
  | _=>False
section
variable {P:Program}{w:World}{H:Hp}{h h':Heap}{x e:Addr}{o':HO}
theorem cU.write (ok:cU P w H h)(mu:rq (H x))(he:e=x∨H e=some (.own x))(k:∀b u,b≠e→h.get? b=some u→h'.get? b=some u)(heo:∃u,h'.get? e=some u)
    (new:bT P w (upd H x o') h' x o'):cU P w (upd H x o') h':=fun b u q=>by
  have nown:∀c y,H c=some (.own y)→c≠x:=fun c y r z=>by subst z;rw [r] at mu;exact mu
  have ntup:∀c xs,H c=some (.tup xs)→c≠x:=fun c xs r z=>by subst z;rw [r] at mu;exact mu
  by_cases hb:b=x
  · subst hb;rw [ay] at q;cases q;exact new
  · rw [aD hb] at q
    by_cases hbe:b=e
    · have q':H b=some (.own x):=by
        rcases he with z | z
        · exact absurd (hbe.trans z) hb
        · rw [hbe];exact z
      rw [q] at q';cases q'
      obtain ⟨v,hv⟩:=heo
      exact ⟨v,by rw [hbe];exact hv⟩
    · refine (ok b u q).ic (fun c v hc r=>k c v ?_ r) (fun c r=>by rw [aD (nown c b r)];exact r) fun c xs r=>by rw [aD (ntup c xs r)];exact r
      rcases hc with rfl | hc
      · exact hbe
      · rintro rfl
        rcases he with z | z
        · exact nown c b hc z
        · rw [hc] at z;cases z;exact hb rfl
end
structure Un (fs ex:List Addr) (H H':Hp) (h h':Heap):Prop where
  keep:∀b o,h.get? b=some o→H b=none→b∉fs→b∉ex→h'.get? b=some o
  slot:∀b o,h.get? b=some o→H b=none→b∈fs→b∉ex→∃sl,h'.get? b=some {o with slots:=sl}
  free:∀b o,h.get? b=some o→H b=none→b∉ex→H' b=none
  there:∀b o,h.get? b=some o→b∉ex→∃o',h'.get? b=some o'
  tups:∀b xs,H b=some (.tup xs)→H' b=some (.tup xs)
  frzs:∀b o u,H b=some (.frz o u)→H' b=some (.frz o u)
  tbls:∀b ps,H b=some (.tbl ps)→∃more,H' b=some (.tbl (ps++more))
section
variable {fs fs' ex ex':List Addr}{H H1 H2:Hp}{h h1 h2 h':Heap}{a x e:Addr}{o:HO}
theorem Un.any (u:Un fs ex H H1 h h1){b:Addr}{ob:Obj}(q:h.get? b=some ob)(n:H b=none)(hx:b∉ex):∃sl,h1.get? b=some {ob with slots:=sl}:=by
  by_cases hb:b∈fs
  · exact u.slot b ob q n hb hx
  · exact ⟨ob.slots,u.keep b ob q n hb hx⟩
theorem Un.kept (k:∀b u,h.get? b=some u→h'.get? b=some u):Un fs ex H H h h':=
  ⟨fun b ob q _ _ _=>k b ob q,fun b ob q _ _ _=>⟨ob.slots,k b ob q⟩,fun _ _ _ n _=>n,fun b ob q _=>⟨ob,k b ob q⟩,fun _ _ q=>q,fun _ _ _ q=>q,fun _ ps q=>⟨#[],by rw [q];simp⟩⟩
theorem Un.refl:Un fs ex H H h h:=Un.kept fun _ _ q=>q
theorem Un.laid (k:∀b u,h.get? b=some u→h'.get? b=some u)(hp:h.objs.size≤a)(hn:H a=none):Un fs ex H (upd H a o) h h' where
  keep:=fun b u q _ _ _=>k b u q
  slot:=fun b u q _ _ _=>⟨u.slots,k b u q⟩
  free:=fun b u q n _=>by rw [aD (Nat.ne_of_lt (Nat.lt_of_lt_of_le (Heap.lt_size q) hp))];exact n
  there:=fun b u q _=>⟨u,k b u q⟩
  tups:=fun b xs q=>by rw [aD (cf q hn)];exact q
  frzs:=fun b u xs q=>by rw [aD (cf q hn)];exact q
  tbls:=fun b ps q=>⟨#[],by rw [aD (cf q hn),q];simp⟩
theorem Un.write (mu:rq (H x))(he:e=x∨H e=some (.own x))(k:∀b u,b≠e→h.get? b=some u→h'.get? b=some u)(heo:∃u,h'.get? e=some u):Un fs ex H (upd H x o) h h':=by
  have hx:∀b,H b=none→b≠x:=fun b n z=>by subst z;rw [n] at mu;exact mu
  have hb:∀b,H b=none→b≠e:=fun b n z=>by
    subst z
    rcases he with r | r
    · exact hx b n r
    · rw [n] at r;cases r
  have hm:∀b u,H b=some u→¬rq (some u)→b≠x:=fun b u q nm z=>by subst z;rw [q] at mu;exact nm mu
  refine ⟨fun b u q n _ _=>k b u (hb b n) q,fun b u q n _ _=>⟨u.slots,k b u (hb b n) q⟩,fun b u q n _=>by rw [aD (hx b n)];exact n,fun b u q _=>?_,
    fun b xs q=>by rw [aD (hm b _ q fun z=>z)];exact q,fun b u xs q=>by rw [aD (hm b _ q fun z=>z)];exact q,fun b ps q=>⟨#[],by rw [aD (hm b _ q fun z=>z),q];simp⟩⟩
  by_cases hbe:b=e
  · subst hbe;exact heo
  · exact ⟨u,k b u hbe q⟩
end
noncomputable def uc (h:Heap)(H:Hp):List Addr:=(List.range h.objs.size).filter fun a=>(H a).isSome
noncomputable def gW (h:Heap)(H:Hp):Heap:=PySem.W.hideAll h (uc h H)
theorem rj (h:Heap)(H:Hp):(gW h H).objs.size=h.objs.size:=PySem.W.hideAll_size _ _
theorem sV {h:Heap}{H:Hp}{b:Addr}{o:Obj}(e:h.get? b=some o)(n:H b=none):(gW h H).get? b=some o:=
  PySem.W.hideAll_get _ e fun hm=>by
    have q:(H b).isSome=true:=(List.mem_filter.mp hm).2
    rw [n] at q;simp at q
theorem uI {h:Heap}{H:Hp}{b:Addr}{o:Obj}(e:(gW h H).get? b=some o):h.get? b=some o∧H b=none:=by
  have e':h.get? b=some o:=PySem.W.of_hideAll (uc h H) e
  refine ⟨e',?_⟩
  cases q:H b with
  | none=>rfl
  | some x=>
    have hm:b∈uc h H:=List.mem_filter.mpr ⟨List.mem_range.mpr (Heap.lt_size e'),by simp [q]⟩
    have z:(gW h H).get? b=none:=PySem.W.hideAll_none (uc h H) hm
    rw [z] at e;cases e
structure Mod (K:PySem.W.Frag) (mg:Str→Option Value) (base:Heap):Prop where
  kin:K.In base
  glob:base.Ns mainGlobals mg
  blt:∃mb,base.Ns builtinsNs mb∧∀x:Str,x≠"__name__"→mb x=bootBuiltins x
  nolimit:base.NoLimit
structure Cx where
  prog:Program
  w:World
  K:PySem.W.Frag
  mg:Str→Option Value
  base:Heap
  A:Around
  N:List Str
  s₀:Shared
  H₀:Hp
  env:Env
  outer:List Env
  stack:List Env
  ex:List Addr
  fn:Str→Bool
  calm:Bool
  pn:List (Addr×Obj)
  xe:Value→Shared→Prop
noncomputable def gC (l:List Env):List Addr:=l.filterMap (·.frame)
noncomputable abbrev Cx.fs (X:Cx):List Addr:=gC X.outer
noncomputable def cv (sc:Scope)(x:Str):Prop:=sc.names.lookup x=some .local∨sc.names.lookup x=some .cell∨sc.names.lookup x=some .free
noncomputable def Loc (sc:Scope)(x:Str):Prop:=sc.names.lookup x=some .local∨sc.names.lookup x=some .cell
noncomputable def Look (env:Env)(h:Heap)(m:Str→Option Value)(x:Str)(u:Value):Prop:=
  (env.kindOf x=some .local∧m x=some u)∨((env.kindOf x=some .cell∨env.kindOf x=some .free)∧∃c,env.cells.lookup x=some c∧h.IsCell c (some u))
structure Cx.Ok (X:Cx):Prop where
  mod:Mod X.K X.mg X.base
  kind:X.env.scope.kind= .function
  glob:X.env.globals=mainGlobals
  blt:X.env.builtins=builtinsNs
  above:X.s₀.heap.objs.size≤X.env.locals
  inj:∀x y c,X.env.cells.lookup x=some c→X.env.cells.lookup y=some c→x=y
  has:∀x,(X.env.kindOf x=some .cell∨X.env.kindOf x=some .free)→∃c,X.env.cells.lookup x=some c
  cab:∀x c,X.fn x=true→X.env.cells.lookup x=some c→X.s₀.heap.objs.size≤c
  hd:X.calm=true→X.A.handled=none
  frames:X.A.frames=some X.stack
  stk:X.stack=X.outer∨(X.stack=X.env::X.outer∧X.env.frame=some X.env.locals)
  exf:∀b∈X.ex,b≠X.env.locals∧∀x c,X.env.cells.lookup x=some c→c≠b
  bs:∀b o,X.base.get? b=some o→X.s₀.heap.get? b=some o∧X.H₀ b=none
  bsz:X.base.objs.size≤X.s₀.heap.objs.size
  noex:∀b o,X.base.get? b=some o→b∉X.ex
  exfs:∀b∈X.ex,b∉X.fs
  funs:X.s₀.heap.FunFrames X.base X.outer
  frf:∀b∈X.fs,X.H₀ b=none
structure Inv (X:Cx) (pins:List (Addr×Obj)) (σ:List (Option V)) (H:Hp) (s:Shared):Prop where
  ok:X.Ok
  os:s.os=X.s₀.os
  bare:AllBare s.gens
  base:Un X.fs X.ex X.H₀ H X.s₀.heap s.heap
  loc:∃m,s.heap.Ns X.env.locals m∧∀(i:Nat) (x:Str) (v:V),X.N[i]?=some x→σ[i]?=some (some v)→cv X.env.scope x→∃u,RelV v u∧Look X.env s.heap m x u
  cell:∀x c,X.env.cells.lookup x=some c→∃v,s.heap.IsCell c v
  free:H X.env.locals=none
  freeC:∀x c,X.env.cells.lookup x=some c→H c=none
  pin:∀p∈X.pn++pins,s.heap.get? p.1=some p.2∧H p.1=none∧p.1≠X.env.locals∧p.1∉X.fs∧∀v,p.2.data≠ .cell v
  hok:cU X.prog X.w H s.heap
  len:σ.length=X.N.length
section
variable {X:Cx}{pins:List (Addr×Obj)}{σ:List (Option V)}{H H':Hp}{s:Shared}{h':Heap}
theorem Cx.Ok.Bp (ok:X.Ok){b:Addr}{o:Obj}(e:X.base.get? b=some o):b∉X.fs:=fun hb=>by
  have:=(ok.funs.mem hb).1
  rw [e] at this;cases this
theorem Inv.bs (I:Inv X pins σ H s):∀b o,X.base.get? b=some o→s.heap.get? b=some o∧H b=none:=fun b o e=>
  ⟨I.base.keep b o (I.ok.bs b o e).1 (I.ok.bs b o e).2 (I.ok.Bp e) (I.ok.noex b o e),I.base.free b o (I.ok.bs b o e).1 (I.ok.bs b o e).2 (I.ok.noex b o e)⟩
theorem Inv.bk (I:Inv X pins σ H s):∀b o,X.base.get? b=some o→s.heap.get? b=some o:=fun b o e=>(I.bs b o e).1
theorem Inv.mod (I:Inv X pins σ H s):Mod X.K X.mg X.base:=I.ok.mod
theorem Inv.eZ (I:Inv X pins σ H s):X.K.In s.heap:=I.ok.mod.kin.keeps I.bk
theorem Inv.lt (I:Inv X pins σ H s):X.env.locals < s.heap.objs.size:=let ⟨_,hn,_⟩:=I.loc;hn.lt
theorem Inv.sz (I:Inv X pins σ H s):X.s₀.heap.objs.size≤s.heap.objs.size:=Nat.le_trans I.ok.above (Nat.le_of_lt I.lt)
theorem Inv.A3 (I:Inv X pins σ H s){a:Addr}(h:s.heap.objs.size≤a):a∉X.fs:=fun hb=>by
  obtain ⟨_,o,ho,_⟩:=I.ok.funs.mem hb
  exact absurd (Nat.lt_of_lt_of_le (Heap.lt_size ho) (Nat.le_trans I.sz h)) (Nat.lt_irrefl _)
theorem Inv.cne (I:Inv X pins σ H s):∀x c,X.env.cells.lookup x=some c→c≠X.env.locals:=fun x c e z=>by
  obtain ⟨v,o,ho,hd⟩:=I.cell x c e
  obtain ⟨m,⟨o',es,ep,ho',hd',_⟩,_⟩:=I.loc
  rw [z,ho'] at ho;cases ho;rw [hd'] at hd;cases hd
theorem Inv.funs (I:Inv X pins σ H s):s.heap.FunFrames X.base X.outer:=by
  have all:∀(l:List Env),(∀b∈gC l,b∈X.fs)→X.s₀.heap.FunFrames X.base l→s.heap.FunFrames X.base l:=by
    intro l
    induction l with
    | nil=>intro _ _;trivial
    | cons env r ih=>
      intro hs hl
      obtain ⟨hk,⟨L,o,hf,hn,ho,hd⟩,hr⟩:=hl
      have hL:L∈X.fs:=hs L (by unfold gC;rw [List.filterMap_cons,hf];exact List.mem_cons_self)
      obtain ⟨sl,e⟩:=I.base.slot L o ho (I.ok.frf L hL) hL fun z=>I.ok.exfs L z hL
      exact ⟨hk,⟨L,_,hf,hn,e,hd⟩,ih (fun b hb=>hs b (by unfold gC;rw [List.filterMap_cons,hf];exact List.mem_cons_of_mem _ hb)) hr⟩
  exact all X.outer (fun _ hb=>hb) I.ok.funs
theorem Inv.stack (I:Inv X pins σ H s):s.heap.FunFrames X.base X.stack:=by
  rcases I.ok.stk with e | ⟨e,hf⟩
  · rw [e];exact I.funs
  · rw [e]
    obtain ⟨m,hn,_⟩:=I.loc
    refine .cons (by rw [I.ok.kind];decide) hf hn ?_ I.funs
    exact Heap.get?_none_of_le (Nat.le_trans I.ok.bsz I.ok.above)
theorem Inv.mQ (I:Inv X pins σ H s):∀b∈gC X.stack,b∈X.env.locals::X.fs:=fun b hb=>by
  rcases I.ok.stk with e | ⟨e,hf⟩
  · rw [e] at hb;exact List.mem_cons_of_mem _ hb
  · rw [e] at hb
    unfold gC at hb
    rw [List.filterMap_cons,hf] at hb
    exact hb
theorem Inv.n5 (I:Inv X pins σ H s):∀b∈gC X.stack,H b=none:=fun b hb=>by
  rcases List.mem_cons.mp (I.mQ b hb) with e | hb
  · rw [e];exact I.free
  · obtain ⟨_,o,ho,_⟩:=I.ok.funs.mem hb
    exact I.base.free b o ho (I.ok.frf b hb) fun z=>I.ok.exfs b z hb
theorem Inv.step {g':Array GenState}{t':Nat}{d':Drawn}{ch:List Addr}(I:Inv X pins σ H s)
    (hch:∀b∈ch,(b∈X.ex∨X.s₀.heap.objs.size≤b)∧b≠X.env.locals∧(∀x c,X.env.cells.lookup x=some c→c≠b)∧∀p∈X.pn++pins,p.1≠b)
    (keep:∀b o,b≠X.env.locals→b∉X.fs→b∉ch→s.heap.get? b=some o→H b=none→h'.get? b=some o)
    (slot:∀b o,b≠X.env.locals→b∈X.fs→b∉ch→s.heap.get? b=some o→H b=none→∃sl,h'.get? b=some {o with slots:=sl}) (free:∀b o,b∉ch→s.heap.get? b=some o→H b=none→H' b=none)
    (there:∀b o,b∉ch→s.heap.get? b=some o→∃o',h'.get? b=some o')
    (tups:∀b xs,H b=some (.tup xs)→H' b=some (.tup xs)) (frzs:∀b o u,H b=some (.frz o u)→H' b=some (.frz o u)) (tbls:∀b ps,H b=some (.tbl ps)→∃more,H' b=some (.tbl (ps++more)))
    (ns:∀m,s.heap.Ns X.env.locals m→h'.Ns X.env.locals m) (hok:cU X.prog X.w H' h') (hg:AllBare g'):
    Inv X pins σ H' {s with heap:=h',gens:=g',drawn:=d',toks:=t'}:=by
  have neL:∀b o,X.s₀.heap.get? b=some o→b≠X.env.locals:=fun b o e=>Nat.ne_of_lt (Nat.lt_of_lt_of_le (Heap.lt_size e) I.ok.above)
  have neC:∀b o,X.s₀.heap.get? b=some o→b∉X.ex→b∉ch:=fun b o e hx hb=>by
    rcases (hch b hb).1 with z | z
    · exact hx z
    · exact absurd (Nat.lt_of_lt_of_le (Heap.lt_size e) z) (Nat.lt_irrefl _)
  have cellK:∀x c,X.env.cells.lookup x=some c→∀v,s.heap.IsCell c v→h'.IsCell c v:=fun x c e v ⟨o,ho,hd⟩=>by
    have nch:c∉ch:=fun z=>(hch c z).2.2.1 x c e rfl
    by_cases hc:c∈X.fs
    · obtain ⟨sl,q⟩:=slot c o (I.cne x c e) hc nch ho (I.freeC x c e)
      exact ⟨_,q,hd⟩
    · exact ⟨o,keep c o (I.cne x c e) hc nch ho (I.freeC x c e),hd⟩
  refine ⟨I.ok,I.os,hg,⟨fun b o e n hb hx=>?_,fun b o e n hb hx=>?_,fun b o e n hx=>?_,fun b o e hx=>?_,fun b xs e=>tups b xs (I.base.tups b xs e),fun b o xs e=>frzs b o xs (I.base.frzs b o xs e),fun b ps e=>?_⟩,?_,fun x c e=>?_,?_,fun x c e=>?_,fun p hp=>?_,hok,I.len⟩
  · exact keep b o (neL b o e) hb (neC b o e hx) (I.base.keep b o e n hb hx) (I.base.free b o e n hx)
  · obtain ⟨sl,e1⟩:=I.base.slot b o e n hb hx
    obtain ⟨sl',e2⟩:=slot b _ (neL b o e) hb (neC b o e hx) e1 (I.base.free b o e n hx)
    exact ⟨sl',e2⟩
  · obtain ⟨o',e1⟩:=I.base.there b o e hx
    exact free b o' (neC b o e hx) e1 (I.base.free b o e n hx)
  · obtain ⟨o',e1⟩:=I.base.there b o e hx
    exact there b o' (neC b o e hx) e1
  · obtain ⟨m1,e1⟩:=I.base.tbls b ps e
    obtain ⟨m2,e2⟩:=tbls b _ e1
    exact ⟨m1++m2,by rw [e2,Array.append_assoc]⟩
  · obtain ⟨m,hn,hl⟩:=I.loc
    refine ⟨m,ns m hn,fun i x v e1 e2 e3=>?_⟩
    obtain ⟨u,r,l⟩:=hl i x v e1 e2 e3
    refine ⟨u,r,?_⟩
    rcases l with l | ⟨k,c,e,z⟩
    · exact .inl l
    · exact .inr ⟨k,c,e,cellK x c e _ z⟩
  · obtain ⟨v,z⟩:=I.cell x c e
    exact ⟨v,cellK x c e v z⟩
  · obtain ⟨m,⟨o,_,_,ho,_⟩,_⟩:=I.loc
    exact free _ o (fun z=>(hch _ z).2.1 rfl) ho I.free
  · obtain ⟨v,o,ho,hd⟩:=I.cell x c e
    exact free c o (fun z=>(hch c z).2.2.1 x c e rfl) ho (I.freeC x c e)
  · obtain ⟨e,n,ne,nf,d⟩:=I.pin p hp
    have nch:p.1∉ch:=fun z=>(hch p.1 z).2.2.2 p hp rfl
    exact ⟨keep p.1 p.2 ne nf nch e n,free p.1 p.2 nch e n,ne,nf,d⟩
theorem Inv.un {t':Nat}(I:Inv X pins σ H s)(u:Un X.fs [] H H' s.heap h')(hok:cU X.prog X.w H' h'):Inv X pins σ H' {s with heap:=h',toks:=t'}:=by
  obtain ⟨m,⟨o,es,ep,ho,r⟩,_⟩:=id I.loc
  obtain ⟨sl,hL⟩:=u.any ho I.free (by simp)
  exact I.step (g':=s.gens) (d':=s.drawn) (ch:=[]) (fun _ z=>nomatch z) (fun b o _ hb _ e n=>u.keep b o e n hb (by simp)) (fun b o _ hb _ e n=>u.slot b o e n hb (by simp)) (fun b o _ e n=>u.free b o e n (by simp)) (fun b o _ e=>u.there b o e (by simp)) u.tups u.frzs u.tbls (fun m' hm=>by
    obtain ⟨o',es',ep',ho',r'⟩:=hm
    rw [ho] at ho';cases ho'
    exact ⟨_,es',ep',hL,r'⟩) hok I.bare
theorem Inv.call {g':Array GenState}{t':Nat}{d':Drawn}{ch:List Addr}(I:Inv X pins σ H s)(u:Un (gC X.stack) ch H H' s.heap h')(hok:cU X.prog X.w H' h')(hg:AllBare g')
    (hch:∀b∈ch,(b∈X.ex∨X.s₀.heap.objs.size≤b)∧b≠X.env.locals∧(∀x c,X.env.cells.lookup x=some c→c≠b)∧∀p∈X.pn++pins,p.1≠b):
    Inv X pins σ H' {s with heap:=h',gens:=g',drawn:=d',toks:=t'}:=by
  obtain ⟨m,⟨o,es,ep,ho,r⟩,_⟩:=id I.loc
  obtain ⟨sl,hL⟩:=u.any ho I.free fun z=>(hch _ z).2.1 rfl
  exact I.step (ch:=ch) hch (fun b o hL hb hc e n=>u.keep b o e n (fun z=>(List.mem_cons.mp (I.mQ b z)).elim hL hb) hc) (fun b o _ _ hc e n=>u.any e n hc) (fun b o hc e n=>u.free b o e n hc) (fun b o hc e=>u.there b o e hc) u.tups u.frzs u.tbls (fun m' hm=>by
    obtain ⟨o',es',ep',ho',r'⟩:=hm
    rw [ho] at ho';cases ho'
    exact ⟨_,es',ep',hL,r'⟩) hok hg
theorem Inv.turned {t':Nat}{it:Addr}(I:Inv X pins σ H s)(k:∀b o,b≠it→s.heap.get? b=some o→h'.get? b=some o)(hn:H it=none)(hL:it≠X.env.locals)
    (h1:it∈X.ex∨X.s₀.heap.objs.size≤it) (h2:∀x c,X.env.cells.lookup x=some c→c≠it) (h3:∀p∈X.pn++pins,p.1≠it):Inv X pins σ H {s with heap:=h',toks:=t'}:=by
  have nit:∀b u,H b=some u→b≠it:=fun b u e z=>by rw [z,hn] at e;cases e
  refine I.step (g':=s.gens) (d':=s.drawn) (ch:=[it]) (fun b hb=>?_) (fun b o _ _ hc e _=>k b o (fun z=>hc (by simp [z])) e) (fun b o _ _ hc e _=>⟨o.slots,k b o (fun z=>hc (by simp [z])) e⟩) (fun _ _ _ _ n=>n)
    (fun b o hc e=>⟨o,k b o (fun z=>hc (by simp [z])) e⟩) (fun _ _ e=>e) (fun _ _ _ e=>e) (fun b ps e=>⟨#[],by rw [e];simp⟩) (fun m hm=>?_) (fun b u e=>?_) I.bare
  · have e:b=it:=by simpa using hb
    subst e
    exact ⟨h1,hL,h2,h3⟩
  · obtain ⟨o,es,ep,ho,r⟩:=hm
    exact ⟨o,es,ep,k _ o (Ne.symm hL) ho,r⟩
  · refine (I.hok b u e).ic (fun c v hc q=>k c v ?_ q) (fun _ q=>q) fun _ _ q=>q
    rcases hc with z | z
    · rw [z];exact nit b u e
    · exact nit c _ z
theorem Inv.tok (I:Inv X pins σ H s)(t:Nat):Inv X pins σ H {s with toks:=t}:=I.un (h':=s.heap) (t':=t) Un.refl I.hok
theorem Inv.kept {t':Nat}(I:Inv X pins σ H s)(k:∀b u,s.heap.get? b=some u→h'.get? b=some u):Inv X pins σ H {s with heap:=h',toks:=t'}:=I.un (Un.kept k) (I.hok.kept k)
theorem Inv.laid {a:Addr}{o:HO}{t':Nat}(I:Inv X pins σ H s)(k:∀b u,s.heap.get? b=some u→h'.get? b=some u)(hp:s.heap.objs.size≤a)(new:bT X.prog X.w (upd H a o) h' a o):
    Inv X pins σ (upd H a o) {s with heap:=h',toks:=t'}:=I.un (Un.laid k hp (I.hok.fresh hp)) (I.hok.laid k hp new)
theorem Inv.write {x e:Addr}{o:HO}{t':Nat}(I:Inv X pins σ H s)(mu:rq (H x))(he:e=x∨H e=some (.own x))(k:∀b u,b≠e→s.heap.get? b=some u→h'.get? b=some u)(heo:∃u,h'.get? e=some u)
    (new:bT X.prog X.w (upd H x o) h' x o):Inv X pins σ (upd H x o) {s with heap:=h',toks:=t'}:=I.un (Un.write mu he k heo) (I.hok.write mu he k heo new)
theorem Inv.fA {pins':List (Addr×Obj)}(I:Inv X pins σ H s)(h:∀p∈pins',s.heap.get? p.1=some p.2∧H p.1=none∧p.1≠X.env.locals∧p.1∉X.fs∧∀v,p.2.data≠ .cell v):Inv X pins' σ H s:=
  ⟨I.ok,I.os,I.bare,I.base,I.loc,I.cell,I.free,I.freeC,fun p hp=>(List.mem_append.mp hp).elim (fun z=>I.pin p (List.mem_append_left _ z)) (h p),I.hok,I.len⟩
theorem mr {N:List Str}(hN:N.Nodup){i j:Nat}{x:Str}(a:N[i]?=some x)(b:N[j]?=some x):i=j:=by
  obtain ⟨h1,e1⟩:=List.getElem?_eq_some_iff.mp a
  obtain ⟨h2,e2⟩:=List.getElem?_eq_some_iff.mp b
  exact (List.getElem_inj hN).mp (e1.trans e2.symm)
theorem lz {M:Model}{A:Around}{E:Value→Shared→Prop}{i:Nat}{x:Str}{v:V}{u:Value}{Q:Unit→Shared→Prop}(I:Inv X pins σ H s)(hN:X.N.Nodup)(hi:X.N[i]?=some x)(hx:Loc X.env.scope x)(r:RelV v u)
    (h:∀s',Inv X pins (σ.set i (some v)) H s'→(∃a,Heap.SameBut a s.heap s'.heap∧(a=X.env.locals∨X.env.cells.lookup x=some a))→Q () s') (hf:X.fn x=true∨X.env.scope.names.lookup x=some .local:=by first | exact .inl rfl | exact .inr rfl | assumption):wpAny M A (storeName X.env x u) Q E s:=by
  obtain ⟨m,hn,hl⟩:=id I.loc
  have hcls:(X.env.scope.kind== .class ||(X.env.scope.kind== .module&&X.env.locals != X.env.globals))=false:=by rw [I.ok.kind];rfl
  have hiσ:i < σ.length:=by rw [I.len];exact (List.getElem?_eq_some_iff.mp hi).1
  have cne:=I.cne
  have tracked:∀{a:Addr} {h':Heap},(∃o,s.heap.get? a=some o∧H a=none)→Heap.SameBut a s.heap h'→cU X.prog X.w H h':=fun {a h'} ha hs b ob e=>by
    obtain ⟨_,_,hfree⟩:=ha
    refine (I.hok b ob e).ic (fun c w' hc q=>(hs.2 c ?_).trans q) (fun _ q=>q) fun _ _ q=>q
    rintro rfl
    rcases hc with rfl | hc
    · rw [hfree] at e;cases e
    · rw [hfree] at hc;cases hc
  rcases hx with hk | hk
  · refine wpAny_storeName_local hk hn (fun h' hn' hs=>?_) hcls
    obtain ⟨oL,_,_,hoL,_⟩:=id hn
    refine h _ ⟨I.ok,I.os,I.bare,⟨fun b o e n hb hx=>?_,fun b o e n hb hx=>?_,I.base.free,fun b o e hx=>?_,I.base.tups,I.base.frzs,I.base.tbls⟩,⟨_,hn',fun j y v' e1 e2 e3=>?_⟩,fun y c e=>?_,I.free,I.freeC,fun p hp=>?_,tracked ⟨oL,hoL,I.free⟩ hs,by simpa using I.len⟩ ⟨_,hs,.inl rfl⟩
    · exact (hs.2 b (Nat.ne_of_lt (Nat.lt_of_lt_of_le (Heap.lt_size e) I.ok.above))).trans (I.base.keep b o e n hb hx)
    · obtain ⟨sl,e1⟩:=I.base.slot b o e n hb hx
      exact ⟨sl,(hs.2 b (Nat.ne_of_lt (Nat.lt_of_lt_of_le (Heap.lt_size e) I.ok.above))).trans e1⟩
    · obtain ⟨o',e1⟩:=I.base.there b o e hx
      exact ⟨o',(hs.2 b (Nat.ne_of_lt (Nat.lt_of_lt_of_le (Heap.lt_size e) I.ok.above))).trans e1⟩
    · by_cases hj:j=i
      · subst hj
        rw [hi] at e1;cases e1
        rw [List.getElem?_set_self hiσ] at e2
        cases e2
        exact ⟨u,r,.inl ⟨hk,by simp⟩⟩
      · rw [List.getElem?_set_ne (Ne.symm hj)] at e2
        obtain ⟨u',r',q⟩:=hl j y v' e1 e2 e3
        refine ⟨u',r',?_⟩
        rcases q with ⟨k,e⟩ | ⟨k,c,e,z⟩
        · refine .inl ⟨k,?_⟩
          have:y≠x:=fun e=>hj (mr hN e1 (e▸hi))
          simp [this,e]
        · exact .inr ⟨k,c,e,z.sameBut hs (cne y c e)⟩
    · obtain ⟨w',z⟩:=I.cell y c e
      exact ⟨w',z.sameBut hs (cne y c e)⟩
    · obtain ⟨e,n,ne,nf,d⟩:=I.pin p hp
      exact ⟨(hs.2 p.1 ne).trans e,n,ne,nf,d⟩
  · have hfn:X.fn x=true:=by
      rcases hf with z | z
      · exact z
      · rw [z] at hk;cases hk
    obtain ⟨c,hc⟩:=I.ok.has x (.inl hk)
    obtain ⟨w',z⟩:=I.cell x c hc
    refine wpAny_storeName_cell I.ok.kind hk hc z (fun h' hc' hs=>?_)
    obtain ⟨oc,hoc,hocd⟩:=id z
    refine h {s with heap:=h'} ⟨I.ok,I.os,I.bare,⟨fun b o e n hb hx=>?_,fun b o e n hb hx=>?_,I.base.free,fun b o e hx=>?_,I.base.tups,I.base.frzs,I.base.tbls⟩,⟨m,hn.sameBut hs (Ne.symm (cne x c hc)),fun j y v' e1 e2 e3=>?_⟩,fun y c' e=>?_,I.free,I.freeC,fun p hp=>?_,tracked ⟨oc,hoc,I.freeC x c hc⟩ hs,by simpa using I.len⟩ ⟨c,hs,.inr hc⟩
    · exact (hs.2 b (Nat.ne_of_lt (Nat.lt_of_lt_of_le (Heap.lt_size e) (I.ok.cab x c hfn hc)))).trans (I.base.keep b o e n hb hx)
    · obtain ⟨sl,e1⟩:=I.base.slot b o e n hb hx
      exact ⟨sl,(hs.2 b (Nat.ne_of_lt (Nat.lt_of_lt_of_le (Heap.lt_size e) (I.ok.cab x c hfn hc)))).trans e1⟩
    · obtain ⟨o',e1⟩:=I.base.there b o e hx
      exact ⟨o',(hs.2 b (Nat.ne_of_lt (Nat.lt_of_lt_of_le (Heap.lt_size e) (I.ok.cab x c hfn hc)))).trans e1⟩
    · by_cases hj:j=i
      · subst hj
        rw [hi] at e1;cases e1
        rw [List.getElem?_set_self hiσ] at e2
        cases e2
        exact ⟨u,r,.inr ⟨.inl hk,c,hc,hc'⟩⟩
      · rw [List.getElem?_set_ne (Ne.symm hj)] at e2
        obtain ⟨u',r',q⟩:=hl j y v' e1 e2 e3
        refine ⟨u',r',?_⟩
        rcases q with q | ⟨k,c',e,z'⟩
        · exact .inl q
        · refine .inr ⟨k,c',e,z'.sameBut hs ?_⟩
          rintro rfl
          exact hj (mr hN e1 (I.ok.inj _ _ _ e hc▸hi))
    · by_cases hcc:c'=c
      · subst hcc;exact ⟨_,hc'⟩
      · obtain ⟨w2,z2⟩:=I.cell y c' e
        exact ⟨w2,z2.sameBut hs hcc⟩
    · obtain ⟨e,n,ne,nf,d⟩:=I.pin p hp
      refine ⟨(hs.2 p.1 ?_).trans e,n,ne,nf,d⟩
      intro q
      rw [q,hoc] at e
      have q':oc=p.2:=Option.some.inj e
      exact d w' (by rw [← q'];exact hocd)
theorem i8 {M:Model}{A:Around}{E:Value→Shared→Prop}{i:Nat}{x:Str}{v:V}{u:Value}{Q:Unit→Shared→Prop}(I:Inv X pins σ H s)(hN:X.N.Nodup)(hi:X.N[i]?=some x)(hx:Loc X.env.scope x)(r:RelV v u)
    (h:∀s',Inv X pins (σ.set i (some v)) H s'→Q () s') (hf:X.fn x=true∨X.env.scope.names.lookup x=some .local:=by first | exact .inl rfl | exact .inr rfl | assumption):wpAny M A (storeName X.env x u) Q E s:=
  lz I hN hi hx r (fun s' I' _=>h s' I') hf
theorem Inv.zX {s':Shared}{ch:List Addr}(I:Inv X pins σ H s)(ho:s'.os=s.os)(u:Un (gC X.stack) ch H H' s.heap s'.heap)(hok:cU X.prog X.w H' s'.heap)(hg:AllBare s'.gens)
    (hch:∀b∈ch,(b∈X.ex∨X.s₀.heap.objs.size≤b)∧b≠X.env.locals∧(∀x c,X.env.cells.lookup x=some c→c≠b)∧∀p∈X.pn++pins,p.1≠b):Inv X pins σ H' s':=by
  obtain ⟨h',g',d',t',o'⟩:=s'
  have e:o'=s.os:=ho
  subst e
  exact I.call (g':=g') (t':=t') (d':=d') u hok hg hch
end
noncomputable abbrev XK:=Value→Option Addr→Hp→Prop
noncomputable abbrev St:=List (Option V)
noncomputable abbrev VK:=V→Hp→Prop
noncomputable abbrev TE:=St→Hp→VK→Prop
noncomputable abbrev TT:=St→Hp→(Bool→Hp→Prop)→Prop
noncomputable abbrev TA:=St→Hp→(List V→Hp→Prop)→Prop
structure Ends where
  nx:St→Hp→Prop
  rt:VK
  bk:St→Hp→Prop:=fun _ _=>False
  ct:St→Hp→Prop:=fun _ _=>False
noncomputable abbrev TS:=Ends→St→Hp→Prop
noncomputable def EP (X:Cx)(pins:List (Addr×Obj))(σ:St)(Q:VK)(u:Value)(s':Shared):Prop:=∃v H',Inv X pins σ H' s'∧RelV v u∧Q v H'
noncomputable def TP (X:Cx)(pins:List (Addr×Obj))(σ:St)(Q:Bool→Hp→Prop)(b:Bool)(s':Shared):Prop:=∃H',Inv X pins σ H' s'∧Q b H'
noncomputable def AP (X:Cx)(pins:List (Addr×Obj))(σ:St)(Q:List V→Hp→Prop)(us:List Value)(s':Shared):Prop:=∃vs H',Inv X pins σ H' s'∧Vals vs us∧Q vs H'
noncomputable def SP (X:Cx)(pins:List (Addr×Obj))(D:Ends)(f:Flow)(s':Shared):Prop:=
  match f with
  | .next=>∃σ' H',Inv X pins σ' H' s'∧D.nx σ' H'
  | .brk=>∃σ' H',Inv X pins σ' H' s'∧D.bk σ' H'
  | .cont=>∃σ' H',Inv X pins σ' H' s'∧D.ct σ' H'
  | .ret u=>∃v σ' H',Inv X pins σ' H' s'∧RelV v u∧D.rt v H'
noncomputable def PE (X:Cx)(e:Expr)(t:TE):Prop:=
  ∀(pins:List (Addr×Obj)) (s:Shared) (σ:St) (H:Hp) (Q:VK),Inv X pins σ H s→t σ H Q→wpAny (model X.prog X.w) X.A (eval e X.env) (EP X pins σ Q) X.xe s
noncomputable def PT (X:Cx)(e:Expr)(t:TT):Prop:=
  ∀(pins:List (Addr×Obj)) (s:Shared) (σ:St) (H:Hp) (Q:Bool→Hp→Prop),Inv X pins σ H s→t σ H Q→wpAny (model X.prog X.w) X.A (isTrue e X.env (eval e X.env)) (TP X pins σ Q) X.xe s
noncomputable def PW (X:Cx)(e:Expr)(t:TT):Prop:=
  ∀(whole:Sem Value) (pins:List (Addr×Obj)) (s:Shared) (σ:St) (H:Hp) (Q:Bool→Hp→Prop),Inv X pins σ H s→t σ H Q→wpAny (model X.prog X.w) X.A (isTrue e X.env whole) (TP X pins σ Q) X.xe s
theorem PW.pt {X:Cx}{e:Expr}{t:TT}(h:PW X e t):PT X e t:=h _
noncomputable def PA (X:Cx)(es:List Expr)(t:TA):Prop:=
  ∀(pos:Pos) (pins:List (Addr×Obj)) (s:Shared) (σ:St) (H:Hp) (Q:List V→Hp→Prop),Inv X pins σ H s→t σ H Q→wpAny (model X.prog X.w) X.A (spliced (backTo pos (starEach es X.env))) (AP X pins σ Q) X.xe s
noncomputable def PS (X:Cx)(st:Stmt)(t:TS):Prop:=
  ∀(pins:List (Addr×Obj)) (s:Shared) (σ:St) (H:Hp) (D:Ends),Inv X pins σ H s→t D σ H→wpAny (model X.prog X.w) X.A (exec st X.env) (SP X pins D) X.xe s
noncomputable def fJ (X:Cx)(st:List Stmt)(t:TS):Prop:=
  ∀(pins:List (Addr×Obj)) (s:Shared) (σ:St) (H:Hp) (D:Ends),Inv X pins σ H s→t D σ H→wpAny (model X.prog X.w) X.A (execs st X.env) (SP X pins D) X.xe s
theorem aM {α:Type}{t:Sem α}{Q Q':α→Shared→Prop}{M:Model}{A:Around}{E:Value→Shared→Prop}{s:Shared}(h:wpAny M A t Q E s)(hQ:∀a s,Q a s→Q' a s):wpAny M A t Q' E s:=wpAny_mono h hQ fun _ _ x=>x
section
variable {X:Cx}
noncomputable def AY (i:Nat):TE:=fun σ H Q=>∃v,σ[i]?=some (some v)∧Q v H
noncomputable def tC (v:V):TE:=fun _ H Q=>Q v H
theorem a9 {i:Nat}{x:Str}{pos:Pos}(hN:X.N[i]?=some x)(hv:cv X.env.scope x)(hd:autoParam ((x==("__debug__":Str))=false) Fc.aw)(hcd:autoParam ((x==("__classdict__":Str))=false) Fc.aw):PE X (.Name x pos) (AY i):=by
  intro pins s σ H Q I h
  obtain ⟨v,e,h⟩:=h
  obtain ⟨m,hn,hl⟩:=I.loc
  obtain ⟨u,r,l⟩:=hl i x v hN e hv
  have fin:EP X pins σ Q u s:=⟨v,H,I,r,h⟩
  rcases l with ⟨hk,hm⟩ | ⟨hk,c,hc,hcell⟩
  · exact wpAny_Name (wpAny_loadName_local I.ok.kind hk hn hm fin) hd
  · rcases hk with hk | hk
    · exact wpAny_Name (wpAny_loadName_cell I.ok.kind hk hc hcell fin) hd
    · exact wpAny_Name (wpAny_loadName_free I.ok.kind hk hc hcell fin hcd) hd
theorem dm {i j pos}:PE X (.Constant (.int i) j pos) (tC (.int i)):=fun _ _ _ H _ I h=>wpAny_Constant_int ⟨.int i,H,I.tok _,⟨_,rfl⟩,h⟩
theorem oN {b j pos}:PE X (.Constant (.bool b) j pos) (tC (.bl b)):=fun _ _ _ H _ I h=>Constant_bool ⟨.bl b,H,I,rfl,h⟩
noncomputable def Gl (X:Cx)(x:Str):Prop:=X.env.kindOf x=some .globalImplicit
theorem nP {E:Value→Shared→Prop}{pins:List (Addr×Obj)}{s:Shared}{σ:St}{H:Hp}{x:Str}{u:Value}{pos:Pos}{Q:Value→Shared→Prop}(I:Inv X pins σ H s)(hg:Gl X x)(hm:X.mg x=some u)(h:Q u s)
    (hd:autoParam ((x==("__debug__":Str))=false) Fc.aw):wpAny (model X.prog X.w) X.A (eval (.Name x pos) X.env) Q E s:=
  Calls.Name_function_global I.ok.kind hg (Calls.loadGlobal_global (by rw [I.ok.glob];exact I.mod.glob.keeps I.bk) hm h) hd
theorem gD {E:Value→Shared→Prop}{pins:List (Addr×Obj)}{s:Shared}{σ:St}{H:Hp}{x:Str}{u:Value}{pos:Pos}{Q:Value→Shared→Prop}(I:Inv X pins σ H s)(hg:Gl X x)(hm:X.mg x=none)(hv:bootBuiltins x=some u)(h:Q u s)
    (hn:autoParam (x≠"__name__") Fc.aw) (hd:autoParam ((x==("__debug__":Str))=false) Fc.aw):wpAny (model X.prog X.w) X.A (eval (.Name x pos) X.env) Q E s:=by
  obtain ⟨mb,h1,h2⟩:=I.mod.blt
  exact Calls.Name_function_global I.ok.kind hg (Calls.loadGlobal_builtin (by rw [I.ok.glob];exact I.mod.glob.keeps I.bk) hm (by rw [I.ok.blt];exact h1.keeps I.bk) ((h2 x hn).trans hv) h) hd
theorem nQ {x:Str}{v:V}{u:Value}{pos:Pos}(hg:Gl X x)(hm:X.mg x=some u)(r:RelV v u)(hd:autoParam ((x==("__debug__":Str))=false) Fc.aw):PE X (.Name x pos) (tC v):=
  fun _ _ _ H _ I h=>nP I hg hm ⟨v,H,I,r,h⟩ hd
theorem uO {x:Str}{v:V}{u:Value}{pos:Pos}(hg:Gl X x)(hm:X.mg x=none)(hv:bootBuiltins x=some u)(r:RelV v u)(hn:autoParam (x≠"__name__") Fc.aw)(hd:autoParam ((x==("__debug__":Str))=false) Fc.aw):PE X (.Name x pos) (tC v):=
  fun _ _ _ H _ I h=>gD I hg hm hv ⟨v,H,I,r,h⟩ hn hd
variable {a b:Expr}{ta tb:TE}{pos:Pos}
noncomputable def PC (X:Cx)(op:CmpOp)(a b:Expr)(t:TE):Prop:=
  ∀ (pins:List (Addr×Obj)) (s:Shared) (σ:St) (H:Hp) (Q:VK),Inv X pins σ H s→t σ H Q→
    wpAny (model X.prog X.w) X.A (eval a X.env) (fun v s₁=>wpAny (model X.prog X.w) X.A (eval b X.env) (fun u s₂=>wpAny (model X.prog X.w) X.A (compareOp op v u) (EP X pins σ Q) X.xe s₂) X.xe s₁) X.xe s
noncomputable def tB (t:TE):TT:=fun σ H Q=>t σ H fun x H1=>∃c,x= .bl c∧Q c H1
theorem rm {op:CmpOp}{t:TE}(h:PC X op a b t)(h1:behindInMarks op b=false:=by first | exact nobehind _ (by decide) (by decide) | rfl):PE X (.Compare a [op] [b] pos) t:=fun pins s σ H Q I hw=>wpAny_Compare1 (h pins s σ H Q I hw) h1
theorem qo {op:CmpOp}{t:TE}(h:PC X op a b t)(h1:behindInMarks op b=false:=by first | exact nobehind _ (by decide) (by decide) | rfl):PT X (.Compare a [op] [b] pos) (tB t):=by
  intro pins s σ H Q I hw
  refine wpAny_isTrue_Compare1 (aM (h pins s σ H _ I hw) fun v s1 h1=>aM h1 fun u s2 h2=>aM h2 fun c s3 ⟨x,H1,I1,r1,q1⟩=>?_) h1
  obtain ⟨d,rfl,q⟩:=q1
  cases r1
  exact wpAny_truthy_bool ⟨H1,I1,q⟩
theorem yj {e:Expr}{t:TE}(h:PE X e t)(he:autoParam (∀whole,isTrue e X.env whole=(do let v ← whole;standAt e.pos;holding [v] (truthy v))) Fc.cJ):PT X e (tB t):=by
  intro pins s σ H Q I hw
  refine isTrue_plain (aM (h pins s σ H _ I hw) fun v s1 ⟨x,H1,I1,r1,q1⟩=>?_) (he _)
  obtain ⟨d,rfl,q⟩:=q1
  cases r1
  exact wpAny_truthy_bool ⟨H1,I1,q⟩
variable {tA tB':TT}{rest:List Expr}
noncomputable def A2 (t u:TT):TT:=fun σ H Q=>t σ H fun c H1=>if c=true then u σ H1 Q else Q false H1
noncomputable def tOr (t u:TT):TT:=fun σ H Q=>t σ H fun c H1=>if c=true then Q true H1 else u σ H1 Q
noncomputable def AV (t:TT):TT:=fun σ H Q=>t σ H fun c H1=>Q (!c) H1
theorem nS (ha:PT X a tA):PW X (.BoolOp .And [a] pos) tA:=by
  intro wh pins s σ H Q I h
  refine isTrue_and (aM (ha pins s σ H Q I h) fun c s1 e=>?_)
  cases c with
  | true=>exact isTrue_and_nil e
  | false=>exact e
theorem xt (ha:PT X a tA):PW X (.BoolOp .Or [a] pos) tA:=by
  intro wh pins s σ H Q I h
  refine isTrue_or (aM (ha pins s σ H Q I h) fun c s1 e=>?_)
  cases c with
  | false=>exact isTrue_or_nil e
  | true=>exact e
theorem qq (ha:PT X a tA)(hb:PW X (.BoolOp .And (b::rest) pos) tB'):PW X (.BoolOp .And (a::b::rest) pos) (A2 tA tB'):=by
  intro wh pins s σ H Q I h
  refine isTrue_and (aM (ha pins s σ H _ I h) fun c s1 ⟨H1,I1,q1⟩=>?_)
  cases c with
  | true=>exact hb wh pins s1 σ H1 Q I1 q1
  | false=>exact ⟨H1,I1,q1⟩
theorem zT (ha:PT X a tA)(hb:PW X (.BoolOp .Or (b::rest) pos) tB'):PW X (.BoolOp .Or (a::b::rest) pos) (tOr tA tB'):=by
  intro wh pins s σ H Q I h
  refine isTrue_or (aM (ha pins s σ H _ I h) fun c s1 ⟨H1,I1,q1⟩=>?_)
  cases c with
  | true=>exact ⟨H1,I1,q1⟩
  | false=>exact hb wh pins s1 σ H1 Q I1 q1
theorem yA (ha:PT X a tA):PT X (.UnaryOp .Not a pos) (AV tA):=by
  intro pins s σ H Q I h
  exact isTrue_not (ha pins s σ H (fun c H1=>Q (!c) H1) I h)
noncomputable def zK (ta tb:TE):TE:=fun σ H Q=>ta σ H fun x H1=>∃c,x= .bl c∧if c=true then tb σ H1 Q else Q (.bl false) H1
noncomputable def AU (ta tb:TE):TE:=fun σ H Q=>ta σ H fun x H1=>∃c,x= .bl c∧if c=true then Q (.bl true) H1 else tb σ H1 Q
noncomputable def zN (ta:TE):TE:=fun σ H Q=>ta σ H fun x H1=>∃c,x= .bl c∧Q (.bl (!c)) H1
theorem wx {op}{t:TE}(h:PE X a t):PE X (.BoolOp op [a] pos) t:=fun pins s σ H Q I hw=>BoolOp_one (h pins s σ H Q I hw)
theorem xv (ha:PE X a ta)(hb:PE X (.BoolOp .And (b::rest) pos) tb):PE X (.BoolOp .And (a::b::rest) pos) (zK ta tb):=by
  intro pins s σ H Q I h
  refine BoolOp_and (aM (ha pins s σ H _ I h) fun v s1 ⟨x,H1,I1,r1,q1⟩=>?_)
  obtain ⟨c,rfl,q1⟩:=q1
  cases r1
  refine wpAny_truthy_bool ?_
  cases c with
  | true=>exact hb pins s1 σ H1 Q I1 q1
  | false=>exact ⟨.bl false,H1,I1,rfl,q1⟩
theorem yH (ha:PE X a ta)(hb:PE X (.BoolOp .Or (b::rest) pos) tb):PE X (.BoolOp .Or (a::b::rest) pos) (AU ta tb):=by
  intro pins s σ H Q I h
  refine BoolOp_or (aM (ha pins s σ H _ I h) fun v s1 ⟨x,H1,I1,r1,q1⟩=>?_)
  obtain ⟨c,rfl,q1⟩:=q1
  cases r1
  refine wpAny_truthy_bool ?_
  cases c with
  | false=>exact hb pins s1 σ H1 Q I1 q1
  | true=>exact ⟨.bl true,H1,I1,rfl,q1⟩
theorem wR (ha:PE X a ta):PE X (.UnaryOp .Not a pos) (zN ta):=by
  intro pins s σ H Q I h
  refine UnaryOp_ (aM (ha pins s σ H _ I h) fun v s1 ⟨x,H1,I1,r1,q1⟩=>?_)
  obtain ⟨c,rfl,q1⟩:=q1
  cases r1
  exact not_of (wpAny_truthy_bool ⟨.bl (!c),H1,I1,rfl,q1⟩)
end
noncomputable def aX (K:PySem.W.Frag)(H:Hp)(a:Addr)(xs:List V):Prop:=
  Rd H a (.lst xs)∨
    ∃(o:Obj) (its:Array Value) (n:Nat),K.lookup a=some o∧o.cls= .type "list"∧o.dict=none∧o.data= .seq its n∧its.size≤sizeLine∧Vals xs its.toList
noncomputable def dc (K:PySem.W.Frag)(H:Hp)(a:Addr)(xs:List V):Prop:=
  Rd H a (.tup xs)∨
    ∃(o:Obj) (its:Array Value) (n:Nat),K.lookup a=some o∧o.cls= .type "tuple"∧o.data= .seq its n∧its.size≤sizeLine∧Vals xs its.toList
noncomputable def Be:Value→Option V
  | .none=>some .non
  | .bool b=>some (.bl b)
  | .int i _=>some (.int i)
  | .str x _=>some (.str x)
  | .bytes b _=>some (.byt b)
  | .float b _=>some (.flt b)
  | .ref a=>some (.ref a)
  | .type n=>some (.ty n)
  | _=>none
theorem RelV.abs {x:V}{u:Value}(r:RelV x u):Be u=some x:=by
  cases x with
  | non=>cases r;rfl
  | bl _=>cases r;rfl
  | int _=>obtain ⟨t,rfl⟩:=r;rfl
  | str _=>obtain ⟨t,rfl⟩:=r;rfl
  | byt _=>obtain ⟨t,rfl⟩:=r;rfl
  | flt _=>obtain ⟨t,rfl⟩:=r;rfl
  | ref _=>cases r;rfl
  | ty _=>cases r;rfl
theorem RelV.inj {x y:V}{u:Value}(r:RelV x u)(q:RelV y u):x=y:=Option.some.inj (r.abs.symm.trans q.abs)
theorem Vals.inj:∀{xs ys:List V} {us:List Value},Vals xs us→Vals ys us→xs=ys
  | _,_,_,.nil,.nil=>rfl
  | _,_,_,.cons r t,.cons r' t'=>by rw [r.inj r',Vals.inj t t']
section
variable {X:Cx}{pins:List (Addr×Obj)}{σ:St}{H:Hp}{s:Shared}{a:Addr}{xs ys:List V}
theorem aX.of {K:PySem.W.Frag}(h:H a=some (.lst xs)):aX K H a xs:=.inl (.inl h)
theorem dc.of {K:PySem.W.Frag}(h:H a=some (.tup xs)):dc K H a xs:=.inl (.inl h)
theorem Inv.list (I:Inv X pins σ H s)(h:aX X.K H a xs):∃its:List Value,Vals xs its∧PlainL s.heap a its.toArray∧xs.length≤sizeLine:=by
  rcases h with h | ⟨o,its,n,hk,hc,hd,hs,hz,r⟩
  · obtain ⟨z,its,n,r,e⟩:=h.ok I.hok
    exact ⟨its,r,⟨_,n,e,rfl,rfl,rfl⟩,z⟩
  · refine ⟨its.toList,r,⟨o,n,I.eZ a o hk,hc,hd,by simpa using hs⟩,?_⟩
    have e:=r.length
    simp only [Array.length_toList] at e
    omega
theorem Inv.tuple (I:Inv X pins σ H s)(h:dc X.K H a xs):∃its:List Value,Vals xs its∧IsTup s.heap a its.toArray∧xs.length≤sizeLine:=by
  rcases h with h | ⟨o,its,n,hk,hc,hs,hz,r⟩
  · obtain ⟨z,its,r,p⟩:=h.ok I.hok
    exact ⟨its,r,p,z⟩
  · refine ⟨its.toList,r,⟨o,I.eZ a o hk,hc,n,by simpa using hs⟩,?_⟩
    have e:=r.length
    simp only [Array.length_toList] at e
    omega
theorem Inv.l6 (I:Inv X pins σ H s)(h:aX X.K H a xs)(h':aX X.K H a ys):xs=ys:=by
  obtain ⟨its,r,⟨o,n,e,_,_,d⟩,_⟩:=I.list h
  obtain ⟨its',r',⟨o',n',e',_,_,d'⟩,_⟩:=I.list h'
  rw [e] at e';cases e'
  rw [d] at d'
  injection d' with d1 _
  have:its=its':=by simpa using congrArg Array.toList d1
  subst this
  exact r.inj r'
theorem Inv.qY (I:Inv X pins σ H s)(h:dc X.K H a xs)(h':dc X.K H a ys):xs=ys:=by
  obtain ⟨its,r,⟨o,e,_,n,d⟩,_⟩:=I.tuple h
  obtain ⟨its',r',⟨o',e',_,n',d'⟩,_⟩:=I.tuple h'
  rw [e] at e';cases e'
  rw [d] at d'
  injection d' with d1 _
  have:its=its':=by simpa using congrArg Array.toList d1
  subst this
  exact r.inj r'
end
noncomputable abbrev Cx.gd (X:Cx)(E:Value→Shared→Prop):Cx:={X with xe:=E}
noncomputable abbrev Cx.g7 (X:Cx):Cx:=X.gd fun _ _=>False
theorem Cx.Ok.gd {X:Cx}(ok:X.Ok)(E:Value→Shared→Prop):(X.gd E).Ok:=
  ⟨ok.mod,ok.kind,ok.glob,ok.blt,ok.above,ok.inj,ok.has,ok.cab,ok.hd,ok.frames,ok.stk,ok.exf,ok.bs,ok.bsz,ok.noex,ok.exfs,ok.funs,ok.frf⟩
theorem Cx.Ok.eT {X:Cx}{E:Value→Shared→Prop}(ok:(X.gd E).Ok):X.Ok:=
  ⟨ok.mod,ok.kind,ok.glob,ok.blt,ok.above,ok.inj,ok.has,ok.cab,ok.hd,ok.frames,ok.stk,ok.exf,ok.bs,ok.bsz,ok.noex,ok.exfs,ok.funs,ok.frf⟩
section
variable {X:Cx}{pins:List (Addr×Obj)}{σ:St}{H:Hp}{s:Shared}{E:Value→Shared→Prop}
theorem Inv.gd (I:Inv X pins σ H s)(E:Value→Shared→Prop):Inv (X.gd E) pins σ H s:=⟨I.ok.gd E,I.os,I.bare,I.base,I.loc,I.cell,I.free,I.freeC,I.pin,I.hok,I.len⟩
theorem Inv.eT (I:Inv (X.gd E) pins σ H s):Inv X pins σ H s:=⟨I.ok.eT,I.os,I.bare,I.base,I.loc,I.cell,I.free,I.freeC,I.pin,I.hok,I.len⟩
theorem SP.eT {D:Ends}{f:Flow}{s':Shared}(h:SP (X.gd E) pins D f s'):SP X pins D f s':=by
  cases f with
  | next=>obtain ⟨σ',H',I,q⟩:=h;exact ⟨σ',H',I.eT,q⟩
  | brk=>obtain ⟨σ',H',I,q⟩:=h;exact ⟨σ',H',I.eT,q⟩
  | cont=>obtain ⟨σ',H',I,q⟩:=h;exact ⟨σ',H',I.eT,q⟩
  | ret u=>obtain ⟨v,σ',H',I,r,q⟩:=h;exact ⟨v,σ',H',I.eT,r,q⟩
theorem fJ.g7 {st:List Stmt}{t:TS}(h:fJ X.g7 st t):fJ X st t:=fun pins s σ H D I hw=>
  wpAny_mono (h pins s σ H D (I.gd _) hw) (fun _ _ q=>q.eT) fun _ _ z=>False.elim z
end
section
variable {X:Cx}{st:Stmt}{rest:List Stmt}{t u:TS}{e:Expr}{te:TE}{pos:Pos}
noncomputable def z6:TS:=fun D σ H=>D.nx σ H
noncomputable def Bn (t u:TS):TS:=fun D σ H=>t {D with nx:=u D} σ H
theorem uV:fJ X [] z6:=fun _ _ σ H _ I h=>wpAny_execs_nil ⟨σ,H,I,h⟩
theorem tG (h1:PS X st t)(h2:fJ X rest u):fJ X (st::rest) (Bn t u):=by
  intro pins s σ H D I h
  refine wpAny_execs_cons (aM (h1 pins s σ H {D with nx:=u D} I h) fun f s1 q=>?_)
  cases f with
  | next=>
    obtain ⟨σ',H',I',q⟩:=q
    exact h2 pins s1 σ' H' D I' q
  | ret v=>exact q
  | brk=>exact q
  | cont=>exact q
theorem vk (h1:PS X st t):fJ X [st] t:=by
  intro pins s σ H D I h
  refine wpAny_execs_cons (aM (h1 pins s σ H D I h) fun f s1 q=>?_)
  cases f with
  | next=>exact wpAny_execs_nil q
  | ret v=>exact q
  | brk=>exact q
  | cont=>exact q
theorem Inv.quiet {pins:List (Addr×Obj)}{σ:St}{H:Hp}{s:Shared}(I:Inv X pins σ H s):interactive X.env=false:=by simp [interactive,I.ok.kind]
noncomputable def z8 (te:TE):TS:=fun D σ H=>te σ H fun _ H1=>D.nx σ H1
theorem fz (he:PE X e te)(hs:autoParam (swapsWith e none pos.line X.env=pure false) Fc.ag):PS X (.Expr e pos) (z8 te):=by
  intro pins s σ H D I h
  exact wpAny_Expr_any (aM (he pins s σ H _ I h) fun v s1 ⟨x,H1,I1,r1,q1⟩=>⟨σ,H1,I1,q1⟩) I.quiet hs
noncomputable def Ba (te:TE):TS:=fun D σ H=>te σ H D.rt
theorem dB (he:PE X e te):PS X (.Return (some e) pos) (Ba te):=by
  intro pins s σ H D I h
  exact wpAny_Return_some (aM (he pins s σ H _ I h) fun v s1 ⟨x,H1,I1,r1,q1⟩=>⟨x,σ,H1,I1,r1,q1⟩)
noncomputable def AX (c:TT)(t u:TS):TS:=fun D σ H=>c σ H fun b H1=>if b=true then t D σ H1 else u D σ H1
theorem yM {c:Expr}{a b:List Stmt}{tc:TT}(hc:PT X c tc)(ha:fJ X a t)(hb:fJ X b u):PS X (.If c a b pos) (AX tc t u):=by
  intro pins s σ H D I h
  refine wpAny_If (aM (hc pins s σ H _ I h) fun d s1 ⟨H1,I1,q1⟩=>?_)
  cases d with
  | true=>exact ha pins s1 σ H1 D I1 q1
  | false=>exact hb pins s1 σ H1 D I1 q1
end
noncomputable abbrev TG:=V→St→Hp→(St→Hp→Prop)→Prop
noncomputable abbrev jY:=List V→St→Hp→(St→Hp→Prop)→Prop
noncomputable def PG (X:Cx)(target:Expr)(t:TG):Prop:=
  ∀ (pins:List (Addr×Obj)) (s:Shared) (σ:St) (H:Hp) (v:V) (u:Value) (Q:St→Hp→Prop),Inv X pins σ H s→RelV v u→t v σ H Q→
    wpAny (model X.prog X.w) X.A (assign target X.env u) (fun _ s'=>∃σ' H',Inv X pins σ' H' s'∧Q σ' H') X.xe s
noncomputable def rz (X:Cx)(ts:List Expr)(t:jY):Prop:=
  ∀ (pins:List (Addr×Obj)) (s:Shared) (σ:St) (H:Hp) (vs:List V) (us:List Value) (Q:St→Hp→Prop),Inv X pins σ H s→Vals vs us→t vs σ H Q→
    wpAny (model X.prog X.w) X.A (assignInOrder ((assignEach ts X.env).map (·.2)) us) (fun _ s'=>∃σ' H',Inv X pins σ' H' s'∧Q σ' H') X.xe s
noncomputable abbrev sj:=V→V→V→Hp→(Hp→Prop)→Prop
noncomputable def vK (X:Cx)(t:sj):Prop:=
  ∀ (pins:List (Addr×Obj)) (s:Shared) (σ:St) (H:Hp) (o i v:V) (ov iv u:Value) (Q:Hp→Prop),Inv X pins σ H s→RelV o ov→RelV i iv→RelV v u→t o i v H Q→
    wpAny (model X.prog X.w) X.A (setItem ov iv u) (fun _ s'=>∃H',Inv X pins σ H' s'∧Q H') X.xe s
noncomputable abbrev uq:=V→V→Hp→VK→Prop
noncomputable def yb (X:Cx)(op:Operator)(t:uq):Prop:=
  ∀ (pins:List (Addr×Obj)) (s:Shared) (σ:St) (H:Hp) (x y:V) (v u:Value) (Q:VK),Inv X pins σ H s→RelV x v→RelV y u→t x y H Q→
    wpAny (model X.prog X.w) X.A (inplaceOp op v u) (EP X pins σ Q) X.xe s
section
variable {X:Cx}{pos:Pos}
noncomputable def lQ (i:Nat):TG:=fun v σ H Q=>Q (σ.set i (some v)) H
theorem eG {i:Nat}{x:Str}(hN:X.N.Nodup)(hi:X.N[i]?=some x)(hx:Loc X.env.scope x)(hf:X.fn x=true∨X.env.scope.names.lookup x=some .local:=by first | exact .inl rfl | exact .inr rfl | assumption):PG X (.Name x pos) (lQ i):=by
  intro pins s σ H v u Q I r h
  exact wpAny_assign_Name (i8 I hN hi hx r (fun s' I'=>⟨_,H,I',h⟩) hf)
noncomputable def AQ:jY:=fun vs σ H Q=>vs=[]∧Q σ H
noncomputable def y3 (t:TG)(u:jY):jY:=fun vs σ H Q=>∃v r,vs=v::r∧t v σ H fun σ' H'=>u r σ' H' Q
theorem ky:rz X [] AQ:=by
  intro pins s σ H vs us Q I r h
  obtain ⟨e,h⟩:=h
  subst e
  cases r
  exact assignInOrder_nil ⟨σ,H,I,h⟩
theorem eE {e:Expr}{es:List Expr}{t:TG}{u:jY}(h1:PG X e t)(h2:rz X es u)
    (hs:autoParam ((assignEach (e::es) X.env).map (·.2)=assign e X.env::(assignEach es X.env).map (·.2)) Fc.ag):rz X (e::es) (y3 t u):=by
  intro pins s σ H vs us Q I r h
  obtain ⟨v,vr,e1,h⟩:=h
  subst e1
  cases r with
  | cons r rr=>
    rw [hs]
    refine assignInOrder_cons (aM (h1 pins s σ H _ _ _ I r h) fun _ s1 ⟨σ1,H1,I1,q1⟩=>?_)
    exact h2 pins s1 σ1 H1 _ _ Q I1 rr q1
noncomputable def Bg (K:PySem.W.Frag)(n:Nat)(t:jY):TG:=fun v σ H Q=>∃a xs,v= .ref a∧dc K H a xs∧xs.length=n∧t xs σ H Q
theorem ym {es:List Expr}{k:Nat}{t:jY}{n:Nat}(hc:X.calm=true)(h:rz X es t)
    (hn:autoParam ((assignEach es X.env).length=n) Fc.ag) (hst:autoParam ((assignEach es X.env).findIdx? (·.1)=none) Fc.ag):PG X (.Tuple es k pos) (Bg X.K n t):=by
  intro pins s σ H v u Q I r hw
  obtain ⟨a,xs,e1,hq,hl,hw⟩:=hw
  subst e1
  cases r
  obtain ⟨its,rv,ht,hz⟩:=I.tuple hq
  refine assign_Tuple_tuple (I.ok.hd hc) ht (by simp [hn,← hl,rv.length]) hst fun h' hx=>?_
  have I1:Inv X pins σ H {s with heap:=h'}:=I.kept (t':=s.toks) fun b o e=>hx b o (Nat.ne_of_lt (Heap.lt_size e)) e
  exact h pins _ σ H xs _ Q I1 (by simpa using rv) hw
noncomputable def Bd (to ti:TE)(t:sj):TG:=fun v σ H Q=>to σ H fun o H1=>ti σ H1 fun i H2=>t o i v H2 fun H3=>Q σ H3
theorem j5 {o i:Expr}{to ti:TE}{t:sj}(ho:PE X o to)(hi:PE X i ti)(hs:vK X t)
    (ha:autoParam (∀v,assign (.Subscript o i pos) X.env v=(do
      let ov ← holding [v] (eval o X.env)
      let iv ← holding [v,ov] (eval i X.env)
      standAt pos
      holding [v,ov,iv] (setItem ov iv v)
      release [v,ov,iv] [])) Fc.cJ):PG X (.Subscript o i pos) (Bd to ti t):=by
  intro pins s σ H v u Q I r h
  rw [ha]
  refine wpAny_bind (wpAny_holding (aM (ho pins s σ H _ I h) fun ov s1 ⟨x,H1,I1,r1,q1⟩=>?_))
  refine wpAny_bind (wpAny_holding (aM (hi pins s1 σ H1 _ I1 q1) fun iv s2 ⟨y,H2,I2,r2,q2⟩=>?_))
  refine wpAny_bind (wpAny_standAt (wpAny_bind (wpAny_holding (aM (hs pins s2 σ H2 x y v ov iv u _ I2 r1 r2 r q2) fun _ s3 ⟨H3,I3,q3⟩=>?_))))
  exact wpAny_release ⟨σ,H3,I3,q3⟩
noncomputable def sM (te:TE)(g:TG):TS:=fun D σ H=>te σ H fun x H1=>g x σ H1 D.nx
theorem fO {tg e:Expr}{te:TE}{g:TG}(he:PE X e te)(hg:PG X tg g)(hs:autoParam (swapsWithSole [tg] e pos.line X.env=pure false) Fc.ag)(hw:autoParam (swappedStores [tg] e X.env=pure none) Fc.ag)
    (h1:autoParam ((assignEach [tg] X.env).map (·.2)=[assign tg X.env]) Fc.ag):PS X (.Assign [tg] e pos) (sM te g):=by
  intro pins s σ H D I h
  refine wpAny_Assign_stores (aM (he pins s σ H _ I h) fun v s1 ⟨x,H1,I1,r1,q1⟩=>?_) hs hw
  rw [h1]
  exact aM (hg pins s1 σ H1 x v _ I1 r1 q1) fun _ s2 q=>q
theorem fP {i:Nat}{x:Str}{e:Expr}{te:TE}{pos':Pos}(hN:X.N.Nodup)(hi:X.N[i]?=some x)(hx:Loc X.env.scope x)(he:PE X e te)(hs:autoParam (swapsWith e (some (.Name x pos')) pos.line X.env=pure false) Fc.ag)(hf:X.fn x=true∨X.env.scope.names.lookup x=some .local:=by first | exact .inl rfl | exact .inr rfl | assumption):
    PS X (.Assign [.Name x pos'] e pos) (sM te (lQ i)):=by
  intro pins s σ H D I h
  refine wpAny_Assign_Name (aM (he pins s σ H _ I h) fun v s1 ⟨y,H1,I1,r1,q1⟩=>?_) hs
  exact i8 I1 hN hi hx r1 (fun s2 I2=>⟨_,H1,I2,q1⟩) hf
noncomputable def A9 (i:Nat)(te:TE)(ti:uq):TS:=fun D σ H=>∃x,σ[i]?=some (some x)∧te σ H fun y H1=>ti x y H1 fun z H2=>D.nx (σ.set i (some z)) H2
theorem p7 {i:Nat}{x:Str}{e:Expr}{te:TE}{op:Operator}{ti:uq}{pos':Pos}(hN:X.N.Nodup)(hi:X.N[i]?=some x)(hx:Loc X.env.scope x)(he:PE X e te)(ho:yb X op ti)(hf:X.fn x=true∨X.env.scope.names.lookup x=some .local:=by first | exact .inl rfl | exact .inr rfl | assumption):
    PS X (.AugAssign (.Name x pos') op e pos) (A9 i te ti):=by
  intro pins s σ H D I h
  obtain ⟨v,e1,h⟩:=h
  obtain ⟨m,hn,hl⟩:=I.loc
  have vis:cv X.env.scope x:=by rcases hx with k | k;exact .inl k;exact .inr (.inl k)
  obtain ⟨u,r,l⟩:=hl i x v hi e1 vis
  refine wpAny_AugAssign_Name ?_
  have go:wpAny (model X.prog X.w) X.A (eval e X.env) (fun w s₂=>wpAny (model X.prog X.w) X.A (inplaceOp op u w) (fun r s₃=>wpAny (model X.prog X.w) X.A (storeName X.env x r) (fun _=>SP X pins D .next) X.xe s₃) X.xe s₂) X.xe s:=by
    refine aM (he pins s σ H _ I h) fun w s1 ⟨y,H1,I1,r1,q1⟩=>?_
    refine aM (ho pins s1 σ H1 v y u w _ I1 r r1 q1) fun z s2 ⟨zv,H2,I2,r2,q2⟩=>?_
    exact i8 I2 hN hi hx r2 (fun s3 I3=>⟨_,H2,I3,q2⟩) hf
  rcases l with ⟨hk,hm⟩ | ⟨hk,c,hc,hcell⟩
  · exact wpAny_loadName_local I.ok.kind hk hn hm go
  · rcases hk with hk | hk
    · exact wpAny_loadName_cell I.ok.kind hk hc hcell go
    · rcases hx with k | k
      · have:X.env.scope.names.lookup x=some .free:=hk
        rw [k] at this;cases this
      · have:X.env.scope.names.lookup x=some .free:=hk
        rw [k] at this;cases this
noncomputable def Ad (f:Int→Int→Int):uq:=fun x y H Q=>∃i j,x= .int i∧y= .int j∧Q (.int (f i j)) H
theorem xk:yb X .Add (Ad fun i j=>i + j):=by
  intro pins s σ H x y v u Q I r1 r2 h
  obtain ⟨i,j,e1,e2,q⟩:=h
  subst e1;subst e2
  obtain ⟨t,rfl⟩:=r1
  obtain ⟨t',rfl⟩:=r2
  exact iadd_int ⟨.int _,H,I.tok _,⟨_,rfl⟩,q⟩
theorem wJ:yb X .Sub (Ad fun i j=>i - j):=by
  intro pins s σ H x y v u Q I r1 r2 h
  obtain ⟨i,j,e1,e2,q⟩:=h
  subst e1;subst e2
  obtain ⟨t,rfl⟩:=r1
  obtain ⟨t',rfl⟩:=r2
  exact isub_int ⟨.int _,H,I.tok _,⟨_,rfl⟩,q⟩
end
section
variable {X:Cx}{pos:Pos}
noncomputable def xc (c:TT)(tb:TS):TS:=fun D σ H=>∃W:Nat→St→Hp→Prop,(∃m,W m σ H)∧∀m σ H,W m σ H→
  c σ H fun b H1=>if b=true then∃N:St→Hp→Prop,(∀σ' H',N σ' H'→∃m',m' < m∧W m' σ' H')∧tb {D with nx:=N,ct:=N,bk:=D.nx} σ H1 else D.nx σ H1
theorem tE {c:Expr}{body:List Stmt}{tc:TT}{tb:TS}(hp:PassesOwn (model X.prog X.w) X.A X.env X.xe)(hc:PT X c tc)(hb:fJ X body tb):PS X (.While c body [] pos) (xc tc tb):=by
  intro pins s σ H D I h
  obtain ⟨W,⟨m0,w0⟩,turn⟩:=h
  refine wpAny_While (codeAny_whileLoop (fun n s'=>∃σ' H',Inv X pins σ' H' s'∧W n σ' H') ?_ m0 ⟨σ,H,I,w0⟩)
  rintro n s1 ⟨σ1,H1,I1,w1⟩
  refine wpAny_passesOwn hp (aM (hc pins s1 σ1 H1 _ I1 (turn n σ1 H1 w1)) fun b s2 ⟨H2,I2,q2⟩=>?_)
  cases b with
  | true=>
    obtain ⟨N,hN,q2⟩:=q2
    rw [if_pos rfl]
    refine wpAny_passesOwn hp (aM (hb pins s2 σ1 H2 _ I2 q2) fun f s3 q3=>?_)
    cases f with
    | next=>
      obtain ⟨σ3,H3,I3,n3⟩:=q3
      obtain ⟨m',hm,w3⟩:=hN σ3 H3 n3
      exact ⟨m',hm,σ3,H3,I3,w3⟩
    | cont=>
      obtain ⟨σ3,H3,I3,n3⟩:=q3
      obtain ⟨m',hm,w3⟩:=hN σ3 H3 n3
      exact ⟨m',hm,σ3,H3,I3,w3⟩
    | brk=>exact q3
    | ret v=>exact q3
  | false=>
    rw [if_neg Bool.false_ne_true]
    exact wpAny_execs_nil ⟨σ1,H2,I2,q2⟩
end
structure It where
  go:Nat→Hp→Prop
  yld:Nat→Hp→V→Hp→Prop
  stop:Nat→Hp→Prop
noncomputable def gT (X:Cx)(pins:List (Addr×Obj))(H:Hp)(b:Addr):Prop:=
  H b=none∧b≠X.env.locals∧b∉X.fs∧(b∈X.ex∨X.s₀.heap.objs.size≤b)∧(∀x c,X.env.cells.lookup x=some c→c≠b)∧∀p∈X.pn++pins,p.1≠b
theorem Inv.kI {X:Cx}{pins:List (Addr×Obj)}{σ:St}{H H':Hp}{s:Shared}{b:Addr}(I:Inv X pins σ H s)(hb:s.heap.objs.size≤b)(hn:H' b=none):gT X pins H' b:=by
  refine ⟨hn,Nat.ne_of_gt (Nat.lt_of_lt_of_le I.lt hb),I.A3 hb,.inr (Nat.le_trans I.sz hb),fun x c e z=>?_,fun p hp z=>?_⟩
  · obtain ⟨v,q⟩:=I.cell x c e
    exact absurd (Nat.lt_of_lt_of_le q.lt (by rw [z];exact hb)) (Nat.lt_irrefl _)
  · exact absurd (Nat.lt_of_lt_of_le (Heap.lt_size (I.pin p hp).1) (by rw [z];exact hb)) (Nat.lt_irrefl _)
structure Turn (P:Program) (w:World) (K:PySem.W.Frag) (tg:Expr) (J:It) (fp:List Addr) (it:Addr) (tn:Nat→Heap→Prop):Prop where
  mem:it∈fp
  obj:∀i h,tn i h→∀b∈fp,∃o,h.get? b=some o∧∀v,o.data≠ .cell v
  keep:∀i h h',tn i h→(∀b∈fp,∀o,h.get? b=some o→h'.get? b=some o)→tn i h'
  item:∀(X:Cx),X.prog=P→X.w=w→X.K=K→X.calm=true→∀(i:Nat) (pins:List (Addr×Obj)) (s:Shared) (σ:St) (H:Hp) (E:Value→Shared→Prop),Inv X pins σ H s→(∀b∈fp,gT X pins H b)→tn i s.heap→J.go i H→
    wpAny (model P w) X.A (pyNext (.ref it)) (fun r s1=>∃u,r=some u∧
      wpAny (model P w) X.A (letOwnedTupleGo tg (.ref it) u) (fun _ s2=>∃x H',Inv X pins σ H' s2∧RelV x u∧J.yld i H x H'∧tn (i + 1) s2.heap∧∀b∈fp,H' b=none) E s1) E s
  done:∀(X:Cx),X.prog=P→X.w=w→X.K=K→X.calm=true→∀(i:Nat) (pins:List (Addr×Obj)) (s:Shared) (σ:St) (H:Hp) (E:Value→Shared→Prop),Inv X pins σ H s→(∀b∈fp,gT X pins H b)→tn i s.heap→J.stop i H→
    wpAny (model P w) X.A (pyNext (.ref it)) (fun r s1=>r=none∧Inv X pins σ H s1) E s
  self:∀(A:Around) (i:Nat) (s:Shared) (Q:Value→Shared→Prop) (E:Value→Shared→Prop),tn i s.heap→Q (.ref it) s→wpAny (model P w) A (pyIter (.ref it)) Q E s
noncomputable abbrev TI:=St→Hp→(It→Hp→Prop)→Prop
noncomputable def Aq (X:Cx)(pins:List (Addr×Obj))(σ:St)(tg:Expr)(R:It→Hp→Prop)(itv:Value)(s2:Shared):Prop:=
  ∃(it:Addr) (fp:List Addr) (tn:Nat→Heap→Prop) (J:It) (H':Hp),itv= .ref it∧Inv X pins σ H' s2∧Turn X.prog X.w X.K tg J fp it tn∧tn 0 s2.heap∧(∀b∈fp,gT X pins H' b)∧R J H'
noncomputable def PI (X:Cx)(tg iter:Expr)(wi:TI):Prop:=
  ∀ (pins:List (Addr×Obj)) (s:Shared) (σ:St) (H:Hp) (R:It→Hp→Prop),Inv X pins σ H s→wi σ H R→
    wpAny (model X.prog X.w) X.A (eval iter X.env) (fun v s1=>wpAny (model X.prog X.w) X.A (pyIter v) (Aq X pins σ tg R) X.xe s1) X.xe s
theorem pR {M:Model}{A:Around}{E:Value→Shared→Prop}{s:Shared}{tg:Expr}{it:Addr}{u:Value}{o:Obj}{n:String}{vs:Array Value}{Q:Unit→Shared→Prop}(ho:s.heap.get? it=some o)(hc:o.cls= .type n)(hd:o.data= .fields vs)
    (hn:["enumerate","zip","dict_itemiterator","dict_reverseitemiterator","odict_iterator","itertools.zip_longest","itertools.pairwise"].contains n=false) (hQ:Q () s):wpAny M A (letOwnedTupleGo tg (.ref it) u) Q E s:=by
  unfold letOwnedTupleGo
  cases tg <;>first
    | exact wpAny_pure hQ
    | (cases u<;>first
        | exact wpAny_pure hQ
        | (refine wpAny_bind (wpAny_load ho ?_)
           rw [hc,hd]
           show wpAny M A (if (["enumerate","zip","dict_itemiterator","dict_reverseitemiterator","odict_iterator","itertools.zip_longest","itertools.pairwise"].contains n&&vs[0]?==some (rawInt _))=true then _ else _) Q E s
           rw [if_neg (by intro h;rw [hn,Bool.false_and] at h;cases h)]
           exact wpAny_pure hQ))
noncomputable def AJ (K:PySem.W.Frag)(a:Addr):It:=
  ⟨fun i H=>∃xs x,aX K H a xs∧xs[i]?=some x,fun i H x H'=>H'=H∧∀xs,aX K H a xs→xs[i]?=some x,fun i H=>∃xs,aX K H a xs∧xs.length≤i⟩
noncomputable def AG (K:PySem.W.Frag)(a:Addr):It:=
  ⟨fun i H=>∃xs x,dc K H a xs∧xs[i]?=some x,fun i H x H'=>H'=H∧∀xs,dc K H a xs→xs[i]?=some x,fun i H=>∃xs,dc K H a xs∧xs.length≤i⟩
noncomputable def qV (lo:Int)(n:Nat):It:=⟨fun i _=>i < n,fun i H x H'=>H'=H∧x= .int (lo + i),fun i _=>n≤i⟩
theorem rO {P:Program}{w:World}{K:PySem.W.Frag}{tg:Expr}(a it:Addr):Turn P w K tg (AJ K a) [it] it (fun i h=>h.IsListIter it a i) where
  mem:=by simp
  obj:=fun i h st b hb=>by
    have e:b=it:=by simpa using hb
    subst e
    obtain ⟨o,e,c,d⟩:=st
    exact ⟨o,e,fun v z=>by rw [d] at z;cases z⟩
  keep:=fun i h h' st k=>st.at fun o e=>k it (by simp) o e
  item:=by
    intro X hP hw hK hc i pins s σ H E I hf st hg
    subst hP hw hK
    obtain ⟨xs,x,hq,hx⟩:=hg
    obtain ⟨its,rv,p,hz⟩:=I.list hq
    obtain ⟨u,hu,ru⟩:=rv.get hx
    obtain ⟨f0,f1,f2,f3,f4,f5⟩:=hf it (by simp)
    refine wpAny_pyNext_list_item st p.isList (x:=u) (by simpa using hu) fun h' st' sb=>?_
    have I1:Inv X pins σ H {s with heap:=h'}:=I.turned (t':=s.toks) (fun b o hb e=>(sb.2 b hb).trans e) f0 f1 f3 f4 f5
    obtain ⟨o,e,c,d⟩:=id st'
    exact ⟨u,rfl,pR (s:={s with heap:=h'}) e c d (by decide) ⟨x,H,I1,ru,⟨rfl,fun ys hy=>by rw [I.l6 hy hq];exact hx⟩,st',fun b hb=>(hf b hb).1⟩⟩
  done:=by
    intro X hP hw hK hc i pins s σ H E I hf st hg
    subst hP hw hK
    obtain ⟨xs,hq,hx⟩:=hg
    obtain ⟨its,rv,p,hz⟩:=I.list hq
    obtain ⟨f0,f1,f2,f3,f4,f5⟩:=hf it (by simp)
    have hl:=rv.length
    exact wpAny_pyNext_list_end (I.ok.hd hc) st p.isList (by simp;omega) fun h' eb=>⟨rfl,I.turned (t':=s.toks) (fun b o hb e=>eb b o hb e) f0 f1 f3 f4 f5⟩
  self:=fun _ _ _ _ _ st h=>wpAny_pyIter_listiter st h
theorem pD {P:Program}{w:World}{K:PySem.W.Frag}{tg:Expr}(a it:Addr):Turn P w K tg (AG K a) [it] it (fun i h=>h.IsTupleIter it a i) where
  mem:=by simp
  obj:=fun i h st b hb=>by
    have e:b=it:=by simpa using hb
    subst e
    obtain ⟨o,e,c,d⟩:=st
    exact ⟨o,e,fun v z=>by rw [d] at z;cases z⟩
  keep:=fun i h h' st k=>st.at fun o e=>k it (by simp) o e
  item:=by
    intro X hP hw hK hc i pins s σ H E I hf st hg
    subst hP hw hK
    obtain ⟨xs,x,hq,hx⟩:=hg
    obtain ⟨its,rv,p,hz⟩:=I.tuple hq
    obtain ⟨u,hu,ru⟩:=rv.get hx
    obtain ⟨f0,f1,f2,f3,f4,f5⟩:=hf it (by simp)
    refine wpAny_pyNext_tuple_item st (show s.heap.IsTuple a its.toArray from p) (x:=u) (by simpa using hu) fun h' st' sb=>?_
    have I1:Inv X pins σ H {s with heap:=h'}:=I.turned (t':=s.toks) (fun b o hb e=>(sb.2 b hb).trans e) f0 f1 f3 f4 f5
    obtain ⟨o,e,c,d⟩:=id st'
    exact ⟨u,rfl,pR (s:={s with heap:=h'}) e c d (by decide) ⟨x,H,I1,ru,⟨rfl,fun ys hy=>by rw [I.qY hy hq];exact hx⟩,st',fun b hb=>(hf b hb).1⟩⟩
  done:=by
    intro X hP hw hK hc i pins s σ H E I hf st hg
    subst hP hw hK
    obtain ⟨xs,hq,hx⟩:=hg
    obtain ⟨its,rv,p,hz⟩:=I.tuple hq
    obtain ⟨f0,f1,f2,f3,f4,f5⟩:=hf it (by simp)
    have hl:=rv.length
    exact wpAny_pyNext_tuple_end (I.ok.hd hc) st (show s.heap.IsTuple a its.toArray from p) (by simp;omega) fun h' eb=>⟨rfl,I.turned (t':=s.toks) (fun b o hb e=>eb b o hb e) f0 f1 f3 f4 f5⟩
  self:=fun _ _ _ _ _ st h=>wpAny_pyIter_tupleiter st h
theorem oK {P:Program}{w:World}{K:PySem.W.Frag}{tg:Expr}(it:Addr)(lo:Int)(n:Nat):Turn P w K tg (qV lo n) [it] it (fun i h=>IsRangeIter h it (lo + (i:Nat) * 1) ((n:Int) - (i:Nat)) 1) where
  mem:=by simp
  obj :=fun i h st b hb=>by
    have e:b=it:=by simpa using hb
    subst e
    exact ⟨_,st,fun v z=>by
      have z':Data.fields _=Data.cell v:=z
      cases z'⟩
  keep:=fun i h h' st k=>k it (by simp) _ st
  item:=by
    intro X hP hw hK hc i pins s σ H E I hf st hg
    subst hP hw hK
    obtain ⟨f0,f1,f2,f3,f4,f5⟩:=hf it (by simp)
    have W:=Walks.range (prog:=X.prog) (w:=X.w) (I.ok.hd hc) it lo 1 n
    refine W.item i s _ _ hg st fun v h' tk hv st' kk=>?_
    obtain ⟨t,rfl⟩:=hv
    have I1:Inv X pins σ H {s with heap:=h',toks:=tk}:=I.turned (fun b o hb e=>kk b o (by simpa using hb) e) f0 f1 f3 f4 f5
    refine ⟨_,rfl,pR (s:={s with heap:=h',toks:=tk}) (n:="range_iterator") st' rfl rfl (by decide) ⟨.int (lo + i),H,I1,⟨t,?_⟩,⟨rfl,rfl⟩,st',fun b hb=>(hf b hb).1⟩⟩
    rw [Int.mul_one]
  done:=by
    intro X hP hw hK hc i pins s σ H E I hf st hg
    subst hP hw hK
    obtain ⟨f0,f1,f2,f3,f4,f5⟩:=hf it (by simp)
    exact wpAny_pyNext_range_end (I.ok.hd hc) st (by have:n≤i:=hg;omega) fun h' eb=>⟨rfl,I.turned (t':=s.toks) (fun b o hb e=>eb b o hb e) f0 f1 f3 f4 f5⟩
  self:=fun _ _ _ _ _ st h=>wpAny_pyIter_rangeiter st h
section
variable {X:Cx}{tg:Expr}
noncomputable def zQ (K:PySem.W.Frag)(tl:TE):TI:=fun σ H R=>tl σ H fun x H1=>∃a,x= .ref a∧(∃xs,aX K H1 a xs)∧R (AJ K a) H1
noncomputable def AR (K:PySem.W.Frag)(tl:TE):TI:=fun σ H R=>tl σ H fun x H1=>∃a,x= .ref a∧(∃xs,dc K H1 a xs)∧R (AG K a) H1
theorem oh {l:Expr}{tl:TE}(hl:PE X l tl):PI X tg l (zQ X.K tl):=by
  intro pins s σ H R I h
  refine aM (hl pins s σ H _ I h) fun v s1 ⟨x,H1,I1,r1,q1⟩=>?_
  obtain ⟨a,e,⟨xs,hq⟩,q⟩:=q1
  subst e
  cases r1
  obtain ⟨its,rv,p,hz⟩:=I1.list hq
  refine wpAny_pyIter_list p.isList ?_
  refine ⟨s1.heap.objs.size,[s1.heap.objs.size],_,_,H1,rfl,I1.kept (t':=s1.toks) fun b o e=>Heap.get?_push_of_some _ e,rO a _,⟨_,Heap.get?_push_size _ rfl,rfl,rfl⟩,fun b hb=>?_,q⟩
  have e:b=s1.heap.objs.size:=by simpa using hb
  subst e
  exact I1.kI (Nat.le_refl _) (I1.hok.fresh (Nat.le_refl _))
theorem wY {l:Expr}{tl:TE}(hl:PE X l tl):PI X tg l (AR X.K tl):=by
  intro pins s σ H R I h
  refine aM (hl pins s σ H _ I h) fun v s1 ⟨x,H1,I1,r1,q1⟩=>?_
  obtain ⟨a,e,⟨xs,hq⟩,q⟩:=q1
  subst e
  cases r1
  obtain ⟨its,rv,p,hz⟩:=I1.tuple hq
  refine wpAny_pyIter_tuple (show s1.heap.IsTuple a its.toArray from p) ?_
  refine ⟨s1.heap.objs.size,[s1.heap.objs.size],_,_,H1,rfl,I1.kept (t':=s1.toks) fun b o e=>Heap.get?_push_of_some _ e,pD a _,⟨_,Heap.get?_push_size _ rfl,rfl,rfl⟩,fun b hb=>?_,q⟩
  have e:b=s1.heap.objs.size:=by simpa using hb
  subst e
  exact I1.kI (Nat.le_refl _) (I1.hok.fresh (Nat.le_refl _))
theorem mj {pins:List (Addr×Obj)}{σ:St}{H:Hp}{s:Shared}{R:It→Hp→Prop}{E:Value→Shared→Prop}{lo hi:Int}{t u v:Tok}{tk:Nat}(I:Inv X pins σ H s)(h1: -(2 ^ 62)≤lo)(h2:lo < 2 ^ 62)(h3: -(2 ^ 62)≤hi)(h4:hi < 2 ^ 62)
    (q:R (qV lo (hi - lo).toNat) H):wpAny (model X.prog X.w) X.A (pyIter (.ref s.heap.objs.size)) (Aq X pins σ tg R) E {s with heap:=s.heap.push {cls:=.type "range",data:=.fields #[.int lo t,.int hi u,.int 1 v]},toks:=tk}:=by
  refine wpAny_pyIter_range (IsRange.new ..) (small_one h1 h2 h3 h4) ?_
  have I1:Inv X pins σ H {s with heap:=s.heap.push {cls:=.type "range",data:=.fields #[.int lo t,.int hi u,.int 1 v]},toks:=tk}:=I.kept fun b o e=>Heap.get?_push_of_some _ e
  refine ⟨(s.heap.push {cls:=.type "range",data:=.fields #[.int lo t,.int hi u,.int 1 v]}).objs.size,[(s.heap.push {cls:=.type "range",data:=.fields #[.int lo t,.int hi u,.int 1 v]}).objs.size],_,_,H,rfl,
    I1.kept (t':=tk) fun b o e=>Heap.get?_push_of_some _ e,oK _ lo (hi - lo).toNat,?_,fun b hb=>?_,q⟩
  · have e1:lo + ((0:Nat):Int) * 1=lo:=by simp
    have e2:(((hi - lo).toNat:Nat):Int) - ((0:Nat):Int)=Builtin.Range.rangeSize lo hi 1:=by rw [rangeSize_one];split<;>omega
    show IsRangeIter _ _ (lo + ((0:Nat):Int) * 1) ((((hi - lo).toNat:Nat):Int) - ((0:Nat):Int)) 1
    rw [e1,e2]
    exact Heap.get?_push_size _ rfl
  · have e:b=(s.heap.push {cls:=.type "range",data:=.fields #[.int lo t,.int hi u,.int 1 v]}).objs.size:=by simpa using hb
    subst e
    exact I1.kI (Nat.le_refl _) (I1.hok.fresh (Nat.le_refl _))
noncomputable def zG (ta:TA):TI:=fun σ H R=>ta σ H fun vs H1=>∃j:Int,vs=[.int j]∧ -(2 ^ 62)≤j∧j < 2 ^ 62∧R (qV 0 j.toNat) H1
noncomputable def y8 (ta:TA):TI:=fun σ H R=>ta σ H fun vs H1=>∃i j:Int,vs=[.int i,.int j]∧(-(2 ^ 62)≤i∧i < 2 ^ 62∧ -(2 ^ 62)≤j∧j < 2 ^ 62)∧R (qV i (j - i).toNat) H1
theorem qA {a:Expr}{ta:TA}{p pos:Pos}(hg:Gl X "range")(hm:X.mg "range"=none)(ha:PA X [a] ta)(hs:autoParam (starEach [a] X.env=[(false,eval a X.env)]) Fc.ag):PI X tg (.Call (.Name "range" p) [a] [] pos) (zG ta):=by
  intro pins s σ H R I h
  refine Call_ (gD I hg hm boot_range (PyProof.Rows.callWith_type1 (aM (ha pos pins s σ H _ I h) fun us s1 ⟨vs,H1,I1,r1,q1⟩=>?_) hs rfl))
  obtain ⟨j,e,q1,q2,q⟩:=q1
  subst e
  cases r1 with
  | cons r rr=>
    cases rr
    obtain ⟨t,rfl⟩:=r
    exact call_range_1 (mj I1 (by omega) (by omega) q1 q2 (by simpa using q))
theorem qd {a b:Expr}{ta:TA}{p pos:Pos}(hg:Gl X "range")(hm:X.mg "range"=none)(ha:PA X [a,b] ta)(hs:autoParam (starEach [a,b] X.env=[(false,eval a X.env),(false,eval b X.env)]) Fc.ag)(hs2:autoParam (starEach [b] X.env=[(false,eval b X.env)]) Fc.ag):
    PI X tg (.Call (.Name "range" p) [a,b] [] pos) (y8 ta):=by
  intro pins s σ H R I h
  refine Call_ (gD I hg hm boot_range (PyProof.Rows.callWith_type1 (aM (ha pos pins s σ H _ I h) fun us s1 ⟨vs,H1,I1,r1,q1⟩=>?_) (by rw [hs,hs2]) (by rw [hs2];rfl)))
  obtain ⟨i,j,e,⟨q1,q2,q3,q4⟩,q⟩:=q1
  subst e
  cases r1 with
  | cons r rr=>
    cases rr with
    | cons r' rr=>
      cases rr
      obtain ⟨t,rfl⟩:=r
      obtain ⟨t',rfl⟩:=r'
      exact call_range_2 (mj I1 q1 q2 q3 q4 q)
noncomputable def Bi (wi:TI)(g:TG)(tb:TS):TS:=fun D σ H=>wi σ H fun J H1=>∃W:Nat→Nat→St→Hp→Prop,(∃m,W 0 m σ H1)∧∀i m σ H,W i m σ H→
  (J.stop i H∧D.nx σ H)∨(J.go i H∧∃N:St→Hp→Prop,(∀σ' H',N σ' H'→∃m',m' < m∧W (i + 1) m' σ' H')∧∀x H',J.yld i H x H'→g x σ H' fun σ2 H2=>tb {D with nx:=N,ct:=N,bk:=D.nx} σ2 H2)
noncomputable def gu (fp:List Addr)(h:Heap):List (Addr×Obj):=fp.filterMap fun b=>(h.get? b).map fun o=>(b,o)
theorem ft {fp:List Addr}{h:Heap}{b:Addr}{o:Obj}(hb:b∈fp)(e:h.get? b=some o):(b,o)∈gu fp h:=List.mem_filterMap.mpr ⟨b,hb,by rw [e];rfl⟩
theorem rE {fp:List Addr}{h:Heap}{p:Addr×Obj}(hp:p∈gu fp h):p.1∈fp∧h.get? p.1=some p.2:=by
  obtain ⟨b,hb,e⟩:=List.mem_filterMap.mp hp
  cases q:h.get? b with
  | none=>rw [q] at e;cases e
  | some o=>
    rw [q] at e
    have e':(b,o)=p:=Option.some.inj e
    subst e'
    exact ⟨hb,q⟩
theorem Inv.pinned {pins:List (Addr×Obj)}{σ:St}{H:Hp}{s:Shared}{fp:List Addr}(I:Inv X pins σ H s)(hf:∀b∈fp,gT X pins H b)(ho:∀b∈fp,∃o,s.heap.get? b=some o∧∀v,o.data≠ .cell v):Inv X (pins++gu fp s.heap) σ H s:=
  I.fA fun p hp=>(List.mem_append.mp hp).elim (fun z=>I.pin p (List.mem_append_right _ z)) fun z=>by
    obtain ⟨hb,e⟩:=rE z
    obtain ⟨f0,f1,f2,_⟩:=hf p.1 hb
    obtain ⟨o,e',d⟩:=ho p.1 hb
    rw [e] at e';cases e'
    exact ⟨e,f0,f1,f2,d⟩
theorem Inv.jh {pins pl:List (Addr×Obj)}{σ:St}{H:Hp}{s:Shared}(I:Inv X (pins++pl) σ H s):Inv X pins σ H s:=I.fA fun p hp=>I.pin p (List.mem_append_right _ (List.mem_append_left _ hp))
theorem rL {iter:Expr}{body:List Stmt}{wi:TI}{g:TG}{tb:TS}{pos:Pos}(hp:PassesOwn (model X.prog X.w) X.A X.env X.xe)(hc:X.calm=true)(hi:PI X tg iter wi)(hg:PG X tg g)(hb:fJ X body tb)
    (hs:autoParam (∀x,foldedSetIterable iter X.env x=pure x) Fc.cJ):PS X (.For tg iter body [] pos) (Bi wi g tb):=by
  intro pins s σ H D I h
  refine wpAny_For (aM (hi pins s σ H _ I h) fun v s1 h1=>aM h1 fun itv s2 h2=>?_) hs
  obtain ⟨it,fp,tn,J,H2,e,I2,T,st2,f2,W,⟨m0,w0⟩,turn⟩:=h2
  subst e
  -- what stays true of the iterator's objects through the loop
  have stat:∀{H':Hp},(∀b∈fp,H' b=none)→∀b∈fp,gT X pins H' b:=fun hn b hb=>⟨hn b hb,(f2 b hb).2⟩
  refine codeAny_forLoop_any (fun n s'=>∃i σ' H',Inv X pins σ' H' s'∧tn i s'.heap∧(∀b∈fp,H' b=none)∧W i n σ' H') ?_ m0 ⟨0,σ,H2,I2,st2,fun b hb=>(f2 b hb).1,w0⟩
  rintro n s3 ⟨i,σ3,H3,I3,st3,fr3,w3⟩
  rcases turn i n σ3 H3 w3 with ⟨stop,qn⟩ | ⟨go,N,hN,step⟩
  · refine wpAny_passesOwn hp (aM (T.done X rfl rfl rfl hc i pins s3 σ3 H3 X.xe I3 (stat fr3) st3 stop) fun r s4 ⟨hr,I4⟩=>?_)
    subst hr
    exact wpAny_execs_nil ⟨σ3,H3,I4,qn⟩
  · refine wpAny_passesOwn hp (aM (T.item X rfl rfl rfl hc i pins s3 σ3 H3 X.xe I3 (stat fr3) st3 go) fun r s4 ⟨u,hr,h4⟩=>?_)
    subst hr
    refine wpAny_passesOwn hp (aM h4 fun _ s5 ⟨x,H5,I5,r5,y5,st5,fr5⟩=>?_)
    have I5':=I5.pinned (stat fr5) (T.obj _ _ st5)
    refine wpAny_passesOwn hp (aM (hg _ s5 σ3 H5 x u _ I5' r5 (step x H5 y5)) fun _ s6 ⟨σ6,H6,I6,q6⟩=>?_)
    refine wpAny_passesOwn hp (aM (hb _ s6 σ6 H6 _ I6 q6) fun f s7 q7=>?_)
    have again:∀{σ7:St} {H7:Hp},Inv X (pins++gu fp s5.heap) σ7 H7 s7→N σ7 H7→∃m,m < n∧∃i σ' H',Inv X pins σ' H' s7∧tn i s7.heap∧(∀b∈fp,H' b=none)∧W i m σ' H':=fun {σ7 H7} I7 n7=>by
      obtain ⟨m',hm,w7⟩:=hN σ7 H7 n7
      refine ⟨m',hm,i + 1,σ7,H7,I7.jh,T.keep _ _ _ st5 fun b hb o e=>(I7.pin (b,o) (List.mem_append_right _ (List.mem_append_right _ (ft hb e)))).1,fun b hb=>?_,w7⟩
      obtain ⟨o,e,d⟩:=T.obj _ _ st5 b hb
      exact (I7.pin (b,o) (List.mem_append_right _ (List.mem_append_right _ (ft hb e)))).2.1
    cases f with
    | next=>obtain ⟨σ7,H7,I7,n7⟩:=q7;exact again I7 n7
    | cont=>obtain ⟨σ7,H7,I7,n7⟩:=q7;exact again I7 n7
    | brk=>obtain ⟨σ7,H7,I7,q7⟩:=q7;exact ⟨σ7,H7,I7.jh,q7⟩
    | ret v=>obtain ⟨x7,σ7,H7,I7,r7,q7⟩:=q7;exact ⟨x7,σ7,H7,I7.jh,r7,q7⟩
end
noncomputable abbrev R2:=V→V→Hp→VK→Prop
noncomputable def c8 (X:Cx)(f:Value→Value→Sem Value)(r:R2):Prop:=
  ∀ (pins:List (Addr×Obj)) (s:Shared) (σ:St) (H:Hp) (x y:V) (v u:Value) (Q:VK),Inv X pins σ H s→RelV x v→RelV y u→r x y H Q→
    wpAny (model X.prog X.w) X.A (f v u) (EP X pins σ Q) X.xe s
noncomputable def x8 (X:Cx)(f:Value→Sem Value)(r:V→Hp→VK→Prop):Prop:=
  ∀ (pins:List (Addr×Obj)) (s:Shared) (σ:St) (H:Hp) (x:V) (v:Value) (Q:VK),Inv X pins σ H s→RelV x v→r x H Q→
    wpAny (model X.prog X.w) X.A (f v) (EP X pins σ Q) X.xe s
noncomputable def c6 (X:Cx)(f:Value)(r:List V→Hp→VK→Prop):Prop:=
  ∀ (pins:List (Addr×Obj)) (s:Shared) (σ:St) (H:Hp) (xs:List V) (us:List Value) (Q:VK),Inv X pins σ H s→Vals xs us→r xs H Q→
    wpAny (model X.prog X.w) X.A (call f us) (EP X pins σ Q) X.xe s
noncomputable def A4 (X:Cx)(r:V→Hp→(Bool→Hp→Prop)→Prop):Prop:=
  ∀ (pins:List (Addr×Obj)) (s:Shared) (σ:St) (H:Hp) (x:V) (v:Value) (Q:Bool→Hp→Prop),Inv X pins σ H s→RelV x v→r x H Q→
    wpAny (model X.prog X.w) X.A (truthy v) (TP X pins σ Q) X.xe s
noncomputable def ua (r:R2)(ta tb:TE):TE:=fun σ H Q=>ta σ H fun x H1=>tb σ H1 fun y H2=>r x y H2 Q
noncomputable def tUn (r:V→Hp→VK→Prop)(ta:TE):TE:=fun σ H Q=>ta σ H fun x H1=>r x H1 Q
noncomputable def rI (C:Int→Int→Prop)(g:Int→Int→V):R2:=fun x y H Q=>∃i j,x= .int i∧y= .int j∧C i j∧Q (g i j) H
noncomputable def m5 (g:Int→Int→V):R2:=fun x y H Q=>∃i j,x= .int i∧y= .int j∧Q (g i j) H
noncomputable def rU (g:Int→V):V→Hp→VK→Prop:=fun x H Q=>∃i,x= .int i∧Q (g i) H
section
variable {X:Cx}{a b c:Expr}{ta tb tc:TE}{pos:Pos}
theorem sP (ha:PE X a ta)(hb:PE X b tb){pins:List (Addr×Obj)}{s:Shared}{σ:St}{H:Hp}{R:V→V→Hp→Prop}(I:Inv X pins σ H s)
    (h:ta σ H fun x H1=>tb σ H1 fun y H2=>R x y H2) {Q:Value→Shared→Prop} {f:Value→Value→Sem Value}
    (hf:∀v u s2 x y H2,Inv X pins σ H2 s2→RelV x v→RelV y u→R x y H2→wpAny (model X.prog X.w) X.A (f v u) Q X.xe s2):
    wpAny (model X.prog X.w) X.A (eval a X.env) (fun v s₁=>wpAny (model X.prog X.w) X.A (eval b X.env) (fun u s₂=>wpAny (model X.prog X.w) X.A (f v u) Q X.xe s₂) X.xe s₁) X.xe s:=by
  refine aM (ha pins s σ H _ I h) fun v s1 ⟨x,H1,I1,r1,q1⟩=>?_
  refine aM (hb pins s1 σ H1 _ I1 q1) fun u s2 ⟨y,H2,I2,r2,q2⟩=>?_
  exact hf v u s2 x y H2 I2 r1 r2 q2
theorem jK {op:Operator}{r:R2}(ho:c8 X (binaryOp op) r)(ha:PE X a ta)(hb:PE X b tb):PE X (.BinOp a op b pos) (ua r ta tb):=by
  intro pins s σ H Q I h
  exact wpAny_BinOp (sP ha hb I h fun v u s2 x y H2 I2 rx ry q=>ho pins s2 σ H2 x y v u Q I2 rx ry q)
theorem zC {op:UnaryOp}{r:V→Hp→VK→Prop}(ho:x8 X (unaryOp op) r)(ha:PE X a ta):PE X (.UnaryOp op a pos) (tUn r ta):=by
  intro pins s σ H Q I h
  exact UnaryOp_ (aM (ha pins s σ H _ I h) fun v s1 ⟨x,H1,I1,r1,q1⟩=>ho pins s1 σ H1 x v Q I1 r1 q1)
theorem pT {f:Value→Value→Sem Value}{C:Int→Int→Prop}{g:Int→Int→Int}
    (rule:∀(i j:Int) (t u:Tok) (s:Shared) (Q:Value→Shared→Prop) (E:Value→Shared→Prop),C i j→Q (.int (g i j) s.toks) {s with toks:=s.toks + 1}→wpAny (model X.prog X.w) X.A (f (.int i t) (.int j u)) Q E s):
    c8 X f (rI C fun i j=>.int (g i j)):=by
  intro pins s σ H x y v u Q I rx ry h
  obtain ⟨i,j,rfl,rfl,hc,q⟩:=h
  obtain ⟨t,rfl⟩:=rx
  obtain ⟨t',rfl⟩:=ry
  exact rule i j t t' s _ _ hc ⟨.int (g i j),H,I.tok _,⟨_,rfl⟩,q⟩
theorem yC {f:Value→Value→Sem Value}{g:Int→Int→Int}
    (rule:∀(i j:Int) (t u:Tok) (s:Shared) (Q:Value→Shared→Prop) (E:Value→Shared→Prop),Q (.int (g i j) s.toks) {s with toks:=s.toks + 1}→wpAny (model X.prog X.w) X.A (f (.int i t) (.int j u)) Q E s):
    c8 X f (m5 fun i j=>.int (g i j)):=by
  intro pins s σ H x y v u Q I rx ry h
  obtain ⟨i,j,rfl,rfl,q⟩:=h
  obtain ⟨t,rfl⟩:=rx
  obtain ⟨t',rfl⟩:=ry
  exact rule i j t t' s _ _ ⟨.int (g i j),H,I.tok _,⟨_,rfl⟩,q⟩
theorem sE {f:Value→Value→Sem Value}{g:Int→Int→Bool}
    (rule:∀(i j:Int) (t u:Tok) (s:Shared) (Q:Value→Shared→Prop) (E:Value→Shared→Prop),Q (.bool (g i j)) s→wpAny (model X.prog X.w) X.A (f (.int i t) (.int j u)) Q E s):
    c8 X f (m5 fun i j=>.bl (g i j)):=by
  intro pins s σ H x y v u Q I rx ry h
  obtain ⟨i,j,rfl,rfl,q⟩:=h
  obtain ⟨t,rfl⟩:=rx
  obtain ⟨t',rfl⟩:=ry
  exact rule i j t t' s _ _ ⟨.bl (g i j),H,I,rfl,q⟩
noncomputable def yu (i j:Int):Prop:=0≤j∧j≤1000000∧i.natAbs < 2 ^ 64
noncomputable def pE (i j:Int):Prop:=(-(2 ^ 64) < i∧i < 2 ^ 64)∨(-(2 ^ 64) < j∧j < 2 ^ 64)
theorem pE.ok {i j:Int}(h:pE i j):IntMulOk i j:=by
  rcases h with ⟨h1,h2⟩ | ⟨h1,h2⟩
  · exact .of_left (intBits_le_64 h1 h2)
  · exact .of_right (intBits_le_64 h1 h2)
theorem xw:c8 X (binaryOp .Add) (m5 fun i j=>.int (i + j)):=yC fun _ _ _ _ _ _ _ q=>add_int q
theorem xC:c8 X (binaryOp .Sub) (m5 fun i j=>.int (i - j)):=yC fun _ _ _ _ _ _ _ q=>sub_int q
theorem yr:c8 X (binaryOp .Mult) (rI pE fun i j=>.int (i * j)):=pT fun _ _ _ _ _ _ _ hc q=>mul_int q hc.ok
theorem wU:c8 X (binaryOp .Mod) (rI (fun _ j=>0 < j) fun i j=>.int (i % j)):=pT fun i j _ _ _ _ _ hc q=>by
  have h1:(0:Int) < j:=hc
  exact mod_int' (by omega) (by rw [Int.fmod_eq_emod_of_nonneg i (by omega)];exact q)
theorem vN:c8 X (binaryOp .Pow) (rI yu fun i j=>.int (i ^ j.toNat)):=pT fun _ _ _ _ _ _ _ hc q=>pow_int_small hc.1 hc.2.1 hc.2.2 q
theorem unI {f:Value→Sem Value}{g:Int→Int}
    (rule:∀(i:Int) (t:Tok) (s:Shared) (Q:Value→Shared→Prop) (E:Value→Shared→Prop),Q (.int (g i) s.toks) {s with toks:=s.toks + 1}→wpAny (model X.prog X.w) X.A (f (.int i t)) Q E s):
    x8 X f (rU fun i=>.int (g i)):=by
  intro pins s σ H x v Q I rx h
  obtain ⟨i,rfl,q⟩:=h
  obtain ⟨t,rfl⟩:=rx
  exact rule i t s _ _ ⟨.int (g i),H,I.tok _,⟨_,rfl⟩,q⟩
theorem xP:x8 X (unaryOp .USub) (rU fun i=>.int (-i)):=unI fun _ _ _ _ _ q=>neg_int q
end
noncomputable def xB:V→V→Bool
  | .non,.non=>true | .non,.int _=>true | .int _,.non=>true | .non,.bl _=>true | .bl _,.non=>true | .non,.str _=>true | .str _,.non=>true
  | .int _,.int _=>true | .bl _,.bl _=>true | .str _,.str _=>true | .byt _,.byt _=>true
  | .int _,.str _=>true | .str _,.int _=>true | .bl _,.str _=>true | .str _,.bl _=>true
  | _,_=>false
noncomputable def rEq:R2:=fun x y H Q=>xB x y=true∧Q (.bl (decide (x=y))) H
noncomputable def rNe:R2:=fun x y H Q=>xB x y=true∧Q (.bl (!decide (x=y))) H
theorem iP {i j:Int}:decide (V.int i=V.int j)=(i==j):=by
  rw [Bool.eq_iff_iff]
  simp
theorem qf {i j:Bool}:decide (V.bl i=V.bl j)=(i==j):=by
  rw [Bool.eq_iff_iff]
  simp
theorem ox {i j:Str}:decide (V.str i=V.str j)=(i==j):=by
  rw [Bool.eq_iff_iff]
  simp
theorem nM {i j:Array UInt8}:decide (V.byt i=V.byt j)=(i.toList==j.toList):=by
  rw [Bool.eq_iff_iff]
  cases i
  cases j
  simp
section
variable {X:Cx}{a b c:Expr}{ta tb tc:TE}{pos:Pos}
theorem bu {pins:List (Addr×Obj)}{σ:St}{H:Hp}{s:Shared}{Q:VK}{k k':Bool}(I:Inv X pins σ H s)(q:Q (.bl k) H)(e:k=k'):EP X pins σ Q (.bool k') s:=by
  subst e
  exact ⟨.bl k,H,I,rfl,q⟩
theorem zt:c8 X (compareOp .Eq) rEq:=by
  intro pins s σ H x y v u Q I rx ry h
  obtain ⟨hs,q⟩:=h
  cases x with
  | non=>
    cases rx
    cases y with
    | non=>cases ry;exact PySem.EqNone.eq_none_none (bu I q (by simp))
    | bl j=>cases ry;exact PySem.EqNone.eq_none_bool (bu I q (by simp))
    | int j=>obtain ⟨t',rfl⟩:=ry;exact PySem.EqNone.eq_none_int (bu I q (by simp))
    | str j=>obtain ⟨t',rfl⟩:=ry;exact PySem.EqNone.eq_none_str (bu I q (by simp))
    | _=>exact absurd (show false=true from hs) Bool.false_ne_true
  | bl i=>
    cases rx
    cases y with
    | non=>cases ry;exact PySem.EqNone.eq_bool_none (bu I q (by simp))
    | bl j=>cases ry;exact eq_bool (bu I q qf)
    | str j=>obtain ⟨t',rfl⟩:=ry;exact PySem.EqMixed.eq_bool_str (bu I q (by simp))
    | _=>exact absurd (show false=true from hs) Bool.false_ne_true
  | int i=>
    obtain ⟨t,rfl⟩:=rx
    cases y with
    | non=>cases ry;exact PySem.EqNone.eq_int_none (bu I q (by simp))
    | int j=>obtain ⟨t',rfl⟩:=ry;exact eq_int (bu I q iP)
    | str j=>obtain ⟨t',rfl⟩:=ry;exact PySem.EqMixed.eq_int_str (bu I q (by simp))
    | _=>exact absurd (show false=true from hs) Bool.false_ne_true
  | str i=>
    obtain ⟨t,rfl⟩:=rx
    cases y with
    | non=>cases ry;exact PySem.EqNone.eq_str_none (bu I q (by simp))
    | bl j=>cases ry;exact PySem.EqMixed.eq_str_bool (bu I q (by simp))
    | int j=>obtain ⟨t',rfl⟩:=ry;exact PySem.EqMixed.eq_str_int (bu I q (by simp))
    | str j=>obtain ⟨t',rfl⟩:=ry;exact eq_str (bu I q ox)
    | _=>exact absurd (show false=true from hs) Bool.false_ne_true
  | byt i=>
    obtain ⟨t,rfl⟩:=rx
    cases y with
    | byt j=>obtain ⟨t',rfl⟩:=ry;exact PySem.W.eq_bytes (bu I q nM)
    | _=>exact absurd (show false=true from hs) Bool.false_ne_true
  | _=>cases y<;>exact absurd (show false=true from hs) Bool.false_ne_true
theorem yY:c8 X (compareOp .NotEq) rNe:=by
  intro pins s σ H x y v u Q I rx ry h
  obtain ⟨hs,q⟩:=h
  cases x with
  | non=>
    cases rx
    cases y with
    | non=>cases ry;exact PySem.EqNone.ne_none_none (bu I q (by simp))
    | bl j=>cases ry;exact PySem.EqNone.ne_none_bool (bu I q (by simp))
    | int j=>obtain ⟨t',rfl⟩:=ry;exact PySem.EqNone.ne_none_int (bu I q (by simp))
    | str j=>obtain ⟨t',rfl⟩:=ry;exact PySem.EqNone.ne_none_str (bu I q (by simp))
    | _=>exact absurd (show false=true from hs) Bool.false_ne_true
  | bl i=>
    cases rx
    cases y with
    | non=>cases ry;exact PySem.EqNone.ne_bool_none (bu I q (by simp))
    | bl j=>cases ry;exact ne_bool (bu I q (congrArg not qf))
    | str j=>obtain ⟨t',rfl⟩:=ry;exact PySem.EqMixed.ne_bool_str (bu I q (by simp))
    | _=>exact absurd (show false=true from hs) Bool.false_ne_true
  | int i=>
    obtain ⟨t,rfl⟩:=rx
    cases y with
    | non=>cases ry;exact PySem.EqNone.ne_int_none (bu I q (by simp))
    | int j=>obtain ⟨t',rfl⟩:=ry;exact ne_int (bu I q (congrArg not iP))
    | str j=>obtain ⟨t',rfl⟩:=ry;exact PySem.EqMixed.ne_int_str (bu I q (by simp))
    | _=>exact absurd (show false=true from hs) Bool.false_ne_true
  | str i=>
    obtain ⟨t,rfl⟩:=rx
    cases y with
    | non=>cases ry;exact PySem.EqNone.ne_str_none (bu I q (by simp))
    | bl j=>cases ry;exact PySem.EqMixed.ne_str_bool (bu I q (by simp))
    | int j=>obtain ⟨t',rfl⟩:=ry;exact PySem.EqMixed.ne_str_int (bu I q (by simp))
    | str j=>obtain ⟨t',rfl⟩:=ry;exact ne_str (bu I q (congrArg not ox))
    | _=>exact absurd (show false=true from hs) Bool.false_ne_true
  | byt i=>
    obtain ⟨t,rfl⟩:=rx
    cases y with
    | byt j=>obtain ⟨t',rfl⟩:=ry;exact PySem.W.ne_bytes (bu I q (congrArg not nM))
    | _=>exact absurd (show false=true from hs) Bool.false_ne_true
  | _=>cases y<;>exact absurd (show false=true from hs) Bool.false_ne_true
theorem zD:c8 X (compareOp .Lt) (m5 fun i j=>.bl (decide (i < j))):=sE fun _ _ _ _ _ _ _ q=>lt_int q
theorem zS:c8 X (compareOp .LtE) (m5 fun i j=>.bl (decide (i≤j))):=sE fun _ _ _ _ _ _ _ q=>le_int q
theorem zg:c8 X (compareOp .GtE) (m5 fun i j=>.bl (decide (j≤i))):=sE fun _ _ _ _ _ _ _ q=>ge_int q
theorem jw (b:Expr){op:CmpOp}(h:autoParam (op≠ .In) Fc.aw)(h2:autoParam (op≠ .NotIn) Fc.aw):behindInMarks op b=false:=by
  have e1:(op==CmpOp.In)=false:=by cases op<;>first | rfl | exact absurd rfl h
  have e2:(op==CmpOp.NotIn)=false:=by cases op<;>first | rfl | exact absurd rfl h2
  cases b<;>simp [behindInMarks,e1,e2]
theorem uX {op:CmpOp}{r:R2}(ho:c8 X (compareOp op) r)(ha:PE X a ta)(hb:PE X b tb)(hm:behindInMarks op b=false):PE X (.Compare a [op] [b] pos) (ua r ta tb):=by
  intro pins s σ H Q I h
  exact wpAny_Compare1 (sP ha hb I h fun v u s2 x y H2 I2 rx ry q=>ho pins s2 σ H2 x y v u Q I2 rx ry q) hm
noncomputable def uA (t:TE):TT:=fun σ H Q=>t σ H fun x H'=>∃k,x= .bl k∧Q k H'
theorem uM {op:CmpOp}{r:R2}(ho:c8 X (compareOp op) r)(ha:PE X a ta)(hb:PE X b tb)(hm:behindInMarks op b=false):PT X (.Compare a [op] [b] pos) (uA (ua r ta tb)):=by
  intro pins s σ H Q I h
  refine wpAny_isTrue_Compare1 (aM (ha pins s σ H _ I h) fun v s1 ⟨x,H1,I1,r1,q1⟩=>aM (hb pins s1 σ H1 _ I1 q1) fun u s2 ⟨y,H2,I2,r2,q2⟩=>
    aM (ho pins s2 σ H2 x y v u _ I2 r1 r2 q2) fun c s3 ⟨z,H3,I3,r3,k,e,q3⟩=>?_) hm
  subst e
  cases r3
  exact wpAny_truthy_bool ⟨H3,I3,q3⟩
noncomputable def pV (r r':R2)(ta tb tc:TE):TE:=fun σ H Q=>ta σ H fun x H1=>tb σ H1 fun y H2=>r x y H2 fun z H3=>∃k,z= .bl k∧
  (if k=true then tc σ H3 fun w' H4=>r' y w' H4 Q else Q (.bl false) H3)
theorem sU {op op':CmpOp}{r r':R2}(ho:c8 X (compareOp op) r)(ho':c8 X (compareOp op') r')(ha:PE X a ta)(hb:PE X b tb)(hc:PE X c tc)
    (hm:lastMarks [op,op'] [b,c]=false:=by with_unfolding_all rfl):PE X (.Compare a [op,op'] [b,c] pos) (pV r r' ta tb tc):=by
  intro pins s σ H Q I h
  refine Compare_chain (aM (ha pins s σ H _ I h) fun v s1 ⟨x,H1,I1,r1,q1⟩=>chain_link (aM (hb pins s1 σ H1 _ I1 q1) fun u s2 ⟨y,H2,I2,r2,q2⟩=>
    aM (ho pins s2 σ H2 x y v u _ I2 r1 r2 q2) fun d s3 ⟨z,H3,I3,r3,k,e,q3⟩=>?_)) hm
  subst e
  cases r3
  refine wpAny_truthy_bool ?_
  cases k with
  | false=>exact ite_ff ⟨.bl false,H3,I3,rfl,q3⟩
  | true=>exact ite_tt (chain_last (aM (hc pins s3 σ H3 _ I3 q3) fun w' s4 ⟨z',H4,I4,r4,q4⟩=>ho' pins s4 σ H4 y z' u w' Q I4 r2 r4 q4))
theorem sL {op op':CmpOp}{r r':R2}(ho:c8 X (compareOp op) r)(ho':c8 X (compareOp op') r')(ha:PE X a ta)(hb:PE X b tb)(hc:PE X c tc)
    (hm:lastMarks [op,op'] [b,c]=false:=by with_unfolding_all rfl):PT X (.Compare a [op,op'] [b,c] pos) (uA (pV r r' ta tb tc)):=by
  intro pins s σ H Q I h
  refine isTrue_chain (aM (ha pins s σ H _ I h) fun v s1 ⟨x,H1,I1,r1,q1⟩=>test_link (aM (hb pins s1 σ H1 _ I1 q1) fun u s2 ⟨y,H2,I2,r2,q2⟩=>
    aM (ho pins s2 σ H2 x y v u _ I2 r1 r2 q2) fun d s3 ⟨z,H3,I3,r3,k,e,q3⟩=>?_)) hm
  subst e
  cases r3
  refine wpAny_truthy_bool ?_
  cases k with
  | false=>
    obtain ⟨k',e',q'⟩:=q3
    cases e'
    exact ite_ff ⟨H3,I3,q'⟩
  | true=>
    refine ite_tt (test_last (aM (hc pins s3 σ H3 _ I3 q3) fun w' s4 ⟨z',H4,I4,r4,q4⟩=>aM (ho' pins s4 σ H4 y z' u w' _ I4 r2 r4 q4) fun d' s5 ⟨z2,H5,I5,r5,k2,e2,q5⟩=>?_))
    subst e2
    cases r5
    exact wpAny_truthy_bool ⟨H5,I5,q5⟩
noncomputable def xD (K:PySem.W.Frag)(x:V)(H:Hp)(k:Bool):Prop:=
  match x with
  | .non=>k=false
  | .bl b=>k=b
  | .int i=>k=(i != 0)
  | .str y=>y.length≤sizeLine∧k=((y.length:Int) != 0)
  | .byt y=>y.size≤sizeLine∧k=((y.size:Int) != 0)
  | .ref p=>(∃xs,aX K H p xs∧k= !xs.isEmpty)∨(∃xs,dc K H p xs∧k= !xs.isEmpty)∨∃kvs,H p=some (.dK kvs)∧k= !kvs.isEmpty
  | _=>False
theorem pL {κ:Type}{kvs:List (κ×V)}{vs:List (κ×Value)}(r:KV kvs vs):(!vs.isEmpty)= !kvs.isEmpty:=by
  cases r<;>rfl
theorem jt {xs:List V}{its:List Value}(r:Vals xs its):(!its.toArray.isEmpty)= !xs.isEmpty:=by
  cases r<;>simp
theorem iz:(sizeLine:Nat) < 2 ^ 63:=by rw [sizeLine_eq];decide
theorem x6:A4 X (fun x H Q=>∃k,xD X.K x H k∧Q k H):=by
  intro pins s σ H x v Q I rx h
  obtain ⟨k,e,q⟩:=h
  have hl:=iz
  have hs:sizeLine=16777216:=sizeLine_eq
  cases x with
  | non=>
    cases rx
    have e':k=false:=e
    subst e'
    exact truthy_none ⟨H,I,q⟩
  | bl b=>
    cases rx
    have e':k=b:=e
    subst e'
    exact wpAny_truthy_bool ⟨H,I,q⟩
  | int i=>
    obtain ⟨t,rfl⟩:=rx
    have e':k=(i != 0):=e
    subst e'
    exact PySem.P.truthy_int ⟨H,I,q⟩
  | str y=>
    obtain ⟨t,rfl⟩:=rx
    obtain ⟨hy,e'⟩:y.length≤sizeLine∧k=((y.length:Int) != 0):=e
    subst e'
    exact PySem.P.truthy_str (by omega) ⟨H,I.tok _,q⟩
  | byt y=>
    obtain ⟨t,rfl⟩:=rx
    obtain ⟨hy,e'⟩:y.size≤sizeLine∧k=((y.size:Int) != 0):=e
    subst e'
    exact PySem.W.truthy_bytes (by omega) ⟨H,I.tok _,q⟩
  | ref p=>
    cases rx
    have e':(∃xs,aX X.K H p xs∧k= !xs.isEmpty)∨(∃xs,dc X.K H p xs∧k= !xs.isEmpty)∨∃kvs,H p=some (.dK kvs)∧k= !kvs.isEmpty:=e
    rcases e' with ⟨xs,hx,e'⟩ | ⟨xs,hx,e'⟩ | ⟨kvs,hx,e'⟩
    · subst e'
      obtain ⟨its,r,pl,hz⟩:=I.list hx
      have hlen:=r.length
      exact wpAny_truthy_list pl.isList (by simp only [List.size_toArray];omega) ⟨H,I.tok _,by rw [jt r];exact q⟩
    · subst e'
      obtain ⟨its,r,pl,hz⟩:=I.tuple hx
      have hlen:=r.length
      exact truthy_tuple pl (by simp only [List.size_toArray];omega) ⟨H,I.tok _,by rw [jt r];exact q⟩
    · subst e'
      obtain ⟨hz,hS,vs,r,m⟩:kvs.length≤sizeLine∧(p==sysModules)=false∧∃vs,KV kvs vs∧s.heap.DictOf (cx X.prog X.w) p vs:=I.hok p _ hx
      have hlen:kvs.length=vs.length:=Paired.length r
      exact wpAny_truthy_dict hS m (by omega) ⟨H,I.tok _,by rw [pL r];exact q⟩
  | _=>exact (show False from e).elim
theorem nc (ha:PE X a ta)(he:∀whole,isTrue a X.env whole=(do let v ← whole;standAt a.pos;holding [v] (truthy v))):
    PT X a (fun σ H Q=>ta σ H fun x H'=>∃k,xD X.K x H' k∧Q k H'):=by
  intro pins s σ H Q I h
  exact isTrue_plain (aM (ha pins s σ H _ I h) fun v s1 ⟨x,H1,I1,r1,q1⟩=>x6 pins s1 σ H1 x v Q I1 r1 q1) (he _)
theorem vals1 {x:V}{us:List Value}(r:Vals [x] us):∃u,us=[u]∧RelV x u:=by
  cases r with
  | cons r1 r2=>cases r2;exact ⟨_,rfl,r1⟩
theorem vals2 {x y:V}{us:List Value}(r:Vals [x,y] us):∃u w',us=[u,w']∧RelV x u∧RelV y w':=by
  cases r with
  | cons r1 r2=>
    cases r2 with
    | cons r3 r4=>cases r4;exact ⟨_,_,rfl,r1,r3⟩
theorem qR (hc:X.calm=true):c6 X (.builtin "min") (fun xs H Q=>∃i j,xs=[.int i,.int j]∧Q (.int (if j < i then j else i)) H):=by
  intro pins s σ H xs us Q I r h
  obtain ⟨i,j,rfl,q⟩:=h
  obtain ⟨u,w',rfl,⟨t,rfl⟩,⟨t',rfl⟩⟩:=vals2 r
  refine min_two_ints (I.ok.hd hc) fun h' tk k=>⟨_,H,I.kept k,?_,q⟩
  by_cases hj:j < i
  · rw [if_pos hj,if_pos hj];exact ⟨_,rfl⟩
  · rw [if_neg hj,if_neg hj];exact ⟨_,rfl⟩
theorem qa:c6 X (.type "int") (fun xs H Q=>(∃i,xs=[.int i]∧Q (.int i) H)∨∃k,xs=[.bl k]∧Q (.int (if k then 1 else 0)) H):=by
  intro pins s σ H xs us Q I r h
  rcases h with ⟨i,rfl,q⟩ | ⟨k,rfl,q⟩
  · obtain ⟨u,rfl,t,rfl⟩:=vals1 r
    exact call_int_int ⟨.int i,H,I,⟨_,rfl⟩,q⟩
  · obtain ⟨u,rfl,r1⟩:=vals1 r
    cases r1
    exact call_int_bool ⟨.int (if k then 1 else 0),H,I.tok _,⟨_,rfl⟩,q⟩
end
structure tu (h:Heap) (x dx C:Addr) (mA:Str→Option Value):Prop where
  obj:h.get? x=some (PySem.W.instObj C dx)
  ns:h.Ns1 dx mA
  ne:dx≠x
theorem qB {h:Heap}{dx:Addr}{mA:Str→Option Value}(n:h.Ns1 dx mA):∃od,h.get? dx=some od∧∀name,PySem.W.lookIn name od=some (mA name):=by
  obtain ⟨o,es,ep,ho,hd,hk,_,hm⟩:=n
  refine ⟨o,ho,fun name=>?_⟩
  have e:=hm name
  unfold nsFind findBy at e
  rw [← Array.find?_toList] at e
  unfold PySem.W.lookIn
  rw [hd]
  dsimp only
  split
  · rename_i y q
    rw [q] at e
    exact congrArg some e
  · rename_i q
    rw [q] at e
    have a:es.toList.any (·.refKey)=false:=by
      rw [List.any_eq_false]
      intro y hy
      obtain ⟨z,t,hkey⟩:=hk y (Array.mem_toList_iff.mp hy)
      simp [DictEntry.refKey,hkey]
    have a':¬es.toList.any (·.refKey)=true:=by rw [a];exact Bool.false_ne_true
    rw [if_neg a']
    exact congrArg some e
theorem tu.look {h:Heap}{x dx C:Addr}{mA:Str→Option Value}(I:tu h x dx C mA):∃od,PySem.W.InstAt h x (PySem.W.instObj C dx) C (some od)∧∀name,PySem.W.lookIn name od=some (mA name):=
  let ⟨od,ho,hl⟩:=qB I.ns
  ⟨od,⟨I.obj,rfl,rfl,ho⟩,hl⟩
section
variable {prog:Program}{w:World}{A:Around}{E:Value→Shared→Prop}{s:Shared}{K:PySem.W.Frag}{x dx C f:Addr}{mA:Str→Option Value}{name:Str}{v:Value}
end
theorem fK.some_of {v:V}{o:Option Value}(r:fK (some v) o):∃u,o=some u∧RelV v u:=by
  cases o with
  | none=>exact (show False from r).elim
  | some u=>exact ⟨u,rfl,r⟩
section
variable {P:Program}{w:World}{H H':Hp}{h h':Heap}{a C dx:Addr}{fs fs':List (Str×V)}
theorem vj (hok:cU P w H h)(e:H a=some (.ins C dx fs)):∃mA,tu h a dx C mA∧(∀f,fK (fs.lookup f) (mA f))∧PySem.Within mA (fs.map (·.1))∧fs.length≤1000∧H dx=some (.own a):=by
  obtain ⟨d,z,ne,ob,mA,n,r,q⟩:=(show bT P w H h a (.ins C dx fs) from hok a _ e)
  exact ⟨mA,⟨ob,n,ne⟩,r,q,z,d⟩
end
structure xa (K:PySem.W.Frag) (C:Addr):Prop where
  pg:PySem.W.plainGet K C Str.empty=true
  hd:PySem.W.hasDictIn K C=true
  po:PySem.W.plainOver K C=true
  sa:PySem.W.findIn K (.ref C) "__setattr__"=some (some (.builtin "object.__setattr__"))
theorem xa.get {K:PySem.W.Frag}{C:Addr}(c:xa K C)(f:Str):PySem.W.plainGet K C f=true:=c.pg
section
variable {X:Cx}{pins:List (Addr×Obj)}{σ:St}{H:Hp}{s:Shared}{a C dx:Addr}{fs:List (Str×V)}{f:Str}{v:V}{A:Around}{E:Value→Shared→Prop}
end
section
variable {X:Cx}{o e value:Expr}{f:Str}{pos pos' tpos:Pos}{ta tv:TE}
end
section
variable {X:Cx}{pins:List (Addr×Obj)}{σ:St}{H:Hp}{s:Shared}{A:Around}{E:Value→Shared→Prop}{Q:Value→Shared→Prop}{c:Value}{b:Bool}
inductive dv (K:PySem.W.Frag) (H:Hp):V→Value→Prop where
  | non:dv K H .non (.type "NoneType")
  | bl (x:Bool):dv K H (.bl x) (.type "bool")
  | int (i:Int):dv K H (.int i) (.type "int")
  | str (x:Str):dv K H (.str x) (.type "str")
  | flt (x:UInt64):dv K H (.flt x) (.type "float")
  | lst {a:Addr} {xs:List V} (e:H a=some (.lst xs)):dv K H (.ref a) (.type "list")
  | frz {a:Addr} {o:Obj} {xs:List V} (e:H a=some (.frz o (.lst xs))):dv K H (.ref a) (.type "list")
  | tup {a:Addr} {xs:List V} (e:H a=some (.tup xs)):dv K H (.ref a) (.type "tuple")
  | dK {a:Addr} {kvs:List (Key×V)} (e:H a=some (.dK kvs)):dv K H (.ref a) (.type "dict")
  | dT {a:Addr} {kvs:List (List Key×V)} (e:H a=some (.dT kvs)):dv K H (.ref a) (.type "dict")
  | ins {a C dx:Addr} {fs:List (Str×V)} (e:H a=some (.ins C dx fs)) (cl:xa K C) (ha:PySem.W.findIn K (.ref C) "__class__"=some (some (.builtin "object.__class__")))
      (hn:PySem.W.specialIn K (.builtin "object.__class__") "__get__"=some (some (.builtin "getset_descriptor.__get__"))) (htk:PySem.W.takesIn K (.builtin "object.__class__")=some true)
      (hm:PySem.W.mroIn K C (.type "object")=some true):dv K H (.ref a) (.ref C)
theorem qr {x:V}{u t:Value}(I:Inv X pins σ H s)(rx:RelV x u)(ty:dv X.K H x t)(e:PySem.W.kitOne X.K t c=some b)(h:∀tk,Q (.bool b) {s with toks:=tk}):
    wpAny (model X.prog X.w) A (call (.builtin "isinstance") [u,c]) Q E s:=by
  cases ty with
  | non=>cases (show u=Value.none from rx);exact PySem.W.kia_one PySem.W.kitx_none I.eZ True.intro e (fun z=>nomatch z) h
  | bl y=>cases (show u=Value.bool y from rx);exact PySem.W.kia_one PySem.W.kitx_bool I.eZ True.intro e (fun z=>nomatch z) h
  | int i=>obtain ⟨t,q⟩:=(show∃t,u=Value.int i t from rx);cases q;exact PySem.W.kia_one PySem.W.kitx_int I.eZ True.intro e (fun z=>nomatch z) h
  | str y=>obtain ⟨t,q⟩:=(show∃t,u=Value.str y t from rx);cases q;exact PySem.W.kia_one PySem.W.kitx_str I.eZ True.intro e (fun z=>nomatch z) h
  | flt y=>obtain ⟨t,q⟩:=(show∃t,u=Value.float y t from rx);cases q;exact PySem.W.kia_one PySem.W.kitx_float I.eZ True.intro e (fun z=>nomatch z) h
  | @lst a xs ea=>
    cases (show u=Value.ref a from rx)
    obtain ⟨_,_,n,_,h1⟩:=(show bT X.prog X.w H s.heap a (.lst xs) from I.hok a _ ea)
    exact PySem.W.kia_one PySem.W.kitx_list I.eZ ⟨_,h1,rfl⟩ e (fun z=>nomatch z) h
  | @frz a ob xs ea=>
    cases (show u=Value.ref a from rx)
    obtain ⟨_,_,_,n,_,h1⟩:=(show bT X.prog X.w H s.heap a (.frz ob (.lst xs)) from I.hok a _ ea)
    exact PySem.W.kia_one PySem.W.kitx_list I.eZ ⟨_,h1,rfl⟩ e (fun z=>nomatch z) h
  | @tup a xs ea=>
    cases (show u=Value.ref a from rx)
    obtain ⟨_,_,_,p⟩:=(show bT X.prog X.w H s.heap a (.tup xs) from I.hok a _ ea)
    obtain ⟨o,h1,h2,_⟩:=p
    exact PySem.W.kia_one PySem.W.kitx_tuple I.eZ ⟨o,h1,h2⟩ e (fun z=>nomatch z) h
  | @dK a kvs ea=>
    cases (show u=Value.ref a from rx)
    obtain ⟨_,_,vs,_,p⟩:=(show bT X.prog X.w H s.heap a (.dK kvs) from I.hok a _ ea)
    obtain ⟨o,es,ep,h1,h2,_⟩:=p
    exact PySem.W.kia_one PySem.W.kitx_dict I.eZ ⟨o,h1,h2.1⟩ e (fun z=>nomatch z) h
  | @dT a kvs ea=>
    cases (show u=Value.ref a from rx)
    obtain ⟨_,_,xs,_,o,es,ep,h1,h2,_⟩:=(show bT X.prog X.w H s.heap a (.dT kvs) from I.hok a _ ea)
    exact PySem.W.kia_one PySem.W.kitx_dict I.eZ ⟨o,h1,h2.1⟩ e (fun z=>nomatch z) h
  | @ins a C dx fs ea cl ha hn htk hm=>
    cases (show u=Value.ref a from rx)
    obtain ⟨mA,O,_⟩:=vj I.hok ea
    obtain ⟨od,J,_⟩:=O.look
    exact PySem.W.kia_one (PySem.W.kitx_own (cl.get _) cl.hd ha hn htk hm) I.eZ J e (fun z=>nomatch z) h
end
structure bN (k:Nat) (A:Around):Prop where
  hd:A.handled=none
  dp:A.depth + 3 * k + 5 < recursionLimit
  un:A.units + 16 * k + 200 < cLine
theorem bN.mono {j k:Nat}{A:Around}(r:bN k A)(h:j≤k):bN j A:=⟨r.hd,by have:=r.dp;omega,by have:=r.un;omega⟩
theorem bN.deeper {k:Nat}{A:Around}(r:bN (k + 1) A)(env:Env):bN k (A.deeper env):=
  ⟨r.hd,by have:=r.dp;show A.depth + 1 + 3 * k + 5 < _;omega,by have:=r.un;show A.units + 3 + 16 * k + 200 < _;omega⟩
theorem bN.depth {k:Nat}{A:Around}(r:bN k A):A.depth < recursionLimit:=by have:=r.dp;omega
theorem bN.units {k:Nat}{A:Around}(r:bN k A):A.units + 64 < cLine:=by have:=r.un;omega
noncomputable def Bm:TA:=fun _ H Q=>Q [] H
noncomputable def yP (ta:TE)(tr:TA):TA:=fun σ H Q=>ta σ H fun x H1=>tr σ H1 fun xs H2=>Q (x::xs) H2
section
variable {X:Cx}{e:Expr}{es:List Expr}{te:TE}{t:TA}{pos:Pos}
theorem bU:PA X [] Bm:=fun _ _ _ _ H Q I h=>Calls.spliced_nil ⟨[],H,I,.nil,h⟩
theorem ba (ha:PE X e te)(hr:PA X es t)(hs:autoParam (starEach (e::es) X.env=(false,eval e X.env)::starEach es X.env) Fc.ag):PA X (e::es) (yP te t):=by
  intro pos pins s σ H Q I h
  rw [hs]
  show wpAny _ _ (spliced ((false,eval e X.env)::backTo pos (starEach es X.env))) _ _ s
  refine Calls.spliced_cons (aM (ha pins s σ H _ I h) fun u s1 ⟨x,H1,I1,r1,q1⟩=>?_)
  exact aM (hr pos pins s1 σ H1 _ I1 q1) fun us s2 ⟨xs,H2,I2,r2,q2⟩=>⟨x::xs,H2,I2,.cons r1 r2,q2⟩
noncomputable def Bh (t:TA):TE:=fun σ H Q=>t σ H fun xs H1=>xs.length≤sizeLine∧∀p,H1 p=none→Q (.ref p) (upd H1 p (.tup xs))
noncomputable def Bl (t:TA):TE:=fun σ H Q=>t σ H fun xs H1=>xs.length≤sizeLine∧∀p,H1 p=none→Q (.ref p) (upd H1 p (.lst xs))
theorem qp {x1}(h:PA X es t):PE X (.Tuple es x1 pos) (Bh t):=by
  intro pins s σ H Q I hq
  refine wpAny_Tuple_spliced (aM (h pos pins s σ H _ I hq) fun us s1 ⟨xs,H1,I1,r,z,q⟩=>⟨by rw [← r.length];exact z,?_⟩)
  have hf:H1 s1.heap.objs.size=none:=I1.hok.fresh (Nat.le_refl _)
  refine ⟨.ref s1.heap.objs.size,upd H1 s1.heap.objs.size (.tup xs),I1.laid (t':=s1.toks) (fun b u e=>Heap.get?_push_of_some _ e) (Nat.le_refl _) ?_,rfl,q _ hf⟩
  exact ⟨z,us,r,⟨_,Heap.get?_push_size _ rfl,rfl,_,rfl⟩⟩
theorem vL (h:PA X es t):PE X (.List es pos) (Bl t):=by
  intro pins s σ H Q I hq
  refine wpAny_List_spliced (aM (h pos pins s σ H _ I hq) fun us s1 ⟨xs,H1,I1,r,z,q⟩=>⟨by rw [← r.length];exact z,?_⟩)
  have hf:H1 s1.heap.objs.size=none:=I1.hok.fresh (Nat.le_refl _)
  refine ⟨.ref s1.heap.objs.size,upd H1 s1.heap.objs.size (.lst xs),I1.laid (t':=s1.toks) (fun b u e=>Heap.get?_push_of_some _ e) (Nat.le_refl _) ?_,rfl,q _ hf⟩
  exact ⟨z,us,0,r,Heap.get?_push_size _ rfl⟩
end
noncomputable abbrev Sp:=List V→Hp→VK→XK→Prop
noncomputable abbrev g9:=List Env→Hp→Shared→XK→Value→Shared→Prop
structure pC (P:Program) (w:World) (K:PySem.W.Frag) (mg:Str→Option Value) (base:Heap) (A:Around) (outer:List Env) (s:Shared) (H:Hp):Prop where
  frames:A.frames=some outer
  mod:Mod K mg base
  bs:∀b o,base.get? b=some o→s.heap.get? b=some o∧H b=none
  bsz:base.objs.size≤s.heap.objs.size
  funs:s.heap.FunFrames base outer
  frf:∀b∈gC outer,H b=none
  hok:cU P w H s.heap
  bare:AllBare s.gens
noncomputable def CE (outer:List Env)(P:Program)(w:World)(H:Hp)(s:Shared)(Q:VK)(u:Value)(s':Shared):Prop:=
  ∃v H',s'.os=s.os∧AllBare s'.gens∧Un (gC outer) [] H H' s.heap s'.heap∧cU P w H' s'.heap∧RelV v u∧Q v H'
noncomputable def CR (CX:g9)(outer:List Env)(P:Program)(w:World)(H:Hp)(s:Shared)(Q:VK)(E:XK)(r:Result)(s':Shared):Prop:=
  match r with
  | .ok (.ret u)=>CE outer P w H s Q u s'
  | .ok _=>False
  | .error e=>CX outer H s E e s'
structure dR (P:Program) (w:World) (K:PySem.W.Frag) (mg:Str→Option Value) (base:Heap) (CX:g9) (k:Nat) (f:Addr) (fd:FuncData) (ps:List Str) (sp:Sp):Prop where
  len:∀vs H Q E,sp vs H Q E→vs.length=ps.length
  run:∀(A:Around) (outer:List Env) (s:Shared) (H:Hp) (args:Args) (us:List Value) (vs:List V) (Q:VK) (E:XK),bN k A→pC P w K mg base A outer s H→BindsTo s fd args (ps.zip us)→Vals vs us→sp vs H Q E→
    codeAny (model P w) A (.call (.ref f) args) (CR CX outer P w H s Q E) s
theorem dR.mono {P:Program}{w:World}{K:PySem.W.Frag}{mg:Str→Option Value}{base:Heap}{CX:g9}{j k:Nat}{f:Addr}{fd:FuncData}{ps:List Str}{sp:Sp}(F:dR P w K mg base CX j f fd ps sp)(h:j≤k):
    dR P w K mg base CX k f fd ps sp:=⟨F.len,fun A outer s H args us vs Q E hr=>F.run A outer s H args us vs Q E (hr.mono h)⟩
section
variable {X:Cx}{pins:List (Addr×Obj)}{σ:St}{H:Hp}{s s':Shared}
theorem Inv.A8 (I:Inv X pins σ H s):pC X.prog X.w X.K X.mg X.base X.A X.stack s H:=
  ⟨I.ok.frames,I.ok.mod,I.bs,Nat.le_trans I.ok.bsz I.sz,I.stack,I.n5,I.hok,I.bare⟩
theorem Inv.after {Q:VK}{u:Value}(I:Inv X pins σ H s)(h:CE X.stack X.prog X.w H s Q u s'):EP X pins σ Q u s':=by
  obtain ⟨v,H',os,bare,un,hok,r,q⟩:=h
  obtain ⟨hh,g,d,t,os'⟩:=s'
  obtain rfl:os'=s.os:=os
  exact ⟨v,H',I.call (h':=hh) (g':=g) (d':=d) (t':=t) (ch:=[]) un hok bare (fun b z=>absurd z (by simp)),r,q⟩
end
noncomputable def zZ (sp:Sp)(dvs:List V)(E:XK)(t:TA):TE:=fun σ H Q=>t σ H fun vs H1=>sp (vs++dvs) H1 Q E
noncomputable def Binds (K:PySem.W.Frag)(fd:FuncData)(ps:List Str)(ds:List Value):Prop:=
  ∀(s:Shared) (us:List Value),K.In s.heap→(us++ds).length=ps.length→BindsTo s fd ⟨us,[]⟩ (ps.zip (us++ds))
theorem Binds.all {K:PySem.W.Frag}{fd:FuncData}{ps:List Str}(h:∀us:List Value,us.length=ps.length→bindArgs fd ⟨us,[]⟩=pure (ps.zip us)):Binds K fd ps []:=fun s us _ hl=>by
  rw [List.append_nil] at hl ⊢
  exact .of_eq (h us hl)
noncomputable def Passes (CX:g9)(X:Cx)(E:XK):Prop:=∀(pins:List (Addr×Obj)) (σ:St) (H:Hp) (s:Shared) (e:Value) (s':Shared),Inv X pins σ H s→CX X.stack H s E e s'→X.xe e s'
section
variable {X:Cx}{CX:g9}{k:Nat}{f C:Addr}{fd:FuncData}{ps:List Str}{sp:Sp}{dvs:List V}{ds:List Value}{E:XK}{x m:Str}{p pos apos:Pos}{e o:Expr}{es:List Expr}{ta:TE}{t:TA}
theorem xN {pins:List (Addr×Obj)}{σ:St}{H:Hp}{s:Shared}{Q:VK}{us:List Value}{vs:List V}(F:dR X.prog X.w X.K X.mg X.base CX k f fd ps sp)(hr:bN k X.A)(hb:Binds X.K fd ps ds)(hd:Vals dvs ds)(hx:Passes CX X E)
    (I:Inv X pins σ H s) (r:Vals vs us) (h:sp (vs++dvs) H Q E):wpAny (model X.prog X.w) X.A (call (.ref f) us) (EP X pins σ Q) X.xe s:=by
  have r2:Vals (vs++dvs) (us++ds):=r.append hd
  have hl:(us++ds).length=ps.length:=by rw [← r2.length];exact F.len _ _ _ _ h
  refine wpAny_call (codeAny_mono (F.run X.A X.stack s H ⟨us,[]⟩ (us++ds) (vs++dvs) Q E hr I.A8 (hb s us I.eZ hl) r2 h) fun r s' hq=>?_)
  cases r with
  | error e=>exact hx pins σ H s e s' I hq
  | ok fl=>
    cases fl with
    | ret u=>exact I.after hq
    | next=>exact False.elim hq
    | brk=>exact False.elim hq
    | cont=>exact False.elim hq
theorem kE (F:dR X.prog X.w X.K X.mg X.base CX k f fd ps sp)(hr:bN k X.A)(hg:Gl X x)(hm:X.mg x=some (.ref f))(hk:PySem.W.keepIn X.K (.ref f)=true)(hb:Binds X.K fd ps ds)(hd:Vals dvs ds)(hx:Passes CX X E)
    (ha:PA X (e::es) t) (hdb:autoParam ((x==("__debug__":Str))=false) Fc.aw) (he:autoParam (starEach (e::es) X.env=(false,eval e X.env)::starEach es X.env) Fc.ag) (hpl:autoParam ((backTo pos (starEach es X.env)).any (·.1)=false) Fc.ag):
    PE X (.Call (.Name x p) (e::es) [] pos) (zZ sp dvs E t):=by
  intro pins s σ H Q I h
  refine wpAny_Call_Name_kw (nP I hg hm ?_ hdb)
  refine PySem.W.callWith_K (h₀:=X.base) I.ok.mod.kin hk (aM (ha pos pins s σ H _ I h) fun us s1 ⟨vs,H1,I1,r,q⟩=>⟨I1.eZ,?_⟩) he hpl
  exact xN F hr hb hd hx I1 r q
end
section
variable {X:Cx}{CX:g9}{k:Nat}{f C:Addr}{fd:FuncData}{ps ks:List Str}{sp:Sp}{E:XK}{x m:Str}{p pos apos kpos:Pos}{e o:Expr}{es:List Expr}{kws:List Keyword}{te ta:TE}{t tk:TA}{nm:Option Str}
variable {g:List Value→List Value→List Value}{gV:List V→List V→List V}
end
structure aE (N P:List Str) (sc:Scope):Prop where
  kind:sc.kind= .function
  co:sc.isCoroutine=false
  gen:sc.isGenerator=false
  nd:N.Nodup
  pre:N.take P.length=P
  par:∀x∈P,sc.names.lookup x=some .local∨sc.names.lookup x=some .cell
  nofree:∀y∈sc.names,y.2≠ .free
theorem k3 {kindOf:Str→Option NameKind}{x:Str}:∀{binds:List (Str×Value)} {m:Str→Option Value},(∀v,(x,v)∉binds)→bindL kindOf binds m x=m x
  | [],_,_=>rfl
  | (n,v)::r,m,h=>by
    unfold bindL
    rw [k3 fun w hw=>h w (List.mem_cons_of_mem _ hw)]
    split
    · have:x≠n:=by rintro rfl;exact h v List.mem_cons_self
      simp [this]
    · rfl
theorem lH {kindOf:Str→Option NameKind}{x:Str}:∀{binds:List (Str×Value)} {m:Str→Option Value},(∀v,(x,v)∉binds)→bindC kindOf binds m x=m x
  | [],_,_=>rfl
  | (n,v)::r,m,h=>by
    unfold bindC
    rw [lH fun w hw=>h w (List.mem_cons_of_mem _ hw)]
    split
    · rfl
    · have:x≠n:=by rintro rfl;exact h v List.mem_cons_self
      simp [this]
theorem kY {kindOf:Str→Option NameKind}{x:Str}{v:Value}:∀{P:List Str} {vs:List Value} {i:Nat} {m:Str→Option Value},P.Nodup→P[i]?=some x→vs[i]?=some v→kindOf x=some .local→
    bindL kindOf (P.zip vs) m x=some v
  | [],_,_,_,_,h,_,_=>by simp at h
  | _::_,[],_,_,_,_,h,_=>by simp at h
  | p::P,w::vs,0,m,nd,h1,h2,hk=>by
    simp at h1 h2;subst h1;subst h2
    show bindL kindOf ((p,w)::P.zip vs) m p=_
    unfold bindL
    rw [k3 fun v hv=>(List.nodup_cons.mp nd).1 (List.of_mem_zip hv).1,if_pos hk]
    simp
  | p::P,w::vs,i + 1,m,nd,h1,h2,hk=>by
    show bindL kindOf ((p,w)::P.zip vs) m x=_
    unfold bindL
    exact kY (i:=i) (List.nodup_cons.mp nd).2 (by simpa using h1) (by simpa using h2) hk
theorem k6 {kindOf:Str→Option NameKind}{x:Str}{v:Value}:∀{P:List Str} {vs:List Value} {i:Nat} {m:Str→Option Value},P.Nodup→P[i]?=some x→vs[i]?=some v→kindOf x≠some .local→
    bindC kindOf (P.zip vs) m x=some v
  | [],_,_,_,_,h,_,_=>by simp at h
  | _::_,[],_,_,_,_,h,_=>by simp at h
  | p::P,w::vs,0,m,nd,h1,h2,hk=>by
    simp at h1 h2;subst h1;subst h2
    show bindC kindOf ((p,w)::P.zip vs) m p=_
    unfold bindC
    rw [lH fun v hv=>(List.nodup_cons.mp nd).1 (List.of_mem_zip hv).1,if_neg hk]
    simp
  | p::P,w::vs,i + 1,m,nd,h1,h2,hk=>by
    show bindC kindOf ((p,w)::P.zip vs) m x=_
    unfold bindC
    exact k6 (i:=i) (List.nodup_cons.mp nd).2 (by simpa using h1) (by simpa using h2) hk
noncomputable def start (N:List Str)(vs:List V):St:=vs.map some++List.replicate (N.length - vs.length) none
noncomputable def ef (CX:g9)(P:Program)(w:World)(K:PySem.W.Frag)(mg:Str→Option Value)(base:Heap)(N:List Str)(qual:Str)(scope:Scope)(f:Addr)(cd:Value)(A:Around)(outer:List Env)(s:Shared)(H:Hp)(E:XK):Cx where
  prog:=P
  w:=w
  K:=K
  mg:=mg
  base:=base
  A:=A.deeper (envOfC qual scope s.heap.objs.size f cd)
  N:=N
  s₀:=s
  H₀:=H
  env:=envOfC qual scope s.heap.objs.size f cd
  outer:=outer
  stack:=envOfC qual scope s.heap.objs.size f cd::outer
  ex:=[]
  calm:=true
  fn:=fun _=>true
  pn:=[]
  xe:=fun e s'=>wpAny (model P w) (A.deeper (envOfC qual scope s.heap.objs.size f cd)) (leaving (envOfC qual scope s.heap.objs.size f cd) e) (fun _ s''=>CX outer H s E e s'') (fun e' s''=>CX outer H s E e' s'') s'
theorem aC {sc:Scope}{n:Nat}{x:Str}(h:sc.names.lookup x=some .cell):∃c,(cellsFrom n sc.names []).lookup x=some c:=by
  have q:=PySem.W.cellsFrom_some sc.names n [] (.inl h)
  exact Option.isSome_iff_exists.mp q
theorem p9 {CX:g9}{P:Program}{w:World}{K:PySem.W.Frag}{mg:Str→Option Value}{base:Heap}{N ps:List Str}{qual:Str}{scope:Scope}{f:Addr}{cd:Value}{A:Around}{outer:List Env}{s s1:Shared}{H:Hp}{E:XK}{us:List Value}{vs:List V}
    (S:aE N ps scope) (hd:A.handled=none) (e0:pC P w K mg base A outer s H) (hl:vs.length=ps.length) (r:Vals vs us)
    (x:InCallC s s.heap.objs.size (bindL (envOfC qual scope s.heap.objs.size f cd).kindOf (ps.zip us) fun _=>none) (cellsFrom (s.heap.objs.size + 1) scope.names []) (bindC (envOfC qual scope s.heap.objs.size f cd).kindOf (ps.zip us) fun _=>none) s1):
    Inv (ef CX P w K mg base N qual scope f cd A outer s H E) [] (start N vs) H s1:=by
  have hpl:ps.length≤N.length:=by have:=congrArg List.length S.pre;rw [List.length_take] at this;omega
  obtain ⟨h1,tk,rfl,hk⟩:=x.done
  have noA:∀b:Addr,b∉(ef CX P w K mg base N qual scope f cd A outer s H E).ex:=fun b z=>absurd (show b∈([]:List Addr) from z) (by simp)
  refine ⟨⟨e0.mod,S.kind,rfl,rfl,Nat.le_refl _,fun y z c h1 h2=>?_,fun y hy=>?_,fun y c _ h=>?_,fun _=>hd,Around.frames_deeper e0.frames,.inr ⟨rfl,rfl⟩,fun b z=>absurd z (noA b),e0.bs,e0.bsz,fun b _ _=>noA b,fun b z=>absurd z (noA b),e0.funs,e0.frf⟩,
    rfl,e0.bare,Un.kept hk,⟨_,x.toInCall.ns,fun i y v h1 h2 h3=>?_⟩,fun y c h=>⟨_,x.cell y c h⟩,e0.hok.fresh (Nat.le_refl _),fun y c h=>?_,fun p hp=>absurd (show p∈([]:List (Addr×Obj)) from hp) (by simp),e0.hok.kept hk,?_⟩
  · exact name_of_addr x.apart (PySem.mem_of_lookup h1) (PySem.mem_of_lookup h2)
  · have hy:scope.names.lookup y=some .cell∨scope.names.lookup y=some .free:=hy
    rcases hy with hy | hy
    · exact aC hy
    · exact absurd rfl (S.nofree _ (PySem.mem_of_lookup hy))
  · exact Nat.le_of_lt (x.above y c (PySem.mem_of_lookup h))
  · have hi:i < vs.length:=by
      unfold start at h2
      by_cases hi:i < vs.length
      · exact hi
      · rw [List.getElem?_append_right (by simpa using hi)] at h2
        rw [List.getElem?_replicate] at h2
        split at h2<;>cases h2
    have ha:vs[i]?=some v:=by
      unfold start at h2
      rw [List.getElem?_append_left (by simpa using hi),List.getElem?_map] at h2
      cases e:vs[i]? with
      | none=>rw [e] at h2;cases h2
      | some a=>rw [e] at h2;cases h2;rfl
    obtain ⟨u,hu,rv⟩:=r.get ha
    have hp:ps[i]?=some y:=by
      rw [← S.pre,List.getElem?_take_of_lt (by omega)];exact h1
    have ndP:ps.Nodup:=by rw [← S.pre];exact S.nd.sublist (List.take_sublist _ _)
    refine ⟨u,rv,?_⟩
    rcases S.par y (List.mem_of_getElem? hp) with k | k
    · exact .inl ⟨k,kY ndP hp hu k⟩
    · obtain ⟨c,e⟩:=aC (n:=s.heap.objs.size + 1) k
      refine .inr ⟨.inl k,c,e,?_⟩
      have q:=x.cell y c e
      rw [k6 ndP hp hu (by show scope.names.lookup y≠_;rw [k];decide)] at q
      exact q
  · exact e0.hok.fresh (Nat.le_of_lt (x.above y c (PySem.mem_of_lookup h)))
  · unfold start
    show _=N.length
    rw [List.length_append,List.length_map,List.length_replicate]
    omega
theorem yV {CX:g9}{P:Program}{w:World}{K:PySem.W.Frag}{mg:Str→Option Value}{base:Heap}{k:Nat}{f:Addr}{name qual:Str}{params:Arguments}{body:List Stmt}{scope:Scope}{dV kV doc pm cdv ct oc:Value}{an od:Option Addr}
    {osl:Array (Option Value)} {N ps:List Str} {sp:Sp} (lk:K.lookup f=some ⟨oc,od,.func (PySem.W.fnOf name qual params body scope dV kV doc pm an cdv ct),osl⟩) (hcd:PySem.W.codeIn K cdv qual=true) (S:aE N ps scope)
    (len:∀vs H Q E,sp vs H Q E→vs.length=ps.length)
    (hbody:∀(A:Around) (outer:List Env) (s:Shared) (H:Hp) (vs:List V) (Q:VK) (E:XK),bN k (A.deeper (envOfC qual scope s.heap.objs.size f cdv))→sp vs H Q E→
      ∃t,fJ (ef CX P w K mg base N qual scope f cdv A outer s H E) body t∧t {nx:=fun _ H'=>Q .non H',rt:=Q} (start N vs) H):
    dR P w K mg base CX (k + 1) f (PySem.W.fnOf name qual params body scope dV kV doc pm an cdv ct) ps sp:=by
  refine ⟨len,fun A outer s H args us vs Q E hr e0 hb r hsp=>?_⟩
  have hl:=len _ _ _ _ hsp
  have KX:K.In s.heap:=e0.mod.kin.keeps fun b o e=>(e0.bs b o e).1
  have lim:s.heap.NoLimit:=e0.mod.nolimit.keeps fun b o e=>(e0.bs b o e).1
  have hkind:∀y∈ps.zip us,scope.names.lookup y.1=some .local∨(scope.names.lookup y.1=some .cell∧((cellsFrom (s.heap.objs.size + 1) scope.names []).lookup y.1).isSome=true):=fun ⟨n,v⟩ hy=>by
    rcases S.par n (List.of_mem_zip hy).1 with q | q
    · exact .inl q
    · exact .inr ⟨q,PySem.W.cellsFrom_some _ _ _ (.inl q)⟩
  refine codeAny_call_function hr.depth (KX _ _ lk) rfl S.co S.gen rfl (PySem.W.codeRec_of KX hcd) (hb _ _ _ _ ?_)
  refine wpAny_newFunctionEnv_cells S.kind hkind fun env he s1 x=>?_
  subst he
  refine ⟨lim.keeps x.toInCall.keep,codeAny_func ?_⟩
  obtain ⟨t,ht,hq⟩:=hbody A outer s H vs Q E (hr.deeper _) hsp
  have I:Inv (ef CX P w K mg base N qual scope f cdv A outer s H E) [] (start N vs) H s1:=p9 S hr.hd e0 hl r x
  refine wpAny_mono (ht [] s1 (start N vs) H _ I hq) (fun fl s' hs=>?_) fun e s' hs=>hs
  have fin:∀{σ':St} {H':Hp} {v:V} {u:Value},Inv (ef CX P w K mg base N qual scope f cdv A outer s H E) [] σ' H' s'→RelV v u→Q v H'→CE outer P w H s Q u s':=
    fun {σ' H' v u} J rv q=>⟨v,H',J.os,J.bare,J.base,J.hok,rv,q⟩
  cases fl with
  | ret u=>
    obtain ⟨v,σ',H',J,rv,q⟩:=hs
    exact fin J rv q
  | next=>
    obtain ⟨σ',H',J,q⟩:=hs
    exact fin (v:=V.non) (u:=Value.none) J rfl q
  | brk=>
    obtain ⟨_,_,_,q⟩:=hs
    exact False.elim q
  | cont=>
    obtain ⟨_,_,_,q⟩:=hs
    exact False.elim q
section
variable {X:Cx}{x:Str}{p pos:Pos}{e:Expr}{es:List Expr}{t:TA}{id T:String}{r:List V→Hp→VK→Prop}
noncomputable def AA (r:List V→Hp→VK→Prop)(t:TA):TE:=fun σ H Q=>t σ H fun vs H1=>r vs H1 Q
theorem dk (hc:c6 X (.builtin id) r)(hg:Gl X x)(hm:X.mg x=none)(hv:bootBuiltins x=some (.builtin id))(ha:PA X (e::es) t)(hn:autoParam (x≠"__name__") Fc.aw)(hdb:autoParam ((x==("__debug__":Str))=false) Fc.aw)
    (he:autoParam (starEach (e::es) X.env=(false,eval e X.env)::starEach es X.env) Fc.ag) (hpl:autoParam ((backTo pos (starEach es X.env)).any (·.1)=false) Fc.ag):PE X (.Call (.Name x p) (e::es) [] pos) (AA r t):=by
  intro pins s σ H Q I h
  refine wpAny_Call_Name_kw (gD I hg hm hv ?_ hn hdb)
  exact PyProof.Rows.callWith_builtin1 (aM (ha pos pins s σ H _ I h) fun us s1 ⟨vs,H1,I1,r1,q1⟩=>hc pins s1 σ H1 vs us Q I1 r1 q1) he hpl
theorem eW (hc:c6 X (.type T) r)(hg:Gl X x)(hm:X.mg x=none)(hv:bootBuiltins x=some (.type T))(ha:PA X (e::es) t)(hn:autoParam (x≠"__name__") Fc.aw)(hdb:autoParam ((x==("__debug__":Str))=false) Fc.aw)
    (he:autoParam (starEach (e::es) X.env=(false,eval e X.env)::starEach es X.env) Fc.ag) (hpl:autoParam ((backTo pos (starEach es X.env)).any (·.1)=false) Fc.ag):PE X (.Call (.Name x p) (e::es) [] pos) (AA r t):=by
  intro pins s σ H Q I h
  refine wpAny_Call_Name_kw (gD I hg hm hv ?_ hn hdb)
  exact PyProof.Rows.callWith_type1 (aM (ha pos pins s σ H _ I h) fun us s1 ⟨vs,H1,I1,r1,q1⟩=>hc pins s1 σ H1 vs us Q I1 r1 q1) he hpl
end
end L2
namespace HT
open PySem PyProof.Rows
section
open PySem.SeqAt
open PySem.AutoSeq1 (wpAny_loadPart')
open PySem.MeetsSeq PySem.MeetsSeq2 PySem.MeetsSeq3
end
section
variable {prog:Program}{w:World}{A:Around}{E:Value→Shared→Prop}{s:Shared}
noncomputable def sIx (n d:Nat):Option Int→Nat
  | none=>d
  | some v=>if v < 0 then (v + (n:Int)).toNat else min v.toNat n
theorem x4 (n d:Nat)(hd:d≤n)(o:Option Int):sIx n d o≤n:=by
  cases o with
  | none=>exact hd
  | some v=>
    show (if v < 0 then (v + (n:Int)).toNat else min v.toNat n)≤n
    by_cases hv:v < 0
    · rw [if_pos hv];omega
    · rw [if_neg hv];exact Nat.min_le_right _ _
theorem oC (v:Int)(n d:Nat):(if v < 0 then max (v + (n:Int)) 0 else min v (n:Int))=((sIx n d (some v):Nat):Int):=by
  show (if v < 0 then max (v + (n:Int)) 0 else min v (n:Int))=(((if v < 0 then (v + (n:Int)).toNat else min v.toNat n):Nat):Int)
  by_cases hv:v < 0
  · simp only [if_pos hv];omega
  · simp only [if_neg hv];omega
theorem oY (lo hi:Option Int)(n:Nat):Builtin.Slice.sliceAdjust lo hi 1 (n:Int)=(((sIx n 0 lo:Nat):Int),((sIx n n hi:Nat):Int)):=by
  have h1:¬((1:Int) < 0):=by omega
  unfold Builtin.Slice.sliceAdjust
  simp only [h1,if_false]
  refine Prod.ext ?_ ?_
  · cases lo with
    | none=>rfl
    | some v=>exact oC v n 0
  · cases hi with
    | none=>rfl
    | some v=>exact oC v n n
theorem pF (i j:Nat):Builtin.Slice.slicePlaces (i:Int) (j:Int) 1=j - i:=by
  unfold Builtin.Slice.slicePlaces
  have h1:(1:Int) > 0:=by omega
  simp only [h1,if_true,Int.ediv_one]
  split<;>omega
theorem jJ {v:Value}{o:Option Int}{Q:Option Int→Shared→Prop}(p:IsPart v o)(h:Q o s):wpAny (model prog w) A (Builtin.Slice.slicePartIndex v) Q E s:=by
  cases p with
  | none=>exact slicePart_none h
  | int i t=>exact slicePart_int h
theorem jg {sl:Addr}{vl vu:Value}{lo hi:Option Int}{n:Nat}{Q:Int×Int×Nat→Shared→Prop}(hs:s.heap.IsSliceOf sl vl vu .none)(pl:IsPart vl lo)(pu:IsPart vu hi)
    (h:Q (((sIx n 0 lo:Nat):Int),1,sIx n n hi - sIx n 0 lo) s):wpAny (model prog w) A (Builtin.Slice.sliceApplied (.ref sl) (pure (n:Int))) Q E s:=by
  obtain ⟨os,hos,hcs,hds⟩:=id hs
  unfold Builtin.Slice.sliceApplied Builtin.Slice.sliceFields
  refine wpAny_bind (wpAny_bind (wpAny_field hos hds (x:=vl) rfl (wpAny_bind (wpAny_field hos hds (x:=vu) rfl (wpAny_bind (wpAny_field hos hds (x:=.none) rfl (wpAny_pure ?_)))))))
  refine wpAny_bind (slicePart_none ?_)
  show wpAny _ _ (if ((1:Int)==0)=true then _ else _) _ _ s
  rw [if_neg (by decide)]
  refine wpAny_bind (jJ pl (wpAny_bind (jJ pu (wpAny_bind (wpAny_pure ?_)))))
  show wpAny _ _ (match Builtin.Slice.sliceAdjust lo hi 1 (n:Int) with | (lo,hi)=>pure (lo,(1:Int),Builtin.Slice.slicePlaces lo hi 1)) _ _ s
  rw [oY lo hi n]
  show wpAny _ _ (pure (((sIx n 0 lo:Nat):Int),(1:Int),Builtin.Slice.slicePlaces ((sIx n 0 lo:Nat):Int) ((sIx n n hi:Nat):Int) 1)) _ _ s
  rw [pF]
  exact wpAny_pure h
theorem sF (xs:Array Value)(i k:Nat):((List.range k).filterMap fun (m:Nat)=>xs[((i:Int) + (m:Int) * 1).toNat]?).toArray=((xs.toList.drop i).take k).toArray:=by
  have e:(fun (m:Nat)=>xs[((i:Int) + (m:Int) * 1).toNat]?)=fun m=>xs[i + m]?:=by
    funext m
    have:((i:Int) + (m:Int) * 1).toNat=i + m:=by omega
    rw [this]
  rw [e]
  have:=pick_run xs i k
  rw [List.filterMap_map] at this
  have e2:((fun x=>xs[x]?) ∘ fun x=>i + x)=fun m=>xs[i + m]?:=rfl
  rw [e2] at this
  rw [this]
theorem iT {t sl:Addr}{items:Array Value}{vl vu:Value}{lo hi:Option Int}{Q:Value→Shared→Prop}(ht:IsTup s.heap t items)(hs:s.heap.IsSliceOf sl vl vu .none)(pl:IsPart vl lo)(pu:IsPart vu hi)
    (hw:¬(sIx items.size 0 lo=0∧sIx items.size items.size hi=items.size))
    (h:Q (.ref s.heap.objs.size) {s with heap:=s.heap.push {cls:=.type "tuple",data:=.seq ((items.toList.drop (sIx items.size 0 lo)).take (sIx items.size items.size hi - sIx items.size 0 lo)).toArray}})
    (hsz:items.size≤sizeLine):wpAny (model prog w) A (getItem (.ref t) (.ref sl)) Q E s:=by
  have htake:sizeOk (.seq ((items.toList.drop (sIx items.size 0 lo)).take (sIx items.size items.size hi - sIx items.size 0 lo)).toArray):=by
    show ((items.toList.drop (sIx items.size 0 lo)).take (sIx items.size items.size hi - sIx items.size 0 lo)).toArray.size≤sizeLine
    rw [List.size_toArray,List.length_take,List.length_drop,Array.length_toList]
    omega
  have hj:sIx items.size items.size hi≤items.size:=x4 _ _ (Nat.le_refl _) hi
  obtain ⟨os,hos,hcs,hds⟩:=id hs
  have hTs:s.TypeIs (.ref sl) "slice":=⟨os,hos,hcs⟩
  unfold getItem
  try with_reducible refine wpAny_holding ?_
  first | refine wpAny_bind (wpAny_pure ?_) | skip
  refine wpAny_bind (wpAny_sequenceKey ht.typeIs (by decide) ?_)
  refine wpAny_bind (wpAny_callSpecial?_slot (name:=Str.ofString "__getitem__") ht.typeIs PyProof.Rows.slot_tuple_getitem
    (wpAny_call_entry PyProof.Rows.slot_tuple_getitem ht.typeIs entry_tuple_getitem ?_ (args_tuple_getitem _ _)))
  show wpAny _ _ (Builtin.Tuple.tupleItemsOf (.ref t) >>=_) _ _ s
  refine wpAny_bind (tupleItemsOf_ ht ?_)
  refine wpAny_bind (wpAny_typeOf hTs ?_)
  rw [if_pos (by decide)]
  refine wpAny_bind (jg hs pl pu ?_)
  have hno:¬((((sIx items.size 0 lo:Nat):Int)==0&&(1:Int)==1&&(sIx items.size items.size hi - sIx items.size 0 lo)==items.size)=true):=by
    intro q
    rw [Bool.and_eq_true,Bool.and_eq_true] at q
    have q1:((sIx items.size 0 lo:Nat):Int)=0:=eq_of_beq q.1.1
    have q2:sIx items.size items.size hi - sIx items.size 0 lo=items.size:=eq_of_beq q.2
    exact hw ⟨by omega,by omega⟩
  show wpAny _ _ (if (((sIx items.size 0 lo:Nat):Int)==0&&(1:Int)==1&&(sIx items.size items.size hi - sIx items.size 0 lo)==items.size)=true then _ else _) _ _ s
  rw [if_neg hno,sF]
  first
    | exact wpAny_bind (m:=Builtin.Tuple.tupleExact _) (wpAny_newObj_type (wpAny_pure ⟨_,rfl,wpAny_pure h⟩) htake)
    | exact wpAny_bind (m:=Builtin.Tuple.tupleExact _) (wpAny_newObj_type (wpAny_bind (wpAny_pure (wpAny_pure ⟨_,rfl,wpAny_pure h⟩))) htake)
    | exact wpAny_bind (wpAny_bind (m:=Builtin.Tuple.tupleExact _) (wpAny_newObj_type (wpAny_pure (wpAny_pure ⟨_,rfl,wpAny_pure h⟩)) htake))
    | exact wpAny_bind (wpAny_bind (m:=Builtin.Tuple.tupleExact _) (wpAny_newObj_type (wpAny_pure ⟨_,rfl,wpAny_pure h⟩) htake))
end
end HT
namespace L2
open PySem PySem.Spec PyProof.Rows
noncomputable abbrev TO:=St→Hp→(Option Int→Hp→Prop)→Prop
noncomputable def PO (X:Cx)(e:Option Expr)(t:TO):Prop:=
  ∀ (pins:List (Addr×Obj)) (s:Shared) (σ:St) (H:Hp) (Q:Option Int→Hp→Prop),Inv X pins σ H s→t σ H Q→
    wpAny (model X.prog X.w) X.A (evalPart e X.env) (fun u s'=>∃o H',Inv X pins σ H' s'∧IsPart u o∧Q o H') X.xe s
noncomputable def vi:TO:=fun _ H Q=>Q none H
noncomputable def yT (t:TE):TO:=fun σ H Q=>t σ H fun x H1=>∃i,x= .int i∧Q (some i) H1
theorem intsAre_of {ns:List Int}:∀{us:List Value},Vals (ns.map V.int) us→IntsAre us ns:=by
  induction ns with
  | nil=>intro us r;rw [List.map_nil] at r;cases r;exact .nil
  | cons n ns ih=>
    intro us r
    rw [List.map_cons] at r
    cases r with
    | cons r1 r2=>
      obtain ⟨t,e⟩:=r1
      subst e
      exact .cons n t (ih r2)
section
variable {X:Cx}{e:Expr}{te:TE}{lo hi:Option Expr}{tl th:TO}{pos p2:Pos}
theorem nT:PO X none vi:=by
  intro pins s σ H Q I h
  rw [evalPart_none]
  exact wpAny_pure ⟨none,H,I,.none,h⟩
theorem ou (h:PE X e te):PO X (some e) (yT te):=by
  intro pins s σ H Q I hw
  rw [evalPart_some]
  refine aM (h pins s σ H _ I hw) fun u s1 ⟨x,H1,I1,r1,q1⟩=>?_
  obtain ⟨i,rfl,q⟩:=q1
  obtain ⟨t,rfl⟩:=r1
  exact ⟨some i,H1,I1,.int i t,q⟩
noncomputable def yg (X:Cx)(r:V→Option Int→Option Int→Hp→VK→Prop):Prop:=
  ∀ (pins:List (Addr×Obj)) (s:Shared) (σ:St) (H:Hp) (x:V) (v vl vu:Value) (lo hi:Option Int) (sl:Addr) (Q:VK),Inv X pins σ H s→RelV x v→s.heap.IsSliceOf sl vl vu .none→IsPart vl lo→IsPart vu hi→r x lo hi H Q→
    ∃T id,typeLookup (.type T) "__getitem__"=pure (some (.builtin id))∧s.TypeIs v T∧wpAny (model X.prog X.w) X.A (getItem v (.ref sl)) (EP X pins σ Q) X.xe s
noncomputable def tSl (r:V→Option Int→Option Int→Hp→VK→Prop)(te:TE)(tl th:TO):TE:=fun σ H Q=>te σ H fun x H1=>tl σ H1 fun l H2=>th σ H2 fun u H3=>r x l u H3 Q
theorem lV {r:V→Option Int→Option Int→Hp→VK→Prop}(hr:yg X r)(he:PE X e te)(hl:PO X lo tl)(hu:PO X hi th):PE X (.Subscript e (.Slice lo hi none p2) pos) (tSl r te tl th):=by
  intro pins s σ H Q I h
  refine Subscript_ (aM (he pins s σ H _ I h) fun v s1 ⟨x,H1,I1,r1,q1⟩=>?_)
  refine wpAny_Slice (aM (hl pins s1 σ H1 _ I1 q1) fun vl s2 ⟨l,H2,I2,pl,q2⟩=>aM (hu pins s2 σ H2 _ I2 q2) fun vu s3 ⟨u,H3,I3,pu,q3⟩=>?_)
  rw [evalPart_none]
  refine wpAny_pure ?_
  have I4:Inv X pins σ H3 {s3 with heap:=s3.heap.push {cls:=.type "slice",data:=.fields #[vl,vu,.none]}}:=I3.kept (t':=s3.toks) fun b ob q=>Heap.get?_push_of_some _ q
  obtain ⟨T,id,hT,ht,hg⟩:=hr pins {s3 with heap:=s3.heap.push {cls:=.type "slice",data:=.fields #[vl,vu,.none]}} σ H3 x v vl vu l u s3.heap.objs.size Q I4 r1 (Heap.IsSliceOf.new ..) pl pu q3
  show wpAny (model X.prog X.w) X.A (subscriptTail e (.Slice lo hi none p2) v (.ref s3.heap.objs.size)) (EP X pins σ Q) X.xe {s3 with heap:=s3.heap.push {cls:=.type "slice",data:=.fields #[vl,vu,.none]}}
  exact tail_any (ops:=[.ref s3.heap.objs.size,v]) ht hT hg (by with_unfolding_all rfl)
noncomputable def jb (xs:List V)(lo hi:Option Int):List V:=(xs.drop (HT.sIx xs.length 0 lo)).take (HT.sIx xs.length xs.length hi - HT.sIx xs.length 0 lo)
theorem iU (xs:List V)(lo hi:Option Int):(jb xs lo hi).length≤xs.length:=by
  unfold jb
  rw [List.length_take,List.length_drop]
  omega
noncomputable def A6 (K:PySem.W.Frag):V→Option Int→Option Int→Hp→VK→Prop:=fun x lo hi H Q=>∃a xs,x= .ref a∧dc K H a xs∧
  ¬(HT.sIx xs.length 0 lo=0∧HT.sIx xs.length xs.length hi=xs.length)∧∀p,H p=none→Q (.ref p) (upd H p (.tup (jb xs lo hi)))
theorem vV:yg X (A6 X.K):=by
  intro pins s σ H x v vl vu lo hi sl Q I rx hs pl pu h
  obtain ⟨a,xs,rfl,hx,hw,q⟩:=h
  cases rx
  obtain ⟨its,r,ht,hz⟩:=I.tuple hx
  have hlen:its.toArray.size=xs.length:=by rw [List.size_toArray];exact r.length.symm
  refine ⟨"tuple",_,PyProof.Rows.slot_tuple_getitem.lookup,ht.typeIs,?_⟩
  refine HT.iT ht hs pl pu (by rw [hlen];exact hw) ?_ (by rw [hlen];exact hz)
  rw [hlen]
  refine ⟨.ref s.heap.objs.size,_,I.laid (t':=s.toks) (o:=.tup (jb xs lo hi)) (fun b ob q=>Heap.get?_push_of_some _ q) (Nat.le_refl _) ?_,rfl,q _ (I.hok.fresh (Nat.le_refl _))⟩
  exact ⟨Nat.le_trans (iU xs lo hi) hz,_,(r.drop (HT.sIx xs.length 0 lo)).take (HT.sIx xs.length xs.length hi - HT.sIx xs.length 0 lo),IsTup.new _ _⟩
end
noncomputable def fg (n:Nat)(i:Int):Option Nat:=if 0≤i then (if i < n then some i.toNat else none) else if -(n:Int)≤i then some (i + n).toNat else none
noncomputable def cI {α:Type}(xs:List α)(i:Int):Option α:=(fg xs.length i).bind fun j=>xs[j]?
theorem ku {n:Nat}{i:Int}{j:Nat}(h:fg n i=some j):seqIndex? i n=some j∧j < n∧ -(n:Int)≤i∧i < n:=by
  unfold fg at h
  by_cases h0:0≤i
  · rw [if_pos h0] at h
    by_cases h1:i < n
    · rw [if_pos h1] at h
      have e:i.toNat=j:=Option.some.inj h
      exact ⟨by rw [seqIndex_of h0 h1,e],by omega,by omega,h1⟩
    · rw [if_neg h1] at h;cases h
  · rw [if_neg h0] at h
    by_cases h1: -(n:Int)≤i
    · rw [if_pos h1] at h
      have e:(i + n).toNat=j:=Option.some.inj h
      exact ⟨by rw [seqIndex_neg (by omega) h1,e],by omega,h1,by omega⟩
    · rw [if_neg h1] at h;cases h
theorem nN {α:Type}{xs:List α}{i:Int}{v:α}(h:cI xs i=some v):∃j,seqIndex? i xs.length=some j∧xs[j]?=some v∧j < xs.length∧ -(xs.length:Int)≤i∧i < xs.length:=by
  unfold cI at h
  cases e:fg xs.length i with
  | none=>rw [e] at h;cases h
  | some j=>
    rw [e] at h
    obtain ⟨h1,h2,h3,h4⟩:=ku e
    exact ⟨j,h1,h,h2,h3,h4⟩
theorem vE {α:Type}{xs:List α}{j:Nat}{v:α}(h:xs[j]?=some v):cI xs (j:Int)=some v:=by
  have hj:j < xs.length:=(List.getElem?_eq_some_iff.mp h).1
  have e:fg xs.length (j:Int)=some j:=by
    unfold fg
    rw [if_pos (by omega),if_pos (by omega)];simp
  unfold cI;rw [e];exact h
noncomputable def eM (b:Expr):Prop:=∀o i,subscripted b false o i=operate [o,i] (getItem o i)
noncomputable def wu (X:Cx)(r:R2):Prop:=
  ∀ (value slice:Expr) (pins:List (Addr×Obj)) (s:Shared) (σ:St) (H:Hp) (x y:V) (v u:Value) (Q:VK),Inv X pins σ H s→RelV x v→RelV y u→r x y H Q→
    subscripted slice false v u=operate [v,u] (getItem v u)→wpAny (model X.prog X.w) X.A (subscriptTail value slice v u) (EP X pins σ Q) X.xe s
noncomputable def xA (X:Cx)(id:String)(r:V→List V→Hp→VK→Prop):Prop:=
  ∀ (pins:List (Addr×Obj)) (s:Shared) (σ:St) (H:Hp) (x:V) (xs:List V) (v:Value) (us:List Value) (Q:VK),Inv X pins σ H s→RelV x v→Vals xs us→r x xs H Q→
    wpAny (model X.prog X.w) X.A (call (.builtin id) (v::us)) (EP X pins σ Q) X.xe s
section
variable {X:Cx}{a b:Expr}{ta tb:TE}{pos:Pos}
theorem fm {r:R2}(hr:wu X r)(ha:PE X a ta)(hb:PE X b tb)(hs:eM b):PE X (.Subscript a b pos) (ua r ta tb):=by
  intro pins s σ H Q I h
  exact Subscript_ (sP ha hb I h fun v u s2 x y H2 I2 rx ry q=>hr a b pins s2 σ H2 x y v u Q I2 rx ry q (hs _ _))
noncomputable def AZ (K:PySem.W.Frag):R2:=fun x y H Q=>∃p xs i v,x= .ref p∧y= .int i∧aX K H p xs∧cI xs i=some v∧Q v H
noncomputable def Bk (K:PySem.W.Frag):R2:=fun x y H Q=>∃p xs i v,x= .ref p∧y= .int i∧dc K H p xs∧cI xs i=some v∧Q v H
theorem dX:wu X (AZ X.K):=by
  intro value slice pins s σ H x y v u Q I rx ry h hs
  obtain ⟨p,xs,i,z,rfl,rfl,hq,he,q⟩:=h
  cases rx
  obtain ⟨t,rfl⟩:=ry
  obtain ⟨its,r,pl,hz⟩:=I.list hq
  obtain ⟨j,h1,h2,h3,h4,h5⟩:=nN he
  obtain ⟨w,ew,rw'⟩:=r.get h2
  have hl:=r.length
  have hn:=iz
  have fin:EP X pins σ Q w s:=⟨z,H,I,rw',q⟩
  by_cases h0:0≤i
  · have hj:i.toNat=j:=by
      rw [seqIndex_of h0 h5] at h1
      exact Option.some.inj h1
    exact item_listR pl.isList h0 (by omega) (by rw [hj];simpa using ew) fin hs
  · have hj:(i + (its.toArray.size:Int)).toNat=j:=by
      rw [seqIndex_neg (by omega) h4] at h1
      rw [List.size_toArray,← hl]
      exact Option.some.inj h1
    exact subscriptTail_builtinR (x:=w) pl.isList.typeIs slot_list_getitem.lookup
      (wpAny_getItem_list_neg (Q:=fun r s'=>r=w∧EP X pins σ Q r s') pl.isList (by omega) (by rw [List.size_toArray]<;>omega) (by omega) (by rw [hj];simpa using ew) ⟨rfl,fin⟩) hs
theorem ye:wu X (Bk X.K):=by
  intro value slice pins s σ H x y v u Q I rx ry h hs
  obtain ⟨p,xs,i,z,rfl,rfl,hq,he,q⟩:=h
  cases rx
  obtain ⟨t,rfl⟩:=ry
  obtain ⟨its,r,pl,hz⟩:=I.tuple hq
  obtain ⟨j,h1,h2,h3,h4,h5⟩:=nN he
  obtain ⟨w,ew,rw'⟩:=r.get h2
  have hl:=r.length
  have hn:=iz
  have fin:EP X pins σ Q w s:=⟨z,H,I,rw',q⟩
  exact subscriptTail_builtinR (x:=w) pl.typeIs slot_tuple_getitem.lookup
    (getItem_tuple (j:=j) (Q:=fun r s'=>r=w∧EP X pins σ Q r s') pl (by omega) (by omega) (by rw [List.size_toArray,← hl];exact h1) (by simpa using ew) ⟨rfl,fin⟩) hs
theorem pH (its:List Value)(n j:Nat)(u:Value):Obj.mapSeq (·.setIfInBounds j u) {cls:=.type "list",data:=.seq its.toArray n}={cls:=.type "list",data:=.seq (its.set j u).toArray n}:=by
  simp [Obj.mapSeq]
theorem Inv.lst {pins:List (Addr×Obj)}{σ:St}{H:Hp}{s:Shared}{p:Addr}{xs:List V}(I:Inv X pins σ H s)(h:H p=some (.lst xs)):
    ∃(its:List Value) (n:Nat),Vals xs its∧s.heap.get? p=some {cls:=.type "list",data:=.seq its.toArray n}∧xs.length≤sizeLine:=by
  obtain ⟨z,its,n,r,e⟩:=I.hok p _ h
  exact ⟨its,n,r,e,z⟩
theorem Inv.wk {pins:List (Addr×Obj)}{σ:St}{H:Hp}{s:Shared}{p:Addr}{xs ys:List V}{its its':List Value}{n n':Nat}{f:Obj→Obj}(I:Inv X pins σ H s)(h:H p=some (.lst xs))
    (ho:s.heap.get? p=some {cls:=.type "list",data:=.seq its.toArray n}) (hf:f {cls:=.type "list",data:=.seq its.toArray n}={cls:=.type "list",data:=.seq its'.toArray n'}) (r:Vals ys its') (hz:ys.length≤sizeLine) (t:Nat):
    Inv X pins σ (upd H p (.lst ys)) {s with heap:=s.heap.update p f,toks:=t}:=by
  have e:(s.heap.update p f).get? p=some {cls:=.type "list",data:=.seq its'.toArray n'}:=by
    rw [Heap.get?_update_self f ho (by rw [hf]<;>rfl),hf]
  refine I.write (x:=p) (e:=p) (by rw [h];trivial) (.inl rfl) (fun b u hb q=>(Heap.get?_update_other _ _ (Ne.symm hb)).trans q) ⟨_,e⟩ ?_
  exact ⟨hz,its',n',r,e⟩
noncomputable def zu:V→V→V→Hp→(Hp→Prop)→Prop:=fun o i v H Q=>∃p xs k j,o= .ref p∧i= .int k∧H p=some (.lst xs)∧fg xs.length k=some j∧Q (upd H p (.lst (xs.set j v)))
theorem set_list:vK X zu:=by
  intro pins s σ H o i v ov iv u Q I ro ri rv h
  obtain ⟨p,xs,k,j,rfl,rfl,hp,hj,q⟩:=h
  cases ro
  obtain ⟨t,rfl⟩:=ri
  obtain ⟨its,n,r,ho,hz⟩:=I.lst hp
  obtain ⟨h1,h2,h3,h4⟩:=ku hj
  have hl:=r.length
  have hn:=iz
  have I':Inv X pins σ (upd H p (.lst (xs.set j v))) {s with heap:=s.heap.update p (Obj.mapSeq (·.setIfInBounds j u))}:=
    I.wk hp ho (pH its n j u) (r.set rv j) (by rw [List.length_set];exact hz) s.toks
  by_cases h0:0≤k
  · have hk:k.toNat=j:=by
      rw [seqIndex_of h0 h4] at h1
      exact Option.some.inj h1
    exact PySem.W.ki_setAt ho h0 (by omega) (by rw [List.size_toArray,← hl];exact h4) (by rw [hk];exact ⟨_,I',q⟩)
  · have hk:(k + (its.toArray.size:Int)).toNat=j:=by
      rw [seqIndex_neg (by omega) h3] at h1
      rw [List.size_toArray,← hl]
      exact Option.some.inj h1
    exact PySem.W.ki_setBack ho (by omega) (by rw [List.size_toArray,← hl];exact h3) (by omega) (by rw [hk];exact ⟨_,I',q⟩)
theorem lT (lo hi:Option Int)(n:Nat):(sliceBounds lo hi none n).1=((HT.sIx n 0 lo:Nat):Int)∧(sliceBounds lo hi none n).2.1=((HT.sIx n n hi:Nat):Int)∧(sliceBounds lo hi none n).2.2=1:=by
  refine ⟨?_,?_,rfl⟩
  · cases lo with
    | none=>simp [sliceBounds,HT.sIx]
    | some i=>
      simp only [sliceBounds,HT.sIx,Option.getD_none,show (1:Int) > 0 by decide,if_true]
      by_cases h:i < 0
      · simp only [h,if_true]<;>omega
      · simp only [h,if_false]<;>omega
  · cases hi with
    | none=>simp [sliceBounds,HT.sIx]
    | some i=>
      simp only [sliceBounds,HT.sIx,Option.getD_none,show (1:Int) > 0 by decide,if_true]
      by_cases h:i < 0
      · simp only [h,if_true]<;>omega
      · simp only [h,if_false]<;>omega
theorem lJ (its:List Value)(lo hi:Option Int):slicePick its.toArray lo hi none=((its.drop (HT.sIx its.length 0 lo)).take (HT.sIx its.length its.length hi - HT.sIx its.length 0 lo)).toArray:=by
  obtain ⟨h1,h2,h3⟩:=lT lo hi its.toArray.size
  unfold slicePick
  rw [h1,h2,h3]
  simp only [sliceRange_one,pick_run,List.size_toArray]<;>rfl
noncomputable def A5 (K:PySem.W.Frag):V→Option Int→Option Int→Hp→VK→Prop:=fun x lo hi H Q=>∃a xs,x= .ref a∧aX K H a xs∧∀p,H p=none→Q (.ref p) (upd H p (.lst (jb xs lo hi)))
theorem vB:yg X (A5 X.K):=by
  intro pins s σ H x v vl vu lo hi sl Q I rx hs pl pu h
  obtain ⟨a,xs,rfl,hx,q⟩:=h
  cases rx
  obtain ⟨its,r,ht,hz⟩:=I.list hx
  have hlen:=r.length
  refine ⟨"list",_,slot_list_getitem.lookup,ht.isList.typeIs,?_⟩
  refine wpAny_getItem_list_slice ht.isList hs pl pu .none (by simp) ?_ (by rw [List.size_toArray]<;>omega)
  rw [lJ,← hlen]
  refine ⟨.ref s.heap.objs.size,_,I.laid (t':=s.toks) (o:=.lst (jb xs lo hi)) (fun b ob q=>Heap.get?_push_of_some _ q) (Nat.le_refl _) ?_,rfl,q _ (I.hok.fresh (Nat.le_refl _))⟩
  exact ⟨Nat.le_trans (iU xs lo hi) hz,_,0,(r.drop (HT.sIx xs.length 0 lo)).take (HT.sIx xs.length xs.length hi - HT.sIx xs.length 0 lo),Heap.get?_push_size _ rfl⟩
noncomputable def fu:V→Bool
  | .non=>true
  | .bl _=>true
  | .int _=>true
  | .str _=>true
  | _=>false
noncomputable def jF:V→V→Bool
  | .non,.non=>true
  | .bl a,.bl b=>a==b
  | .bl a,.int b=>(if a then 1 else 0)==b
  | .int a,.bl b=>a==(if b then 1 else 0)
  | .int a,.int b=>a==b
  | .str a,.str b=>a==b
  | _,_=>false
theorem wW {A:Around}{s:Shared}{y x:V}{u v:Value}(ry:RelV y u)(rx:RelV x v)(fy:fu y=true)(fx:fu x=true):SeqAt.EqAt A s u v (jF y x):=by
  cases y with
  | non=>
    cases ry
    cases x with
    | non=>cases rx;exact SeqAt.EqAt.same _
    | bl b=>cases rx;exact SeqAt.EqAt.none_bool b
    | int b=>obtain ⟨t,rfl⟩:=rx;exact SeqAt.EqAt.none_int b t
    | str b=>obtain ⟨t,rfl⟩:=rx;exact SeqAt.EqAt.none_str b t
    | _=>exact absurd (show false=true from fx) Bool.false_ne_true
  | bl a=>
    cases ry
    cases x with
    | non=>cases rx;exact SeqAt.EqAt.bool_none a
    | bl b=>cases rx;exact SeqAt.EqAt.bool_bool a b
    | int b=>obtain ⟨t,rfl⟩:=rx;exact SeqAt.EqAt.bool_int a b t
    | str b=>obtain ⟨t,rfl⟩:=rx;exact SeqAt.EqAt.bool_str a b t
    | _=>exact absurd (show false=true from fx) Bool.false_ne_true
  | int a=>
    obtain ⟨t',rfl⟩:=ry
    cases x with
    | non=>cases rx;exact SeqAt.EqAt.int_none a t'
    | bl b=>cases rx;exact SeqAt.EqAt.int_bool a t' b
    | int b=>obtain ⟨t,rfl⟩:=rx;exact SeqAt.EqAt.int_int a t' b t
    | str b=>obtain ⟨t,rfl⟩:=rx;exact SeqAt.EqAt.int_str a t' b t
    | _=>exact absurd (show false=true from fx) Bool.false_ne_true
  | str a=>
    obtain ⟨t',rfl⟩:=ry
    cases x with
    | non=>cases rx;exact SeqAt.EqAt.str_none a t'
    | bl b=>cases rx;exact SeqAt.EqAt.str_bool a t' b
    | int b=>obtain ⟨t,rfl⟩:=rx;exact SeqAt.EqAt.str_int a t' b t
    | str b=>obtain ⟨t,rfl⟩:=rx;exact SeqAt.EqAt.str_str a t' b t
    | _=>exact absurd (show false=true from fx) Bool.false_ne_true
  | _=>exact absurd (show false=true from fy) Bool.false_ne_true
noncomputable def j8 (x:V)(u:Value):Bool:=match u with
  | .none=>jF .non x
  | .bool b=>jF (.bl b) x
  | .int i _=>jF (.int i) x
  | .str z _=>jF (.str z) x
  | _=>false
theorem rB {x y:V}{u:Value}(r:RelV y u)(f:fu y=true):j8 x u=jF y x:=by
  cases y with
  | non=>cases r;rfl
  | bl b=>cases r;rfl
  | int i=>obtain ⟨t,rfl⟩:=r;rfl
  | str z=>obtain ⟨t,rfl⟩:=r;rfl
  | _=>exact absurd (show false=true from f) Bool.false_ne_true
theorem kz {x:V}:∀{xs:List V} {us:List Value},Vals xs us→xs.all fu=true→us.any (j8 x)=xs.any fun y=>jF y x
  | _,_,.nil,_=>rfl
  | y::xs,u::us,.cons r t,f=>by
    rw [List.all_cons,Bool.and_eq_true] at f
    rw [List.any_cons,List.any_cons,rB r f.1,kz t f.2]
theorem i5 {A:Around}{s:Shared}{x:V}{v:Value}(rx:RelV x v)(fx:fu x=true):∀{xs:List V} {us:List Value},Vals xs us→xs.all fu=true→∀u∈us,SeqAt.EqAt A s u v (j8 x u)
  | _,_,.nil,_=>fun u hu=>by cases hu
  | y::xs,u::us,.cons r t,f=>fun u' hu=>by
    rw [List.all_cons,Bool.and_eq_true] at f
    rcases List.mem_cons.mp hu with rfl | hu
    · rw [rB r f.1];exact wW r rx f.1 fx
    · exact i5 rx fx t f.2 u' hu
noncomputable def tK (x:V)(xs:List V):Bool:=xs.any fun y=>jF y x
noncomputable def rIn (K:PySem.W.Frag)(neg:Bool):R2:=fun x y H Q=>∃p xs,y= .ref p∧(aX K H p xs∨dc K H p xs)∧fu x=true∧xs.all fu=true∧Q (.bl (if neg then !tK x xs else tK x xs)) H
theorem mV:c8 X (compareOp .NotIn) (rIn X.K true):=by
  intro pins s σ H x y v u Q I rx ry h
  obtain ⟨p,xs,rfl,hq,fx,fs,q⟩:=h
  cases ry
  rcases hq with hq | hq
  · obtain ⟨its,r,pl,hz⟩:=I.list hq
    refine SeqAt.notIn_listAt (j8 x) pl.isList (fun w hw=>i5 rx fx r fs w (by simpa using hw)) ⟨.bl _,H,I,rfl,?_⟩
    rw [show its.toArray.any (j8 x)=its.any (j8 x) by simp,kz r fs]
    exact q
  · obtain ⟨its,r,pl,hz⟩:=I.tuple hq
    refine SeqAt.notIn_tupleAt (j8 x) pl (fun w hw=>i5 rx fx r fs w (by simpa using hw)) ⟨.bl _,H,I,rfl,?_⟩
    rw [show its.toArray.any (j8 x)=its.any (j8 x) by simp,kz r fs]
    exact q
theorem dF:c6 X (.builtin "len") (fun xs H Q=>∃p ys,xs=[.ref p]∧(aX X.K H p ys∨dc X.K H p ys)∧Q (.int ys.length) H):=by
  intro pins s σ H xs us Q I r h
  obtain ⟨p,ys,rfl,hq,q⟩:=h
  obtain ⟨u,rfl,rx⟩:=vals1 r
  cases rx
  have hn:=iz
  rcases hq with hq | hq
  · obtain ⟨its,r',pl,hz⟩:=I.list hq
    have hlen:=r'.length
    exact Calls.call_len_list pl.isList (by simp only [List.size_toArray]<;>omega) ⟨.int ys.length,H,I.tok _,⟨s.toks + 1,by rw [List.size_toArray,hlen]⟩,q⟩
  · obtain ⟨its,r',pl,hz⟩:=I.tuple hq
    have hlen:=r'.length
    exact len_tuple pl (by simp only [List.size_toArray]<;>omega) ⟨.int ys.length,H,I.tok _,⟨s.toks + 1,by rw [List.size_toArray,hlen]⟩,q⟩
theorem m9:c6 X (.type "list") (fun xs H Q=>∃p ys,xs=[.ref p]∧(aX X.K H p ys∨dc X.K H p ys)∧∀l,H l=none→Q (.ref l) (upd H l (.lst ys))):=by
  intro pins s σ H xs us Q I r h
  obtain ⟨p,ys,rfl,hq,q⟩:=h
  obtain ⟨u,rfl,rx⟩:=vals1 r
  cases rx
  have fin:∀(its:List Value),Vals ys its→ys.length≤sizeLine→∀(h':Heap) (c':Nat),(∀b o',s.heap.get? b=some o'→h'.get? b=some o')→
      h'.get? s.heap.objs.size=some {cls:=.type "list",dict:=none,data:=.seq its.toArray c',slots:= #[]}→EP X pins σ Q (.ref s.heap.objs.size) {s with heap:=h'}:=fun its r' hz h' c' kp e=>
    ⟨.ref s.heap.objs.size,_,I.laid (t':=s.toks) kp (Nat.le_refl _) (show bT X.prog X.w _ h' _ (.lst ys) from ⟨hz,its,c',r',e⟩),rfl,q _ (I.hok.fresh (Nat.le_refl _))⟩
  rcases hq with hq | hq
  · obtain ⟨its,r',pl,hz⟩:=I.list hq
    have hlen:=r'.length
    obtain ⟨o,ho,hc,n,hd⟩:=pl.isList
    exact call_list_seq p (.inl rfl) ho hc hd (fun h' c' kp e=>fin its r' hz h' c' kp e) (by simp only [List.size_toArray]<;>omega)
  · obtain ⟨its,r',pl,hz⟩:=I.tuple hq
    have hlen:=r'.length
    obtain ⟨o,ho,hc,n,hd⟩:=pl
    exact call_list_seq p (.inr rfl) ho hc hd (fun h' c' kp e=>fin its r' hz h' c' kp e) (by simp only [List.size_toArray]<;>omega)
theorem lI:c6 X (.type "tuple") (fun xs H Q=>∃p ys,xs=[.ref p]∧((aX X.K H p ys∧∀l,H l=none→Q (.ref l) (upd H l (.tup ys)))∨(dc X.K H p ys∧Q (.ref p) H))):=by
  intro pins s σ H xs us Q I r h
  obtain ⟨p,ys,rfl,h⟩:=h
  obtain ⟨u,rfl,rx⟩:=vals1 r
  cases rx
  rcases h with ⟨hq,q⟩ | ⟨hq,q⟩
  · obtain ⟨its,r',pl,hz⟩:=I.list hq
    have hlen:=r'.length
    refine call_tuple_list pl.isList (fun h' kp=>?_) (by simp only [List.size_toArray]<;>omega)
    have I1:Inv X pins σ H {s with heap:=h'}:=I.kept (t':=s.toks) kp
    have I2:Inv X pins σ (upd H h'.objs.size (.tup ys)) {s with heap:=h'.push {cls:=.type "tuple",data:=.seq its.toArray}}:=
      I1.laid (t':=s.toks) (fun b o e=>Heap.get?_push_of_some _ e) (Nat.le_refl _) (show bT X.prog X.w _ _ _ (.tup ys) from ⟨hz,its,r',IsTup.new _ _⟩)
    exact ⟨.ref h'.objs.size,_,I2,rfl,q _ (I1.hok.fresh (Nat.le_refl _))⟩
  · obtain ⟨its,r',pl,hz⟩:=I.tuple hq
    exact call_tuple_same pl ⟨.ref p,H,I,rfl,q⟩
noncomputable def xh (K:PySem.W.Frag)(T:String)(x:V)(H:Hp):Prop:=match x with
  | .str _=>T="str"
  | .int _=>T="int"
  | .ref p=>(T="list"∧∃xs,aX K H p xs)∨(T="tuple"∧∃o,K.lookup p=some o∧o.cls= .type "tuple"∧o.dict=none)∨
      (T="dict"∧((∃kvs,H p=some (.dK kvs))∨∃kvs,H p=some (.dT kvs)))∨(T="set"∧∃S n,H p=some (.set S n))
  | _=>False
theorem p5 {pins:List (Addr×Obj)}{σ:St}{H:Hp}{s:Shared}{T:String}{x:V}{v:Value}(I:Inv X pins σ H s)(r:RelV x v)(ty:xh X.K T x H):
    s.TypeIs v T∧∀a,v= .ref a→∃ob,s.heap.get? a=some ob∧ob.dict=none:=by
  cases x with
  | str z=>
    obtain ⟨t,rfl⟩:=r
    cases (show T="str" from ty)
    exact ⟨typeIs_str s z t,fun _ e=>nomatch e⟩
  | int i=>
    obtain ⟨t,rfl⟩:=r
    cases (show T="int" from ty)
    exact ⟨typeIs_int s i t,fun _ e=>nomatch e⟩
  | ref p =>
    cases r
    rcases ty with ⟨rfl,xs,hq⟩ | ⟨rfl,o,hk,hc,hd⟩ | ⟨rfl,hk⟩ | ⟨rfl,S,n,hk⟩
    · obtain ⟨its,_,pl,_⟩:=I.list hq
      refine ⟨pl.isList.typeIs,fun a e=>?_⟩
      cases e
      obtain ⟨o,n,e,c,hd,_⟩:=pl
      exact ⟨o,e,hd⟩
    · refine ⟨⟨o,I.eZ p o hk,hc⟩,fun a e=>?_⟩
      cases e
      exact ⟨o,I.eZ _ o hk,hd⟩
    · have z:∃o,s.heap.get? p=some o∧o.ExactDict:=by
        rcases hk with ⟨kvs,hk⟩ | ⟨kvs,hk⟩
        · obtain ⟨_,_,_,_,o,_,_,e,ex,_⟩:=I.hok p _ hk
          exact ⟨o,e,ex⟩
        · obtain ⟨_,_,_,_,o,_,_,e,ex,_⟩:=I.hok p _ hk
          exact ⟨o,e,ex⟩
      obtain ⟨o,e,ex⟩:=z
      refine ⟨⟨o,e,ex.1⟩,fun a e2=>?_⟩
      cases e2
      exact ⟨o,e,ex.2.1⟩
    · obtain ⟨o,_,_,_,e,ex,_⟩:=I.hok p _ hk
      refine ⟨⟨o,e,ex.1⟩,fun a e2=>?_⟩
      cases e2
      exact ⟨o,e,ex.2.1⟩
  | _=>exact False.elim ty
noncomputable def A1 (K:PySem.W.Frag)(T:String)(r:V→List V→Hp→VK→Prop)(to:TE):TE:=fun σ H Q=>to σ H fun x H1=>xh K T x H1∧r x [] H1 Q
noncomputable def tBM (K:PySem.W.Frag)(T:String)(r:V→List V→Hp→VK→Prop)(to:TE)(t:TA):TE:=fun σ H Q=>to σ H fun x H1=>xh K T x H1∧t σ H1 fun xs H2=>r x xs H2 Q
variable {o e:Expr}{es:List Expr}{to:TE}{t:TA}{name:Str}{apos cpos:Pos}{T id:String}{r:V→List V→Hp→VK→Prop}
theorem xf (pa:PlainAttrs T)(slot:Slot T name id)(hty:typeOf (.builtin id)=pure (.type "method_descriptor"))(hm:xA X id r)(ho:PE X o to)
    (hbase:autoParam (attributeBase o name X.env (eval o X.env)=eval o X.env) Fc.ag) (hline:autoParam ((apos.endLine==cpos.line)=true) Fc.ag):PE X (.Call (.Attribute o name apos) [] [] cpos) (A1 X.K T r to):=by
  intro pins s σ H Q I h
  refine wpAny_Call_method0_late hbase hline (aM (ho pins s σ H _ I h) fun v s1 ⟨x,H1,I1,r1,ty,q1⟩=>?_)
  obtain ⟨h1,h2⟩:=p5 I1 r1 ty
  exact ⟨T,id,pa,slot,hty,h1,h2,Calls.callWith_builtin rfl (PySem.evalArgs_none (hm pins s1 σ H1 x [] v [] Q I1 r1 .nil q1))⟩
theorem jy (pa:PlainAttrs T)(slot:Slot T name id)(hty:typeOf (.builtin id)=pure (.type "method_descriptor"))(hm:xA X id r)(ho:PE X o to)(ha:PA X (e::es) t)
    (hbase:autoParam (attributeBase o name X.env (eval o X.env)=eval o X.env) Fc.ag)
    (hfew:autoParam (((backTo cpos (starEach (e::es) X.env)).all (fun x=> !x.1)&&(backToKw cpos (keywordEach [] X.env)).all (fun x=>x.1.isSome)
      &&decide ((e::es).length + ([]:List Keyword).length + (if ([]:List Keyword).isEmpty then 0 else 1) < 30))=true) Fc.ag)
    (hline:autoParam ((apos.endLine==cpos.line)=true) Fc.ag) (hs:autoParam (starEach (e::es) X.env=(false,eval e X.env)::starEach es X.env) Fc.ag) (hplain:autoParam ((backTo cpos (starEach es X.env)).any (·.1)=false) Fc.ag):
    PE X (.Call (.Attribute o name apos) (e::es) [] cpos) (tBM X.K T r to t):=by
  intro pins s σ H Q I h
  refine wpAny_Call_method_late hbase hfew hline rfl (aM (ho pins s σ H _ I h) fun v s1 ⟨x,H1,I1,r1,ty,q1⟩=>?_)
  obtain ⟨h1,h2⟩:=p5 I1 r1 ty
  refine ⟨T,id,pa,slot,hty,h1,h2,?_⟩
  have hA:=ha cpos pins s1 σ H1 _ I1 q1
  rw [hs] at hA ⊢
  refine Calls.callWith_builtin (by show (false ||(backTo cpos (starEach es X.env)).any (·.1))=false;rw [hplain]<;>rfl) (Calls.evalArgs_plain ?_)
  exact aM hA fun us s2 ⟨vs,H2,I2,r2,q2⟩=>hm pins s2 σ H2 x vs v us Q I2 r1 r2 q2
end
noncomputable def ug (X:Cx)(id:String)(r:V→List V→Hp→VK→Prop):Prop:=
  ∀ (pins:List (Addr×Obj)) (s:Shared) (σ:St) (H:Hp) (x:V) (xs:List V) (v:Value) (us:List Value) (Q:VK),Inv X pins σ H s→RelV x v→Vals xs us→r x xs H Q→
    wpAny (model X.prog X.w) X.A (call (.builtin id) (v::us)) (EP X pins σ Q) X.xe s
theorem Vals.one:∀{x:V} {us:List Value},Vals [x] us→∃u,us=[u]∧RelV x u
  | _,_,.cons r .nil=>⟨_,rfl,r⟩
theorem Vals.zero:∀{us:List Value},Vals [] us→us=[]
  | _,.nil=>rfl
theorem Vals.dropLast {xs:List V}{us:List Value}(h:Vals xs us):Vals xs.dropLast us.dropLast:=by
  induction h with
  | nil=>exact .nil
  | cons r t ih=>
    cases t with
    | nil=>exact .nil
    | cons q t'=>exact .cons r ih
theorem Vals.rep {xs:List V}{us:List Value}(h:Vals xs us):∀k:Nat,Vals (List.replicate k xs).flatten (List.replicate k us).flatten
  | 0=>.nil
  | k + 1=>by
    rw [List.replicate_succ,List.replicate_succ,List.flatten_cons,List.flatten_cons]
    exact Vals.append h (Vals.rep h k)
theorem oV {α:Type}(l:List α):l.eraseIdx (l.length - 1)=l.dropLast:=by
  induction l with
  | nil=>rfl
  | cons a r ih=>
    cases r with
    | nil=>rfl
    | cons b r=>
      have e:(a::b::r).length - 1=((b::r).length - 1) + 1:=by
        have h1:(a::b::r).length=r.length + 2:=rfl
        have h2:(b::r).length=r.length + 1:=rfl
        omega
      rw [e,List.eraseIdx_cons_succ,ih]
      all_goals rfl
theorem foldl_rep (its:List Value):∀(k:Nat) (acc:List Value),
    List.foldl (fun x1 x2=>x1++x2) acc.toArray (List.replicate k its.toArray)=(acc++(List.replicate k its).flatten).toArray
  | 0,acc=>by simp
  | k + 1,acc=>by
    have e:acc.toArray++its.toArray=(acc++its).toArray:=by simp
    have e2:(acc++its)++(List.replicate k its).flatten=acc++(List.replicate (k + 1) its).flatten:=by
      rw [List.replicate_succ,List.flatten_cons,List.append_assoc]
    rw [← e2,← foldl_rep its k (acc++its),← e,List.replicate_succ,List.foldl_cons]
section
variable {X:Cx}{pins:List (Addr×Obj)}{σ:St}{H:Hp}{s:Shared}{l b:Addr}{xs ys zs:List V}
theorem Inv.oR {its its':List Value}{n:Nat}{f:Array Value→Array Value}{t':Nat}(I:Inv X pins σ H s)(hH:H l=some (.lst xs))
    (e:s.heap.get? l=some {cls:=.type "list",data:=.seq its.toArray n}) (hf:f its.toArray=its'.toArray) (hv:Vals ys its') (hz:ys.length≤sizeLine):
    Inv X pins σ (upd H l (.lst ys)) {s with heap:=s.heap.update l (Obj.mapSeq f),toks:=t'}:=by
  have q:=PySem.IsL.update e f
  rw [hf] at q
  refine I.write (x:=l) (e:=l) (by rw [hH];exact trivial) (.inl rfl) (fun b' u hb hu=>(Heap.get?_update_other s.heap (Obj.mapSeq f) (Ne.symm hb)).trans hu) ⟨_,q⟩ ?_
  exact ⟨hz,its',_,hv,q⟩
theorem Inv.xR {its:List Value}{t':Nat}(I:Inv X pins σ H s)(hv:Vals ys its)(hz:ys.length≤sizeLine):
    Inv X pins σ (upd H s.heap.objs.size (.lst ys)) {s with heap:=s.heap.push {cls:=.type "list",data:=.seq its.toArray},toks:=t'}:=
  I.laid (fun _ _ q=>Heap.get?_push_of_some _ q) (Nat.le_refl _) ⟨hz,its,0,hv,Heap.get?_push_size _ rfl⟩
theorem Inv.fresh (I:Inv X pins σ H s):H s.heap.objs.size=none:=I.hok.fresh (Nat.le_refl _)
theorem Inv.h7 (I:Inv X pins σ H s)(hH:H l=some (.lst xs)):xs.length≤sizeLine∧∃(its:List Value) (n:Nat),Vals xs its∧xs.length=its.length∧s.heap.get? l=some {cls:=.type "list",data:=.seq its.toArray n}:=by
  obtain ⟨z,its,n,r,e⟩:=I.hok l _ hH
  exact ⟨z,its,n,r,r.length,e⟩
theorem rX {n:Nat}(h:n≤sizeLine):Builtin.List.listTooLong n=false:=by
  unfold Builtin.List.listTooLong
  exact decide_eq_false (by omega)
end
section
variable {X:Cx}
noncomputable def vy:V→List V→Hp→VK→Prop:=fun x vs H Q=>∃l xs y,x= .ref l∧vs=[y]∧H l=some (.lst xs)∧xs.length < sizeLine∧Q .non (upd H l (.lst (xs++[y])))
theorem lh:ug X "list.append" vy:=by
  intro pins s σ H x vs v us Q I rx rv h
  obtain ⟨l,xs,y,rfl,rfl,hH,hz,q⟩:=h
  cases rx
  obtain ⟨u,rfl,ru⟩:=rv.one
  obtain ⟨z,its,n,r,hl,e⟩:=I.h7 hH
  refine call_meets F.slot_list_append ⟨_,e,rfl⟩ F.entry_list_append (F.args_list_append_2 _ _) (PySem.list_append l its.toArray n u (by rw [List.size_toArray];omega)) ⟨e,?_⟩
  refine ⟨.non,_,I.oR (its':=its++[u]) hH e (by simp) (r.append (.cons ru .nil)) ?_,rfl,q⟩
  rw [List.length_append,List.length_singleton]
  omega
noncomputable def Bc:V→List V→Hp→VK→Prop:=fun x vs H Q=>∃l xs y,x= .ref l∧vs=[]∧H l=some (.lst xs)∧xs[xs.length - 1]?=some y∧Q y (upd H l (.lst xs.dropLast))
theorem yi:ug X "list.pop" Bc:=by
  intro pins s σ H x vs v us Q I rx rv h
  obtain ⟨l,xs,y,rfl,rfl,hH,hy,q⟩:=h
  cases rx
  have hus:=rv.zero
  subst hus
  obtain ⟨z,its,n,r,hl,e⟩:=I.h7 hH
  obtain ⟨u,hu,ru⟩:=r.get hy
  have hy':its.toArray[its.toArray.size - 1]?=some u:=by
    show its.toArray[its.length - 1]?=some u
    rw [← Array.getElem?_toList,← hl]
    exact hu
  refine call_meets F.slot_list_pop ⟨_,e,rfl⟩ F.entry_list_pop (F.args_list_pop_1 _) (MeetsSeq.list_pop_last l its.toArray n u hy' (by rw [List.size_toArray];omega)) ⟨e,?_⟩
  refine ⟨y,_,I.oR (its':=its.dropLast) hH e ?_ r.dropLast ?_,ru,q⟩
  · show its.toArray.eraseIdxIfInBounds (its.toArray.size - 1)=its.dropLast.toArray
    rw [List.size_toArray,List.eraseIdxIfInBounds_toArray,oV]
  · rw [List.length_dropLast]
    omega
noncomputable def yy:R2:=fun x y H Q=>∃l b xs zs,x= .ref l∧y= .ref b∧H l=some (.lst xs)∧H b=some (.lst zs)∧xs.length + zs.length≤sizeLine∧∀p,H p=none→Q (.ref p) (upd H p (.lst (xs++zs)))
theorem nh:c8 X (binaryOp .Add) yy:=by
  intro pins s σ H x y v u Q I rx ry h
  obtain ⟨l,b,xs,zs,rfl,rfl,hH,hB,hz,q⟩:=h
  cases rx
  cases ry
  obtain ⟨z,its,n,r,hl,e⟩:=I.h7 hH
  obtain ⟨z2,its2,n2,r2,hl2,e2⟩:=I.h7 hB
  refine PySem.P.add_list e e2 ?_ (by rw [List.size_toArray,List.size_toArray];omega)
  have ea:its.toArray++its2.toArray=(its++its2).toArray:=by simp
  rw [ea]
  exact ⟨.ref _,_,I.xR (t':=s.toks) (r.append r2) (by rw [List.length_append];omega),rfl,q _ I.fresh⟩
noncomputable def Bj:R2:=fun x y H Q=>∃l k xs,x= .ref l∧y= .int k∧H l=some (.lst xs)∧ -(2 ^ 63)≤k∧k < 2 ^ 63∧xs.length * k.toNat≤sizeLine∧
  ∀p,H p=none→Q (.ref p) (upd H p (.lst (List.replicate k.toNat xs).flatten))
theorem len_rep {α:Type}(xs:List α)(k:Nat):(List.replicate k xs).flatten.length=k * xs.length:=by
  induction k with
  | zero=>simp
  | succ k ih=>rw [List.replicate_succ,List.flatten_cons,List.length_append,ih,Nat.succ_mul,Nat.add_comm]
theorem vP:c8 X (binaryOp .Mult) Bj:=by
  intro pins s σ H x y v u Q I rx ry h
  obtain ⟨l,k,xs,rfl,rfl,hH,h1,h2,hz,q⟩:=h
  cases rx
  obtain ⟨t,rfl⟩:=ry
  obtain ⟨z,its,n,r,hl,e⟩:=I.h7 hH
  have hlen:its.toArray.size * k.toNat≤sizeLine:=by rw [List.size_toArray,← hl];exact hz
  have hcap:¬its.toArray.size * k.toNat > (2 ^ 63 - 1) / 8:=by
    have:(sizeLine:Nat)≤(2 ^ 63 - 1) / 8:=by decide
    omega
  have hfit:¬(!Builtin.List.listFitsIndex k)=true:=by
    rw [fitsIndex_both h1 h2]
    exact Bool.false_ne_true
  have hlong:¬Builtin.List.listTooLong (its.toArray.size * k.toNat)=true:=by
    rw [rX hlen]
    exact Bool.false_ne_true
  have hnew:List.foldl (fun x1 x2=>x1++x2) #[] (List.replicate (if its.toArray.isEmpty=true then 0 else k.toNat) its.toArray)=(List.replicate k.toNat its).flatten.toArray:=by
    have f0:∀m:Nat,List.foldl (fun x1 x2=>x1++x2) #[] (List.replicate m its.toArray)=(List.replicate m its).flatten.toArray:=fun m=>by
      have:=foldl_rep its m []
      rw [List.nil_append] at this
      exact this
    rw [f0]
    cases its with
    | nil=>simp
    | cons a r'=>rw [if_neg (by simp)]
  refine wpAny_binaryOp_repeat_ref (T:="list") (U:="int") (by decide) ⟨_,e,rfl⟩ (fun s'=>typeIs_int s' k t) noFill_list_mul F.fills_int_mul F.slot_int_rmul repeat_list F.slot_int_index.lookup
    (call_meets F.slot_int_rmul (typeIs_int s k t) F.entry_int_rmul (F.args_int_rmul_2 _ _) (int___rmul___int_list k t l its.toArray n)
      ⟨e,rfl,⟨_,e,rfl⟩,call_meets F.slot_list_mul ⟨_,e,rfl⟩ F.entry_list_mul (F.args_list_mul_2 _ _) (AutoListH.list___mul___list_int_3 l its.toArray n k t hfit hcap hlong) ⟨e,?_⟩⟩)
  rw [hnew]
  exact ⟨.ref _,_,I.xR (t':=s.toks) (r.rep k.toNat) (by rw [len_rep,Nat.mul_comm];exact hz),rfl,q _ I.fresh⟩
end
section
variable {prog:Program}{w:World}{A:Around}{E:Value→Shared→Prop}{s:Shared}
end
section
variable {X:Cx}
end
section
variable {κ:Type} [DecidableEq κ]
noncomputable def cy (kvs:List (κ×V))(k:κ):Option V:=(kvs.find? fun kv=>decide (kv.1=k)).map (·.2)
noncomputable def putK (kvs:List (κ×V))(k:κ)(v:V):List (κ×V):=
  if (kvs.any fun kv=>decide (kv.1=k))=true then kvs.map (fun kv=>if kv.1=k then (kv.1,v) else kv) else kvs++[(k,v)]
theorem cK {p:κ×V}{r:List (κ×V)}{k:κ}(e:p.1=k):cy (p::r) k=some p.2:=by simp [cy,List.find?_cons,e]
theorem cL {p:κ×V}{r:List (κ×V)}{k:κ}(e:¬p.1=k):cy (p::r) k=cy r k:=by simp [cy,List.find?_cons,e]
theorem dU (k:κ):∀kvs:List (κ×V),(kvs.any fun kv=>decide (kv.1=k))=(cy kvs k).isSome
  | []=>rfl
  | p::r=>by
    rw [List.any_cons]
    by_cases e:p.1=k
    · simp only [cK e,decide_eq_true e,Bool.true_or,Option.isSome_some]
    · rw [cL e,decide_eq_false e,Bool.false_or];exact dU k r
theorem mY (k j:κ)(y:V):∀kvs:List (κ×V),cy (kvs.map fun kv=>if kv.1=k then (kv.1,y) else kv) j=(cy kvs j).map fun x=>if j=k then y else x
  | []=>rfl
  | p ::r=>by
    have ih:=mY k j y r
    rw [List.map_cons]
    by_cases h:p.1=k
    · rw [if_pos h]
      by_cases e:p.1=j
      · rw [cK (p:=(p.1,y)) e,cK e,Option.map_some,if_pos (e.symm.trans h)]
      · rw [cL (p:=(p.1,y)) e,cL e,ih]
    · rw [if_neg h]
      by_cases e:p.1=j
      · rw [cK (p:=p) e,cK e,Option.map_some,if_neg (fun z=>h (e.trans z))]
      · rw [cL (p:=p) e,cL e,ih]
theorem lp (k j:κ)(y:V):∀kvs:List (κ×V),cy kvs k=none→cy (kvs++[(k,y)]) j=if j=k then some y else cy kvs j
  | [],_=>by
    by_cases e:k=j
    · rw [if_pos e.symm];exact cK (p:=(k,y)) e
    · rw [if_neg (fun z=>e z.symm)];exact cL (p:=(k,y)) e
  | p::r,hn=>by
    rw [List.cons_append]
    have hk:¬p.1=k:=fun z=>by rw [cK z] at hn;cases hn
    rw [cL hk] at hn
    have ih:=lp k j y r hn
    by_cases e:p.1=j
    · rw [cK e,cK e,if_neg (fun z=>hk (e.trans z))]
    · rw [cL e,cL e,ih]
theorem tj (kvs:List (κ×V))(k j:κ)(y:V):cy (putK kvs k y) j=if j=k then some y else cy kvs j:=by
  unfold putK
  by_cases a:(kvs.any fun kv=>decide (kv.1=k))=true
  · rw [if_pos a,mY]
    rw [dU] at a
    by_cases e:j=k
    · obtain ⟨x,hx⟩:=Option.isSome_iff_exists.mp a
      rw [if_pos e,e,hx,Option.map_some,if_pos rfl]
    · rw [if_neg e]
      cases cy kvs j with
      | none=>rfl
      | some x=>rw [Option.map_some,if_neg e]
  · rw [if_neg a]
    refine lp k j y kvs ?_
    rw [dU] at a
    cases q:cy kvs k with
    | none=>rfl
    | some x=>rw [q] at a;exact (a rfl).elim
theorem gg (kvs:List (κ×V))(k:κ)(v:V):(putK kvs k v).length≤kvs.length + 1:=by
  unfold putK
  split
  · rw [List.length_map];omega
  · rw [List.length_append,List.length_cons,List.length_nil];omega
theorem sD {kvs:List (κ×V)}{k:κ}(v:V)(h:cy kvs k=none):putK kvs k v=kvs++[(k,v)]:=by
  unfold putK
  rw [dU,h]
  exact if_neg (by decide)
theorem fK.eU {o:Option V}{u:Option Value}(r:fK o u):o.isSome=u.isSome:=by
  cases o with
  | none=>cases u with
    | none=>rfl
    | some _=>exact (show False from r).elim
  | some _=>cases u with
    | none=>exact (show False from r).elim
    | some _=>rfl
theorem KV.val {kvs:List (κ×V)}{vs:List (κ×Value)}(r:KV kvs vs)(k:κ):fK (cy kvs k) (valueAt vs k):=by
  unfold KV at r
  induction r with
  | nil=>exact True.intro
  | @cons p q ps qs h t ih=>
    obtain ⟨h1,h2⟩:=h
    by_cases e:p.1=k
    · have e':q.1=k:=h1.symm.trans e
      have b:valueAt (q::qs) k=some q.2:=by simp [valueAt,List.find?_cons,e']
      rw [cK e,b];exact h2
    · have e':¬q.1=k:=fun z=>e (h1.trans z)
      have b:valueAt (q::qs) k=valueAt qs k:=by simp [valueAt,List.find?_cons,e']
      rw [cL e,b];exact ih
theorem KV.any {kvs:List (κ×V)}{vs:List (κ×Value)}(r:KV kvs vs)(k:κ):(kvs.any fun kv=>decide (kv.1=k))=vs.any fun kv=>decide (kv.1=k):=by
  unfold KV at r
  induction r with
  | nil=>rfl
  | cons h t ih=>rw [List.any_cons,List.any_cons,ih,h.1]
theorem KV.tq {kvs:List (κ×V)}{vs:List (κ×Value)}(r:KV kvs vs)(k:κ){y:V}{u:Value}(ry:RelV y u):
    KV (kvs.map fun kv=>if kv.1=k then (kv.1,y) else kv) (vs.map fun kv=>if kv.1=k then (kv.1,u) else kv):=by
  unfold KV at r ⊢
  induction r with
  | nil=>exact .nil
  | @cons p q ps qs h t ih=>
    rw [List.map_cons,List.map_cons]
    refine .cons ?_ ih
    obtain ⟨h1,h2⟩:=h
    by_cases e:p.1=k
    · rw [if_pos e,if_pos (h1.symm.trans e)];exact ⟨h1,ry⟩
    · rw [if_neg e,if_neg (fun z=>e (h1.trans z))];exact ⟨h1,h2⟩
theorem KV.put {kvs:List (κ×V)}{vs:List (κ×Value)}(r:KV kvs vs)(k:κ){y:V}{u:Value}(ry:RelV y u):KV (putK kvs k y) (stored vs k u):=by
  unfold putK stored
  rw [r.any k]
  by_cases e:(vs.any fun kv=>decide (kv.1=k))=true
  · rw [if_pos e,if_pos e];exact r.tq k ry
  · rw [if_neg e,if_neg e];exact Paired.snoc r ⟨rfl,ry⟩
theorem KV.length {kvs:List (κ×V)}{vs:List (κ×Value)}(r:KV kvs vs):kvs.length=vs.length:=Paired.length r
end
theorem iL {P:Program}{w:World}{k:Key}{u:Value}(r:RelV (kV k) u):(cx P w).is k u=true:=by
  cases k with
  | inl i=>obtain ⟨t,e⟩:=(show∃t,u=Value.int i t from r);subst e;exact nC P w i t
  | inr x=>obtain ⟨t,e⟩:=(show∃t,u=Value.str x t from r);subst e;exact nD P w x t
theorem lq {P:Program}{w:World}:∀{ks:List Key} {us:List Value},Vals (ks.map kV) us→ItemsAre (cx P w) ks us
  | [],_,r=>by rw [List.map_nil] at r;cases r;exact .nil
  | k::ks,_,r=>by
    rw [List.map_cons] at r
    cases r with
    | cons h t=>exact .cons (iL h) (lq t)
noncomputable abbrev KT (H:Hp):List (List Key×V)→List (List Key×Addr×Value)→Prop:=Paired fun p q=>p.1=q.1∧H q.2.1=some (.tup (p.1.map kV))∧RelV p.2 q.2.2
theorem KT.val {H:Hp}{kvs:List (List Key×V)}{xs:List (List Key×Addr×Value)}(r:KT H kvs xs)(k:List Key):fK (cy kvs k) ((atKey xs k).map (·.2)):=by
  induction r with
  | nil=>exact True.intro
  | @cons p q ps qs h t ih=>
    obtain ⟨h1,_,h2⟩:=h
    by_cases e:p.1=k
    · have e':q.1=k:=h1.symm.trans e
      have b:atKey (q::qs) k=some q.2:=by simp [atKey,List.find?_cons,e']
      rw [cK e,b];exact h2
    · have e':¬q.1=k:=fun z=>e (h1.trans z)
      have b:atKey (q::qs) k=atKey qs k:=by simp [atKey,List.find?_cons,e']
      rw [cL e,b];exact ih
theorem KT.tq {H:Hp}{kvs:List (List Key×V)}{xs:List (List Key×Addr×Value)}(r:KT H kvs xs)(k:List Key){y:V}{u:Value}(ry:RelV y u):
    KT H (kvs.map fun kv=>if kv.1=k then (kv.1,y) else kv) (xs.map (putAt k u)):=by
  induction r with
  | nil=>exact .nil
  | @cons p q ps qs h t ih=>
    rw [List.map_cons,List.map_cons]
    refine .cons ?_ ih
    obtain ⟨h1,h2,h3⟩:=h
    unfold putAt
    by_cases e:p.1=k
    · rw [if_pos e,if_pos (h1.symm.trans e)];exact ⟨h1,h2,ry⟩
    · rw [if_neg e,if_neg (fun z=>e (h1.trans z))];exact ⟨h1,h2,h3⟩
theorem KT.put {H:Hp}{kvs:List (List Key×V)}{xs:List (List Key×Addr×Value)}(r:KT H kvs xs)(k:List Key){b:Addr}{y:V}{u:Value}(hb:H b=some (.tup (k.map kV)))(ry:RelV y u):
    KT H (putK kvs k y) (storedH xs k b u):=by
  have e:(kvs.any fun kv=>decide (kv.1=k))=(atKey xs k).isSome:=by
    rw [dU,(r.val k).eU,Option.isSome_map]
  unfold putK storedH
  rw [e]
  by_cases q:(atKey xs k).isSome=true
  · rw [if_pos q,if_pos q];exact r.tq k ry
  · rw [if_neg q,if_neg q];exact Paired.snoc r ⟨rfl,hb,ry⟩
theorem KT.keeps {H H':Hp}{kvs:List (List Key×V)}{xs:List (List Key×Addr×Value)}(r:KT H kvs xs)(ht:∀b ys,H b=some (.tup ys)→H' b=some (.tup ys)):KT H' kvs xs:=
  Paired.tw r fun _ _ z=>⟨z.1,ht _ _ z.2.1,z.2.2⟩
section
variable {P:Program}{w:World}{H:Hp}{h:Heap}{a:Addr}
theorem ur {u:HO}(ok:cU P w H h)(e:Rd H a u):bT P w H h a u:=e.ok ok
theorem iM {kvs:List (Key×V)}(ok:cU P w H h)(e:Rd H a (.dK kvs)):kvs.length≤sizeLine∧(a==sysModules)=false∧∃vs,KV kvs vs∧h.DictOf (cx P w) a vs:=
  show bT P w H h a (.dK kvs) from ur ok e
theorem tO {kvs:List (Key×V)}(ok:cU P w H h)(e:H a=some (.dK kvs)):kvs.length≤sizeLine∧(a==sysModules)=false∧∃vs,KV kvs vs∧h.DictOf (cx P w) a vs:=iM ok (.inl e)
theorem hZ {ks:List Key}(ok:cU P w H h)(e:H a=some (.tup (ks.map kV))):(tupleKind (cx P w)).is h ks a:=by
  obtain ⟨_,its,r,o,h1,h2,n,h3⟩:=(show bT P w H h a (.tup (ks.map kV)) from ok a _ e)
  exact ⟨o,its.toArray,n,h1,h2,h3,by simpa using lq r⟩
theorem jv {kvs:List (List Key×V)}(ok:cU P w H h)(e:Rd H a (.dT kvs)):kvs.length≤sizeLine∧(a==sysModules)=false∧
    ∃xs,KT H kvs xs∧h.DictOfH (tupleKind (cx P w)) a xs:=by
  obtain ⟨z,y,xs,r,o,es,ep,h1,h2,h3,h4,h5⟩:=(show bT P w H h a (.dT kvs) from ur ok e)
  refine ⟨z,y,xs,r,o,es,ep,h1,h2,h3,h4,fun x hx=>?_,h5⟩
  have all:∀{l:List (List Key×V)} {m:List (List Key×Addr×Value)},KT H l m→∀x∈m,(tupleKind (cx P w)).is h x.1 x.2.1:=by
    intro l m q
    induction q with
    | nil=>intro x hx;exact nomatch hx
    | @cons p q ps qs hq t ih=>
      intro x hx
      rcases List.mem_cons.mp hx with e | hx
      · subst e
        exact hZ ok (by rw [← hq.1];exact hq.2.1)
      · exact ih x hx
  exact all r x hx
theorem zE {kvs:List (List Key×V)}(ok:cU P w H h)(e:H a=some (.dT kvs)):kvs.length≤sizeLine∧(a==sysModules)=false∧
    ∃xs,KT H kvs xs∧h.DictOfH (tupleKind (cx P w)) a xs:=jv ok (.inl e)
end
noncomputable def dQ (H:Hp)(a:Addr)(y:V)(r:Option V):Prop:=
  (∃kvs k,Rd H a (.dK kvs)∧y=kV k∧r=cy kvs k)∨∃kvs k b,Rd H a (.dT kvs)∧y= .ref b∧H b=some (.tup (k.map kV))∧r=cy kvs k
noncomputable def kH (H:Hp)(a:Addr)(y v:V)(H':Hp):Prop:=
  (∃kvs k,H a=some (.dK kvs)∧y=kV k∧kvs.length < sizeLine∧H'=upd H a (.dK (putK kvs k v)))∨
  ∃kvs k b,H a=some (.dT kvs)∧y= .ref b∧H b=some (.tup (k.map kV))∧kvs.length < sizeLine∧H'=upd H a (.dT (putK kvs k v))
theorem dQ.k {H:Hp}{a:Addr}{kvs:List (Key×V)}{k:Key}(e:H a=some (.dK kvs)):dQ H a (kV k) (cy kvs k):=.inl ⟨kvs,k,.inl e,rfl,rfl⟩
theorem kH.k {H:Hp}{a:Addr}{kvs:List (Key×V)}{k:Key}{v:V}(e:H a=some (.dK kvs))(hl:kvs.length < sizeLine):kH H a (kV k) v (upd H a (.dK (putK kvs k v))):=.inl ⟨kvs,k,e,rfl,hl,rfl⟩
section
variable {X:Cx}{pins:List (Addr×Obj)}{σ:St}{H:Hp}{s:Shared}{a:Addr}{y v:V}{u r:Value}{o:Option V}{A:Around}{E:Value→Shared→Prop}
theorem Inv.big (I:Inv X pins σ H s):sysModules < s.heap.objs.size:=by
  have h:mainGlobals < s.heap.objs.size:=(I.mod.glob.keeps I.bk).lt
  exact Nat.lt_trans (by decide) h
theorem qy {Q:Value→Shared→Prop}(hu:A.units + 1 < cLine)(I:Inv X pins σ H s)(g:dQ H a y (some v))(ry:RelV y u)(h:∀w' s',Inv X pins σ H s'→RelV v w'→Q w' s'):
    wpAny (model X.prog X.w) A (getItem (.ref a) u) Q E s:=by
  rcases g with ⟨kvs,k,e,ey,l⟩ | ⟨kvs,k,b,e,ey,eb,l⟩
  · subst ey
    obtain ⟨z,hd,vs,rel,dd⟩:=iM I.hok e
    obtain ⟨w',hw,rw'⟩:=fK.some_of (v:=v) (o:=valueAt vs k) (by rw [l];exact rel.val k)
    exact wpAny_getItem_of (iL ry) dd.mapOf hw (h w' _ (I.tok _) rw')
  · subst ey
    cases (show u=Value.ref b from ry)
    obtain ⟨z,hd,xs,rel,dd⟩:=jv I.hok e
    obtain ⟨w',hw,rw'⟩:=fK.some_of (v:=v) (o:=(atKey xs k).map (·.2)) (by rw [l];exact rel.val k)
    obtain ⟨p,hp,hp2⟩:=Option.map_eq_some_iff.mp hw
    refine wpAny_getItem_heap (tupleKind_room_in1 hu) (hZ I.hok eb) dd hp ?_
    rw [hp2]
    exact h w' _ (I.tok _) rw'
theorem Bq {Q:Value→Shared→Prop}(hu:A.units + 1 < cLine)(I:Inv X pins σ H s)(g:dQ H a y o)(ry:RelV y u)(h:∀s',Inv X pins σ H s'→Q (.bool o.isSome) s'):
    wpAny (model X.prog X.w) A (compareOp .In u (.ref a)) Q E s:=by
  rcases g with ⟨kvs,k,e,ey,l⟩ | ⟨kvs,k,b,e,ey,eb,l⟩
  · subst ey
    obtain ⟨z,hd,vs,rel,dd⟩:=iM I.hok e
    refine wpAny_in_of (iL ry) hd dd.mapOf ?_
    rw [← (rel.val k).eU,← l]
    exact h _ (I.tok _)
  · subst ey
    cases (show u=Value.ref b from ry)
    obtain ⟨z,hd,xs,rel,dd⟩:=jv I.hok e
    refine wpAny_in_heap (tupleKind_room_in1 hu) (hZ I.hok eb) hd dd ?_
    have q:=(rel.val k).eU
    rw [Option.isSome_map] at q
    rw [← q,← l]
    exact h _ (I.tok _)
theorem vo {Q:Value→Shared→Prop}(hu:A.units + 1 < cLine)(I:Inv X pins σ H s)(g:dQ H a y o)(ry:RelV y u)(h:∀s',Inv X pins σ H s'→Q (.bool (!o.isSome)) s'):
    wpAny (model X.prog X.w) A (compareOp .NotIn u (.ref a)) Q E s:=by
  rcases g with ⟨kvs,k,e,ey,l⟩ | ⟨kvs,k,b,e,ey,eb,l⟩
  · subst ey
    obtain ⟨z,hd,vs,rel,dd⟩:=iM I.hok e
    refine wpAny_notIn_of (iL ry) hd dd.mapOf ?_
    rw [← (rel.val k).eU,← l]
    exact h _ (I.tok _)
  · subst ey
    cases (show u=Value.ref b from ry)
    obtain ⟨z,hd,xs,rel,dd⟩:=jv I.hok e
    refine wpAny_notIn_heap (tupleKind_room_in1 hu) (hZ I.hok eb) hd dd ?_
    have q:=(rel.val k).eU
    rw [Option.isSome_map] at q
    rw [← q,← l]
    exact h _ (I.tok _)
theorem kA {h':Heap}{t':Nat}{ob:HO}(I:Inv X pins σ H s)(mu:rq (H a))(hs:Heap.SameBut a s.heap h')(he:∃q,h'.get? a=some q)(new:bT X.prog X.w (upd H a ob) h' a ob):
    Inv X pins σ (upd H a ob) {s with heap:=h',toks:=t'}:=
  I.write (x:=a) (e:=a) mu (.inl rfl) (fun b q hb z=>(hs.2 b hb).trans z) he new
theorem qE {P:Program}{w:World}{H':Hp}{h':Heap}{kvs:List (Key×V)}{vs:List (Key×Value)}(z:kvs.length≤sizeLine)(hd:(a==sysModules)=false)(rel:KV kvs vs)(dd:h'.DictOf (cx P w) a vs):
    bT P w H' h' a (.dK kvs):=⟨z,hd,vs,rel,dd⟩
theorem rW {H':Hp}{Q:Unit→Shared→Prop}(hu:A.units + 1 < cLine)(I:Inv X pins σ H s)(g:kH H a y v H')(ry:RelV y u)(rv:RelV v r)(h:∀s',Inv X pins σ H' s'→Q () s'):
    wpAny (model X.prog X.w) A (setItem (.ref a) u r) Q E s:=by
  rcases g with ⟨kvs,k,e,ey,l,eH⟩ | ⟨kvs,k,b,e,ey,eb,l,eH⟩
  · subst ey eH
    obtain ⟨z,hd,vs,rel,dd⟩:=tO I.hok e
    have hz:vs.length≤sizeLine:=by rw [← rel.length];exact z
    have hl:(putK kvs k v).length≤sizeLine:=by have:=gg kvs k v;omega
    refine wpAny_setItem_pairs (hsz:=hz) (iL ry) dd fun h' dd' hs=>h _ ?_
    have he:∃q,h'.get? a=some q:=let ⟨q,_,_,hq,_⟩:=dd';⟨q,hq⟩
    exact kA I (by rw [e];exact True.intro) hs he (qE hl hd (rel.put k rv) dd')
  · subst ey eH
    cases (show u=Value.ref b from ry)
    obtain ⟨z,hd,xs,rel,dd⟩:=zE I.hok e
    have hz:xs.length≤sizeLine:=by rw [← Paired.length rel];exact z
    have hl:(putK kvs k v).length≤sizeLine:=by have:=gg kvs k v;omega
    refine wpAny_setItem_heap (hsz:=hz) (tupleKind_room_in1 hu) (hZ I.hok eb) dd fun h' dd' hs=>h _ ?_
    obtain ⟨q,es,ep,hq,h2,h3,h4,_,h5⟩:=dd'
    refine kA I (by rw [e];exact True.intro) hs ⟨q,hq⟩ ⟨hl,hd,_,(rel.put k eb rv).keeps fun c ys ec=>?_,q,es,ep,hq,h2,h3,h4,h5⟩
    rw [aD (zw ec e (fun z=>nomatch z))]
    exact ec
end
section
variable {X:Cx}{pins:List (Addr×Obj)}{σ:St}{H:Hp}{s:Shared}{a:Addr}{kvs:List (Key×V)}{k:Key}{u:Value}{A:Around}{E:Value→Shared→Prop}
theorem zB {Q:Value→Shared→Prop}(I:Inv X pins σ H s)(e:Rd H a (.dK kvs))(h:∀t s',Inv X pins σ H s'→Q (.int kvs.length t) s'):wpAny (model X.prog X.w) A (call (.builtin "len") [.ref a]) Q E s:=by
  obtain ⟨z,hd,vs,rel,dd⟩:=iM I.hok e
  refine call_len_dict hd dd (by rw [← rel.length];rw [sizeLine_eq] at z;omega) ?_
  rw [← rel.length]
  exact h _ _ (I.tok _)
end
noncomputable def pk (i:Expr):Prop:=∀ov iv,subscripted i false ov iv=operate [ov,iv] (getItem ov iv)
theorem vh {prog:Program}{w:World}{A:Around}{E:Value→Shared→Prop}{s:Shared}{env:Env}{value slice:Expr}{pos:Pos}{T id:String}{Q:Value→Shared→Prop}
    (hl:typeLookup (.type T) "__getitem__"=pure (some (.builtin id))) (hs:pk slice)
    (h:wpAny (model prog w) A (eval value env) (fun o s₁=>wpAny (model prog w) A (eval slice env) (fun i s₂=>s₂.TypeIs o T∧wpAny (model prog w) A (getItem o i) Q E s₂) E s₁) E s):
    wpAny (model prog w) A (eval (.Subscript value slice pos) env) Q E s:=by
  refine Subscript_ (wpAny_mono h (fun o s₁ h₁=>wpAny_mono h₁ (fun i s₂ h₂=>?_) fun _ _ x=>x) fun _ _ x=>x)
  obtain ⟨hT,h₂⟩:=h₂
  unfold subscriptTail
  refine wpAny_bind ?_
  rw [getitemInPython_of_ne hT.not_modules]
  refine wpAny_bind (wpAny_specialOf hT hl ?_)
  have fin:wpAny (model prog w) A (subscripted slice false o i) (fun r s₃=>wpAny (model prog w) A (letTemporaryGo value o r >>=fun _=>pure r) Q E s₃) E s₂:=by
    rw [hs o i]
    exact wpAny_operating (wpAny_mono h₂ (fun r s₃ h₃=>wpAny_bind (wpAny_letTemporaryGo (wpAny_pure h₃))) fun _ _ x=>x)
  first
    | exact wpAny_pure (wpAny_bind fin)
    | exact wpAny_bind (wpAny_pure (wpAny_bind fin))
    | exact wpAny_bind fin
theorem nI {X:Cx}{pins:List (Addr×Obj)}{σ:St}{H:Hp}{s:Shared}{a:Addr}{y:V}{o:Option V}(I:Inv X pins σ H s)(g:dQ H a y o):s.TypeIs (.ref a) "dict":=by
  rcases g with ⟨kvs,k,e,_,_⟩ | ⟨kvs,k,b,e,_,_,_⟩
  · obtain ⟨_,_,vs,_,dd⟩:=iM I.hok e
    exact dd.typeIs
  · obtain ⟨_,_,xs,_,dd⟩:=jv I.hok e
    exact dd.typeIs
noncomputable def zj (td ty:TE):TE:=fun σ H Q=>td σ H fun x H1=>ty σ H1 fun y H2=>∃a v,x= .ref a∧dQ H2 a y (some v)∧Q v H2
noncomputable def A0 (ty td:TE):TE:=fun σ H Q=>ty σ H fun y H1=>td σ H1 fun x H2=>∃a o,x= .ref a∧dQ H2 a y o∧Q (.bl o.isSome) H2
noncomputable def vJ (ty td:TE):TE:=fun σ H Q=>ty σ H fun y H1=>td σ H1 fun x H2=>∃a o,x= .ref a∧dQ H2 a y o∧Q (.bl (!o.isSome)) H2
noncomputable def zc (td ty tv:TE):TS:=fun D σ H=>tv σ H fun v H1=>td σ H1 fun x H2=>ty σ H2 fun y H3=>∃a H4,x= .ref a∧kH H3 a y v H4∧D.nx σ H4
section
variable {X:Cx}{o i e value:Expr}{pos pos' tpos:Pos}{td ty tv:TE}
theorem n8 (hu:X.A.units + 1 < cLine)(ho:PE X o td)(hi:PE X i ty)(hs:pk i):PE X (.Subscript o i pos) (zj td ty):=by
  intro pins s σ H Q I h
  refine vh PySem.F.slot_dict_getitem.lookup hs (aM (ho pins s σ H _ I h) fun u s1 ⟨x,H1,I1,rx,q1⟩=>aM (hi pins s1 σ H1 _ I1 q1) fun iv s2 ⟨y,H2,I2,ry,a,v,ex,g,q2⟩=>?_)
  subst ex
  obtain rfl:u=Value.ref a:=rx
  exact ⟨nI I2 g,qy hu I2 g ry fun w' s3 I3 rw'=>⟨v,H2,I3,rw',q2⟩⟩
theorem mH (hu:X.A.units + 1 < cLine)(hi:PE X i ty)(ho:PE X o td):PC X .In i o (A0 ty td):=by
  intro pins s σ H Q I h
  refine aM (hi pins s σ H _ I h) fun iv s1 ⟨y,H1,I1,ry,q1⟩=>aM (ho pins s1 σ H1 _ I1 q1) fun u s2 ⟨x,H2,I2,rx,a,ov,ex,g,q2⟩=>?_
  subst ex
  obtain rfl:u=Value.ref a:=rx
  exact Bq hu I2 g ry fun s3 I3=>⟨.bl ov.isSome,H2,I3,rfl,q2⟩
theorem qJ (hu:X.A.units + 1 < cLine)(hi:PE X i ty)(ho:PE X o td):PC X .NotIn i o (vJ ty td):=by
  intro pins s σ H Q I h
  refine aM (hi pins s σ H _ I h) fun iv s1 ⟨y,H1,I1,ry,q1⟩=>aM (ho pins s1 σ H1 _ I1 q1) fun u s2 ⟨x,H2,I2,rx,a,ov,ex,g,q2⟩=>?_
  subst ex
  obtain rfl:u=Value.ref a:=rx
  exact vo hu I2 g ry fun s3 I3=>⟨.bl (!ov.isSome),H2,I3,rfl,q2⟩
theorem n6 (hu:X.A.units + 1 < cLine)(ho:PE X o td)(hi:PE X i ty)(hv:PE X value tv)(hs:swapsWith value (some (.Subscript o i pos')) pos.line X.env=pure false):
    PS X (.Assign [.Subscript o i pos'] value pos) (zc td ty tv):=by
  intro pins s σ H D I h
  refine wpAny_Assign_Subscript (aM (hv pins s σ H _ I h) fun r s1 ⟨v,H1,I1,rv,q1⟩=>aM (ho pins s1 σ H1 _ I1 q1) fun u s2 ⟨x,H2,I2,rx,q2⟩=>aM (hi pins s2 σ H2 _ I2 q2) fun iv s3 ⟨y,H3,I3,ry,a,H4,ex,g,q3⟩=>?_) hs
  subst ex
  obtain rfl:u=Value.ref a:=rx
  exact rW hu I3 g ry rv fun s4 I4=>⟨σ,H4,I4,q3⟩
end
theorem tm {P:Program}{w:World}{H:Hp}(h:Heap)(hb:sysModules < h.objs.size):bT P w H (h.push {cls:=.type "dict",data:=.dict #[]}) h.objs.size (.dK []):=
  ⟨Nat.zero_le _,beq_eq_false_iff_ne.mpr (Ne.symm (Nat.ne_of_lt hb)),[],.nil,Heap.DictOf.new h⟩
section
variable {X:Cx}{pos:Pos}
end
noncomputable def ma:List (TE×TE)→St→Hp→(List (V×V)→Hp→Prop)→Prop
  | [],_,H,Q=>Q [] H
  | (tk,tv)::r,σ,H,Q=>tk σ H fun x H1=>tv σ H1 fun y H2=>ma r σ H2 fun ps H3=>Q ((x,y)::ps) H3
noncomputable abbrev VV:List (V×V)→List (Value×Value)→Prop:=Paired fun p q=>RelV p.1 q.1∧RelV p.2 q.2
noncomputable def tQ (X:Cx)(pos:Pos)(keys:List (Option Expr))(values:List Expr)(trs:List (TE×TE)):Prop:=
  ∀ (pins:List (Addr×Obj)) (s:Shared) (σ:St) (H:Hp) (Q:List (V×V)→Hp→Prop),Inv X pins σ H s→ma trs σ H Q→
    wpAny (model X.prog X.w) X.A (evalPairs (pairTrees keys values X.env pos)) (fun vs s'=>∃ps H',Inv X pins σ H' s'∧VV ps vs∧Q ps H') X.xe s
theorem uL {X:Cx}{pos:Pos}:tQ X pos [] [] []:=fun pins s σ H Q I h=>pairTrees_nil_walk ⟨[],H,I,.nil,h⟩
theorem sr {X:Cx}{pos:Pos}{k v:Expr}{ks:List (Option Expr)}{vs:List Expr}{tk tv:TE}{trs:List (TE×TE)}(hk:PE X k tk)(hv:PE X v tv)(hr:tQ X pos ks vs trs):
    tQ X pos (some k::ks) (v::vs) ((tk,tv)::trs):=fun pins s σ H Q I h=>
  pairTrees_cons_walk (aM (hk pins s σ H _ I h) fun u s1 ⟨x,H1,I1,rx,q1⟩=>aM (hv pins s1 σ H1 _ I1 q1) fun w2 s2 ⟨y,H2,I2,ry,q2⟩=>
    aM (hr pins s2 σ H2 _ I2 q2) fun ws s3 ⟨ps,H3,I3,rel,q3⟩=>⟨(x,y)::ps,H3,I3,.cons ⟨rx,ry⟩ rel,q3⟩)
noncomputable def gA (kvs more:List (Key×V)):List (Key×V):=more.foldl (fun acc kv=>putK acc kv.1 kv.2) kvs
theorem KV.merge:∀{more:List (Key×V)} {rs:List (Key×Value)} {kvs:List (Key×V)} {vs:List (Key×Value)},KV more rs→KV kvs vs→KV (gA kvs more) (merged vs rs):=by
  intro more rs kvs vs r
  unfold KV at r
  induction r generalizing kvs vs with
  | nil=>intro q;exact q
  | @cons p q ps qs h t ih=>
    intro r0
    have e:KV (putK kvs p.1 p.2) (stored vs q.1 q.2):=by
      have:=r0.put p.1 h.2
      rw [← h.1];exact this
    exact ih e
theorem g5:∀(more kvs:List (Key×V)),(gA kvs more).length≤kvs.length + more.length
  | [],kvs=>by show kvs.length≤kvs.length + 0;omega
  | p::r,kvs=>by
    have h1:=g5 r (putK kvs p.1 p.2)
    have h2:=gg kvs p.1 p.2
    show (gA (putK kvs p.1 p.2) r).length≤_
    rw [List.length_cons];omega
theorem jP {P:Program}{w:World}:∀{kvs:List (Key×V)} {ws:List (Value×Value)},VV (kvs.map fun kv=>(kV kv.1,kv.2)) ws→∃rs,Carries (cx P w) ws rs∧KV kvs rs
  | [],_,r=>by rw [List.map_nil] at r;cases r;exact ⟨[],True.intro,.nil⟩
  | p ::kvs,_,r=>by
    rw [List.map_cons] at r
    cases r with
    | @cons a b as bs h t=>
      obtain ⟨rs,c,q⟩:=jP (P:=P) (w:=w) t
      obtain ⟨b1,b2⟩:=b
      exact ⟨(p.1,b2)::rs,⟨iL h.1,rfl,c⟩,.cons ⟨rfl,h.2⟩ q⟩
noncomputable def zp (trs:List (TE×TE)):TE:=fun σ H Q=>∀p,H p=none→ma trs σ (upd H p (.dK [])) fun ps H2=>H2 p=some (.dK [])∧∃kvs:List (Key×V),ps=kvs.map (fun kv=>(kV kv.1,kv.2))∧kvs.length≤15∧Q (.ref p) (upd H2 p (.dK (gA [] kvs)))
theorem vC {X:Cx}{pos:Pos}{keys:List (Option Expr)}{values:List Expr}{trs:List (TE×TE)}(h:tQ X pos keys values trs)(hall:keys.all (·.isSome)=true)(hl:keys.length=values.length)(h0:keys≠[])
    (h15:keys.length≤15):PE X (.Dict keys values pos) (zp trs):=by
  intro pins s σ H Q I q
  have hn:=I.hok.fresh (Nat.le_refl s.heap.objs.size)
  have I1:=I.laid (a:=s.heap.objs.size) (o:=.dK []) (h':=s.heap.push {cls:=.type "dict",data:=.dict #[]}) (t':=s.toks) (fun _ _ q=>Heap.get?_push_of_some _ q) (Nat.le_refl _) (tm s.heap I.big)
  refine wpAny_Dict_walk (knd:=cx X.prog X.w) hall hl h0 h15 (aM (h pins _ σ _ _ I1 (q _ hn)) fun ws s2 ⟨ps,H2,I2,rel,e,kvs,ep,lk,q2⟩=>?_)
  subst ep
  obtain ⟨rs,c,rk⟩:=jP (P:=X.prog) (w:=X.w) rel
  obtain ⟨z,hd,vs0,r0,dd⟩:=tO I2.hok e
  cases r0
  refine ⟨rs,c,dd,fun h' dd' hs=>⟨.ref s.heap.objs.size,_,?_,rfl,q2⟩⟩
  have hz:(gA [] kvs).length≤sizeLine:=by
    have h1:=g5 kvs []
    rw [List.length_nil] at h1
    rw [sizeLine_eq];omega
  have he:∃q,h'.get? s.heap.objs.size=some q:=let ⟨q,_,_,hq,_⟩:=dd';⟨q,hq⟩
  exact kA I2 (by rw [e];exact True.intro) hs he (qE hz hd (rk.merge .nil) dd')
section
variable {X:Cx}{pins:List (Addr×Obj)}{σ:St}{H:Hp}{s:Shared}{a:Addr}{y d:V}{u r:Value}{o:Option V}{A:Around}{E:Value→Shared→Prop}
end
section
variable {X:Cx}{o e f:Expr}{apos cpos:Pos}{td ty tx:TE}
end
section
variable {X:Cx}{pins:List (Addr×Obj)}{σ:St}{H:Hp}{s:Shared}{a:Addr}{kvs:List (Key×V)}{A:Around}{E:Value→Shared→Prop}
end
section
variable {X:Cx}{pins:List (Addr×Obj)}{σ:St}{H:Hp}{s:Shared}{a:Addr}{y:V}{u:Value}{A:Around}{E:Value→Shared→Prop}
end
end L2
namespace Att
open PySem PySem.W PySem.Calls PyProof.Rows
theorem jW {P:Params}{h:Heap}:∀(ns:List Int) (vs:List Value),WellAll P h vs (ns.map WData.int)→IntsAre vs ns:=by
  intro ns
  induction ns with
  | nil=>
    intro vs w
    rw [List.map_nil] at w
    cases w
    exact .nil
  | cons n ns ih=>
    intro vs w
    rw [List.map_cons] at w
    cases w with
    | cons a b=>
      cases a
      exact .cons _ _ (ih _ b)
theorem pZ {l:OpenLaw}{n:Nat}(hn:l.most=some n){P:Params}{h:Heap}{args:List WData}{vals:List Value}
    (hpre:l.row.toRowW.claim.pre args=true) (hwl:WellAll P h vals args):
    ∃a vs ns,vals=[Value.ref a]∧args=[WData.list (ns.map WData.int)]∧h.get? a=some {cls:=.type "list",data:=.seq vs.toArray}∧IntsAre vs ns∧ns.length≤n:=by
  have hsh:WShape.hasAll [] args [.list .int]=true:=(pre_splitW hpre).1
  have hc:l.pre.holds [] {args:=args}=true:=(pre_splitW hpre).2
  obtain ⟨d,r,rfl,h1,h2⟩:=hasAllW_cons hsh
  obtain rfl:=hasAllW_nil h2
  obtain ⟨xs,rfl,h3⟩:=hasW_list h1
  obtain ⟨ns,rfl⟩:=items_int h3
  have hlen:ns.length≤n:=by
    unfold OpenLaw.pre at hc
    have h4:(WTm.not (.lt (.lit (.int (n:Int))) (.len (.arg 0)))).holds [] {args:=[.list (ns.map .int)]}=true:=by
      have h4:=(holds_andW hc).1
      rw [hn] at h4
      exact h4
    have h5:=condW_of h4 (w_not (w_lt w_lit (w_len_list (w_arg rfl))))
    rw [List.length_map] at h5
    refine Nat.le_of_not_lt fun q=>?_
    have q':(n:Int) < ((ns.length:Nat):Int):=by omega
    first
      | (rw [decide_eq_true q'] at h5;exact absurd h5 (by decide))
      | (simp at h5;omega)
  cases hwl with
  | cons w1 w2=>
    cases w2
    cases w1 with
    | list ho hall=>exact ⟨_,_,ns,rfl,rfl,ho,jW ns _ hall,hlen⟩
theorem qv (l:OpenLaw)(args:List WData):l.row.toRowW.claim.post args (.bool true) args=true:=
  postW_of (r:=l.row.toRowW) (X:=(true==true))
    (show WShape.has [] (.bool true) .bool=true by first | rfl | decide | simp [WShape.has,WShape.arms,WShape.armsAll])
    (show (WTm.eq .res (.lit (.bool true))).value [] {args:=args,res:=some (.bool true),after:=args}=some (.bool (true==true)) from w_eq_bool (w_res rfl) w_lit) rfl
section
variable {prog:Program}{w:World}{A:Around}{E:Value→Shared→Prop}{s:Shared}{K:Frag}
end
end Att
namespace L2
open PySem PySem.Spec PyProof.Rows
theorem lC:∀{vs:List Value} {ns:List Int},IntsAre vs ns→Vals (ns.map V.int) vs
  | _,_,.nil=>.nil
  | _,_,.cons n t h=>.cons ⟨t,rfl⟩ (lC h)
noncomputable def tD (H:Hp):Prop:=∀b,H b=none∨∃o xs,H b=some (.frz o (.lst xs))
theorem tF {P:Program}{w:World}{K:PySem.W.Frag}{mg mb:Str→Option Value}{CX:g9}{k:Nat}{fa a:Addr}{fd:FuncData}{x:Str}{sp:Sp}{s₁:Shared}{vs:List Value}{ns:List Int}
    (KX:K.In s₁.heap) (hns:s₁.heap.Ns mainGlobals mg) (hb:s₁.heap.Ns builtinsNs mb) (hbb:∀x:Str,x≠"__name__"→mb x=bootBuiltins x) (hlim:s₁.heap.NoLimit) (hg:s₁.gens= #[])
    (ha:s₁.heap.get? a=some {cls:=.type "list",data:=.seq vs.toArray}) (hi:IntsAre vs ns) (hl:ns.length≤sizeLine) (hr:bN k callerA)
    (F:∀base:Heap,K.In base→base.Ns mainGlobals mg→dR P w K mg base CX k fa fd [x] sp) (hbind:∀(s:Shared) (u:Value),BindsTo s fd ⟨[u],[]⟩ [(x,u)])
    (hsp:∀H:Hp,tD H→aX K H a (ns.map V.int)→sp [.ref a] H (fun v _=>v= .bl true) fun _ _ _=>False)
    (hCX:∀H e s',CX [] H s₁ (fun _ _ _=>False) e s'→False):
    codeAny (model P w) callerA (.call (.ref fa) ⟨[.ref a],[]⟩) (fun r s'=>r= .ok (.ret (.bool true))∧OldK s₁.heap s'.heap∧s'.os=s₁.os∧AllBare s'.gens) s₁:=by
  have rv:=lC hi
  have lenV:=hi.length
  -- from an abstract heap in which nothing but the script may be tracked
  have core :∀H:Hp,tD H→aX K H a (ns.map V.int)→cU P w H s₁.heap→(∀b,H b≠none→b=a)→(H a≠none→K.lookup a=none)→
      codeAny (model P w) callerA (.call (.ref fa) ⟨[.ref a],[]⟩) (fun r s'=>r= .ok (.ret (.bool true))∧OldK s₁.heap s'.heap∧s'.os=s₁.os∧AllBare s'.gens) s₁:=by
    intro H hO hS hok hA hK
    have base_of:∀{b:Addr} {o:Obj},s₁.heap.get? b=some o→H b=none→(gW s₁.heap H).get? b=some o:=fun e n=>sV e n
    have noA:∀{b:Addr} {o:Obj} {es:Array DictEntry} {ep:Nat},s₁.heap.get? b=some o→o.data= .dict es ep→H b=none:=fun {b o es ep} e d=>by
      cases q:H b with
      | none=>rfl
      | some u=>
        have e':b=a:=hA b (by rw [q];simp)
        subst e'
        rw [ha] at e;cases e
        have d':Data.seq vs.toArray _=Data.dict es ep:=d
        cases d'
    have nsK:∀{b:Addr} {m:Str→Option Value},s₁.heap.Ns b m→(gW s₁.heap H).Ns b m:=fun {b m} ⟨o,es,ep,e,d,r⟩=>⟨o,es,ep,base_of e (noA e d),d,r⟩
    have hKb:K.In (gW s₁.heap H):=fun b o e=>base_of (KX b o e) (by
      cases q:H b with
      | none=>rfl
      | some u=>
        have e':b=a:=hA b (by rw [q];simp)
        subst e'
        rw [hK (by rw [q];simp)] at e;cases e)
    have hM:Mod K mg (gW s₁.heap H):=⟨hKb,nsK hns,⟨mb,nsK hb,hbb⟩,let ⟨mc,h1,h2⟩:=hlim;⟨mc,nsK h1,h2⟩⟩
    have e0:pC P w K mg (gW s₁.heap H) callerA [] s₁ H:=⟨rfl,hM,fun b o e=>uI e,Nat.le_of_eq (rj _ _),trivial,fun b hb=>absurd (show b∈([]:List Addr) from hb) (by simp),hok,.of_eq hg⟩
    refine codeAny_mono ((F _ hKb (nsK hns)).run callerA [] s₁ H ⟨[.ref a],[]⟩ [.ref a] [.ref a] _ _ hr e0 (hbind s₁ (.ref a)) (.cons rfl .nil) (hsp H hO hS)) fun r s' h=>?_
    cases r with
    | error e=>exact (hCX H e s' h).elim
    | ok fl =>
      cases fl with
      | next=>exact False.elim h
      | brk=>exact False.elim h
      | cont=>exact False.elim h
      | ret u=>
        obtain ⟨v,H',os,bare,un,hok',r',q⟩:=h
        have q':v= .bl true:=q
        subst q'
        obtain rfl:u=Value.bool true:=r'
        refine ⟨rfl,OldK.of_keep fun b o e=>?_,os,bare⟩
        cases q:H b with
        | none=>exact un.keep b o e q (by intro z;exact absurd (show b∈([]:List Addr) from z) (by simp)) (by simp)
        | some u=>
          rcases hO b with z | ⟨ob,xs,z⟩
          · rw [q] at z;cases z
          · have z2:=un.frzs b ob _ z
            obtain ⟨e1,_⟩:=hok b _ z
            obtain ⟨e2,_⟩:=hok' b _ z2
            rw [e] at e1;cases e1
            exact e2
  cases hk:K.lookup a with
  | some o=>
    -- the script is one of the module's own objects
    have e:=KX a o hk
    rw [ha] at e
    cases e
    refine core (fun _=>none) (fun _=>.inl rfl) (.inr ⟨_,vs.toArray,_,hk,rfl,rfl,rfl,by rw [List.size_toArray,lenV];exact hl,by simpa using rv⟩) (fun b u z=>by have z':(none:Option HO)=some u:=z;cases z') (fun b z=>absurd rfl z) fun z=>absurd rfl z
  | none=>
    refine core (fun b=>if b=a then some (.frz {cls:=.type "list",data:=.seq vs.toArray} (.lst (ns.map V.int))) else none) (fun b=>?_) (.inl (.inr ⟨{cls:=.type "list",data:=.seq vs.toArray},if_pos rfl⟩)) (fun b u z=>?_) (fun b z=>?_) fun _=>hk
    · by_cases hb:b=a
      · exact .inr ⟨_,_,if_pos hb⟩
      · exact .inl (if_neg hb)
    · by_cases hb:b=a
      · have z':=(if_pos hb).symm.trans z
        cases z'
        subst hb
        exact ⟨ha,by rw [List.length_map];exact hl,vs,_,rv,ha⟩
      · have z':=(if_neg hb).symm.trans z
        cases z'
    · by_cases hb:b=a
      · exact hb
      · exact absurd (if_neg hb) z
noncomputable abbrev aY {K:PySem.W.Frag}{h:Heap}(_:K.In h):PySem.W.Frag:=K
noncomputable def dY (s:Stmt):Arguments:=match s with
  | .FunctionDef _ a _ _ _ _ _ _ _ _=>a
  | _=>{posonlyargs:=[],args:=[],vararg:=none,kwonlyargs:=[],kw_defaults:=[],kwarg:=none,defaults:=[]}
noncomputable def cq (s:Stmt):List Stmt:=match s with
  | .FunctionDef _ _ b _ _ _ _ _ _ _=>b
  | _=>[]
noncomputable def ah (s:Stmt):Scope:=match s with
  | .FunctionDef _ _ _ _ _ _ sc _ _ _=>sc
  | _=>{kind:=.function,names:=[],isGenerator:=false,isCoroutine:=false}
noncomputable abbrev eo:g9:=fun _ _ _ _ _ _=>False
noncomputable abbrev E0:XK:=fun _ _ _=>False
theorem oH {X:Cx}:Passes eo X E0:=fun _ _ _ _ _ _ _ h=>h.elim
structure bL (K:PySem.W.Frag) (x qual:Str) (st:Stmt) (f:Addr) (fd:FuncData):Prop where
  ex:∃(oc:Value) (od:Option Addr) (kV doc pm:Value) (an:Option Addr) (cdv ct:Value) (osl:Array (Option Value)),
    fd=PySem.W.fnOf x qual (dY st) (cq st) (ah st) .none kV doc pm an cdv ct∧K.lookup f=some ⟨oc,od,.func fd,osl⟩∧PySem.W.codeIn K cdv qual=true
  kp:PySem.W.keepIn K (.ref f)=true
section
variable {P:Program}{w:World}{K:PySem.W.Frag}{mg:Str→Option Value}{base:Heap}
theorem bL.ok {x qual:Str}{st:Stmt}{f:Addr}{fd:FuncData}{N ps:List Str}{k:Nat}{sp:Sp}(F:bL K x qual st f fd)(S:aE N ps (ah st))(len:∀vs H Q E,sp vs H Q E→vs.length=ps.length)
    (hbody:∀(cdv:Value) (A:Around) (outer:List Env) (s:Shared) (H:Hp) (vs:List V) (Q:VK) (E:XK),bN k (A.deeper (envOfC qual (ah st) s.heap.objs.size f cdv))→sp vs H Q E→
      ∃t,fJ (ef eo P w K mg base N qual (ah st) f cdv A outer s H E).g7 (cq st) t∧t {nx:=fun _ H'=>Q .non H',rt:=Q} (start N vs) H):dR P w K mg base eo (k + 1) f fd ps sp:=by
  obtain ⟨oc,od,kV,doc,pm,an,cdv,ct,osl,rfl,lk,hcd⟩:=F.ex
  refine yV lk hcd S len fun A outer s H vs Q E hr hsp=>?_
  obtain ⟨t,h,q⟩:=hbody cdv A outer s H vs Q E hr hsp
  exact ⟨t,h.g7,q⟩
theorem bL.binds {x qual:Str}{st:Stmt}{f:Addr}{fd:FuncData}{ps:List Str}(F:bL K x qual st f fd)
    (h:∀(kV doc pm:Value) (an:Option Addr) (cdv ct:Value) (us:List Value),us.length=ps.length→bindArgs (PySem.W.fnOf x qual (dY st) (cq st) (ah st) .none kV doc pm an cdv ct) ⟨us,[]⟩=pure (ps.zip us)):Binds K fd ps []:=by
  obtain ⟨oc,od,kV,doc,pm,an,cdv,ct,osl,rfl,lk,hcd⟩:=F.ex
  exact .all (h kV doc pm an cdv ct)
theorem mL {x qual:Str}{st:Stmt}{f:Addr}{oc:Value}{od an:Option Addr}{osl:Array (Option Value)}{kV doc pm cdv ct:Value}(l:K.lookup f=some ⟨oc,od,.func (PySem.W.fnOf x qual (dY st) (cq st) (ah st) .none kV doc pm an cdv ct),osl⟩)
    (c:PySem.W.codeIn K cdv qual=true) (k:PySem.W.keepIn K (.ref f)=true):bL K x qual st f (PySem.W.fnOf x qual (dY st) (cq st) (ah st) .none kV doc pm an cdv ct):=⟨⟨oc,od,kV,doc,pm,an,cdv,ct,osl,rfl,l,c⟩,k⟩
end
theorem yK {A:Around}{k:Nat}(hr:bN k A):A.units + 1 < cLine:=Nat.lt_of_le_of_lt (Nat.add_le_add_left (by decide:1≤64) _) hr.units
section
variable {X:Cx}
end
theorem iE {A B:Prop}(h:B):if false=true then A else B:=by
  rw [if_neg Bool.false_ne_true]
  exact h
theorem ie {A B:Prop}(h:A):if true=true then A else B:=by
  rw [if_pos rfl]
  exact h
noncomputable def ak (H H':Hp):Prop:=∀b o,H b=some o→H' b=some o
theorem ak.refl (H:Hp):ak H H:=fun _ _ h=>h
theorem ak.trans {H H1 H2:Hp}(a:ak H H1)(b:ak H1 H2):ak H H2:=fun c o h=>b c o (a c o h)
theorem ak.free {H H':Hp}(e:ak H H'){l:Addr}(h:H' l=Option.none):H l=Option.none:=by
  cases q:H l with
  | none=>rfl
  | some o=>
    rw [e l o q] at h
    cases h
theorem ak.seq {K:PySem.W.Frag}{H H':Hp}{a:Addr}{xs:List V}(e:ak H H')(h:aX K H a xs):aX K H' a xs:=by
  rcases h with (h | ⟨o,h⟩) | h
  · exact .inl (.inl (e _ _ h))
  · exact .inl (.inr ⟨o,e _ _ h⟩)
  · exact .inr h
section
variable {X:Cx}
theorem qL:c6 X (.builtin "len") (fun xs H Q=>∃a kvs,xs=[V.ref a]∧H a=some (.dK kvs)∧Q (.int kvs.length) H):=by
  intro pins s σ H xs us Q I r h
  obtain ⟨a,kvs,rfl,ha,q⟩:=h
  obtain ⟨u,rfl,ru⟩:=vals1 r
  cases ru
  exact zB I (.inl ha) fun t s' I'=>⟨.int kvs.length,H,I',⟨t,rfl⟩,q⟩
end
section
variable {κ:Type} [DecidableEq κ]
theorem fB:∀{l:List κ} {k:κ},l.Nodup→¬k∈l→(l++[k]).Nodup
  | [],k,_,_=>by simp
  | a::r,k,h,hk=>by
    obtain ⟨h1,h2⟩:=List.nodup_cons.mp h
    show (a::(r++[k])).Nodup
    refine List.nodup_cons.mpr ⟨fun m=>?_,fB h2 fun m=>hk (List.mem_cons.mpr (Or.inr m))⟩
    rcases List.mem_append.mp m with q | q
    · exact h1 q
    · exact hk (List.mem_cons.mpr (Or.inl (List.mem_singleton.mp q).symm))
end
end L2
set_option maxHeartbeats 4000000
namespace L2
open PySem PySem.Spec PyProof.Rows
section
variable {X:Cx}
noncomputable def ax (X:Cx)(scope:Scope)(cl:List (Str×Addr))(C:Addr)(N':List Str)(s:Shared)(H:Hp)(ex:List Addr):Cx:=
  {X with N:=N',s₀:=s,H₀:=H,env:=compEnvC scope cl C X.env,outer:=X.stack,stack:=X.stack,ex:=ex,fn:=fun _=>false,pn:=[],xe:=fun _ _=>False}
noncomputable def PF (X:Cx)(ifs:List Expr)(t:TT):Prop:=
  ∀ (pins:List (Addr×Obj)) (s:Shared) (σ:St) (H:Hp) (Q:Bool→Hp→Prop),Inv X pins σ H s→t σ H Q→
    wpAny (model X.prog X.w) X.A (forIn ifs true fun c r=>if r=true then do let ok ← isTrue c X.env (eval c X.env);pure (ForInStep.yield ok) else pure (ForInStep.yield r)) (TP X pins σ Q) X.xe s
noncomputable def Bf:TT:=fun _ H Q=>Q true H
theorem wj:PF X [] Bf:=by
  intro pins s σ H Q I h
  exact wpAny_pure ⟨H,I,h⟩
theorem yv {c:Expr}{t:TT}(hc:PT X c t):PF X [c] t:=by
  intro pins s σ H Q I h
  show wpAny _ _ (forIn [c] true fun c r=>_) _ _ s
  rw [List.forIn_cons]
  simp only [if_true,List.forIn_nil]
  refine wpAny_bind (wpAny_bind (wpAny_mono (hc pins s σ H Q I h) (fun b s1 h1=>?_) fun _ _ e=>e))
  exact wpAny_pure (wpAny_pure h1)
theorem mC {prog:Program}{w:World}{A:Around}{R:Result→Shared→Prop}{s:Shared}{elt target iter:Expr}{ifs:List Expr}{scope:Scope}{pos:Pos}{it acc:Value}{env:Env}(I:Nat→Shared→Prop)
    (turn : ∀ n s,I n s→wpAny (model prog w) A (pyNext it) (fun r s₁=>match r with
      | none=>R (.ok .next) s₁
      | some v=>wpAny (model prog w) A (letOwnedTupleGo target it v) (fun _ s₁'=>wpAny (model prog w) A (assign target env v) (fun _ s₂=>
          wpAny (model prog w) A (forIn ifs true fun c r=>if r=true then do let ok ← isTrue c env (eval c env);pure (ForInStep.yield ok) else pure (ForInStep.yield r)) (fun ok s₃=>
            if ok=true then wpAny (model prog w) A (eval elt env) (fun x s₄=>
              wpAny (model prog w) A (call (.builtin "list.append") [acc,x]) (fun _ s₅=>∃m,m < n∧I m s₅) (fun _ _=>False) s₄) (fun _ _=>False) s₃
            else∃m,m < n∧I m s₃) (fun _ _=>False) s₂) (fun _ _=>False) s₁') (fun _ _=>False) s₁) (fun _ _=>False) s)
    (n:Nat) (h:I n s):
    codeAny (model prog w) A (.compLoop (.ListComp elt [⟨target,iter,ifs,0⟩] scope pos) 0 it acc env) R s:=by
  have no:∀{α:Type} {t:Sem α} {Q:α→Shared→Prop} {E:Value→Shared→Prop} {s:Shared},wpAny (model prog w) A t Q (fun _ _=>False) s→wpAny (model prog w) A t Q E s:=fun h=>wpAny_mono h (fun _ _ q=>q) fun _ _ f=>f.elim
  refine codeAny_loop rfl I (fun n s hI=>?_) n h
  show wpAny _ A ((compTurn (.ListComp elt [⟨target,iter,ifs,0⟩] scope pos) 0 it acc env).onRaise (fun x=>do noteFrame x env;theTreesLotGoes x)) _ _ s
  refine wpAny_noted ?_
  rw [compTurn_list]
  refine wpAny_bind (wpAny_standAt (wpAny_bind (wpAny_mono (no (turn n s hI)) (fun r s₁ h₁=>?_) fun _ _ h'=>h')))
  cases r with
  | none=>exact wpAny_pure h₁
  | some v=>
    refine wpAny_bind (wpAny_mono (no h₁) (fun _ s₁' h₁'=>?_) fun _ _ h'=>h')
    refine wpAny_bind (wpAny_mono (no h₁') (fun _ s₂ h₂=>wpAny_bind (wpAny_mono (no h₂) (fun ok s₃ h₃=>?_) fun _ _ h'=>h')) fun _ _ h'=>h')
    cases ok with
    | false=>exact wpAny_pure ⟨rfl,h₃⟩
    | true=>
      exact wpAny_bind (wpAny_bind (wpAny_mono (no h₃) (fun x s₄ h₄=>wpAny_bind (wpAny_mono (no h₄) (fun _ s₅ h₅=>wpAny_pure (wpAny_pure ⟨rfl,h₅⟩)) fun _ _ h'=>h')) fun _ _ h'=>h'))
noncomputable def oZ (wi:TI)(g:TG)(tc:TT)(te:TE)(z:St→St):TE:=fun σ H Q=>wi σ H fun J H1=>
  ∃ W :Nat→Nat→List V→St→Hp→Prop,(∃m,W 0 m [] (z σ) H1)∧∀i m ys σ' H',W i m ys σ' H'→
    ys.length≤sizeLine∧((J.stop i H'∧∀p,H' p=none→Q (.ref p) (upd H' p (.lst ys)))∨
    (J.go i H'∧∀x H2,J.yld i H' x H2→g x σ' H2 fun σ2 H3=>tc σ2 H3 fun b H4=>
      if b=true then te σ2 H4 fun v H5=>∃m',m' < m∧W (i + 1) m' (ys++[v]) σ2 H5 else∃m',m' < m∧W (i + 1) m' ys σ2 H4))
structure cF (X:Cx) (scope:Scope) (cl:List (Str×Addr)) (own fr:List Str) (ix:List Nat):Prop where
  clos:closureFor scope X.env=pure cl
  cells:∀x c,cl.lookup x=some c→X.env.cells.lookup x=some c
  kind:scope.kind= .function
  ncell:∀y∈scope.names,y.2≠ .cell
  names:∀y∈scope.names,y.2= .local→scope.names.lookup y.1=some .local
  has:∀x,scope.names.lookup x=some .free→∃c,cl.lookup x=some c
  frees:∀x∈fr,scope.names.lookup x=some .free
  len:fr.length=ix.length
  at_:∀(k:Nat) (i:Nat) (x:Str),ix[k]?=some i→fr[k]?=some x→X.N[i]?=some x∧X.env.kindOf x=some .cell
theorem eD {env:Env}:∀{names:List (Str×NameKind)} {x:Str} {k:NameKind},
    (names.map fun (n,k)=>if (k==NameKind.free&&env.scope.kind== .function&&env.kindOf n==some .cell) then (n,NameKind.cell) else (n,k)).lookup x=some k→
    ∃k',names.lookup x=some k'∧(k=k'∨(k'= .free∧k= .cell))
  | [],_,_,h=>by simp at h
  | (n, k)::r,x,kk,h=>by
    have ih:=@eD env r x kk
    replace h:List.lookup x ((if (k==NameKind.free&&env.scope.kind== .function&&env.kindOf n==some .cell)=true then (n,NameKind.cell) else (n,k))::_)=some kk:=h
    by_cases hc:(k==NameKind.free&&env.scope.kind== .function&&env.kindOf n==some .cell)=true
    · rw [if_pos hc] at h
      cases hx:x==n with
      | true=>
        simp only [List.lookup_cons,hx,Option.some.injEq] at h ⊢
        have hk:k= .free:=by
          simp only [Bool.and_eq_true] at hc
          exact eq_of_beq hc.1.1
        exact ⟨k,rfl,.inr ⟨hk,h.symm⟩⟩
      | false=>
        simp only [List.lookup_cons,hx] at h ⊢
        exact ih h
    · rw [if_neg hc] at h
      cases hx:x==n with
      | true=>
        simp only [List.lookup_cons,hx,Option.some.injEq] at h ⊢
        exact ⟨k,rfl,.inl h.symm⟩
      | false=>
        simp only [List.lookup_cons,hx] at h ⊢
        exact ih h
theorem h9 {env:Env}(hf:env.scope.kind= .function):∀{names:List (Str×NameKind)} {x:Str},names.lookup x=some .free→env.kindOf x=some .cell→
    (names.map fun (n,k)=>if (k==NameKind.free&&env.scope.kind== .function&&env.kindOf n==some .cell) then (n,NameKind.cell) else (n,k)).lookup x=some .cell
  | [],_,h,_=>by simp at h
  | (n,k)::r,x,h,hk=>by
    have ih:=@h9 env hf r x
    show List.lookup x ((if (k==NameKind.free&&env.scope.kind== .function&&env.kindOf n==some .cell)=true then (n,NameKind.cell) else (n,k))::_)=_
    cases hx:x==n with
    | true=>
      simp only [List.lookup_cons,hx,Option.some.injEq] at h
      have e:x=n:=eq_of_beq hx
      subst e
      subst h
      rw [if_pos (by rw [hf,hk];rfl)]
      simp [List.lookup_cons]
    | false=>
      simp only [List.lookup_cons,hx] at h
      split
      · simp only [List.lookup_cons,hx];exact ih h hk
      · simp only [List.lookup_cons,hx];exact ih h hk
noncomputable def cW (own:List Str)(ix:List Nat)(σ:St):St:=List.replicate own.length none++ix.map fun i=>(σ[i]?).join
structure Off (X:Cx) (pins:List (Addr×Obj)) (H:Hp) (s:Shared) (C:Addr):Prop where
  ns:∃m,s.heap.Ns C m
  free:H C=none
  ne:C≠X.env.locals
  young:X.s₀.heap.objs.size≤C
  cell:∀x c,X.env.cells.lookup x=some c→c≠C
  pin:∀p∈X.pn++pins,p.1≠C
theorem la {elt target iter:Expr}{ifs:List Expr}{scope:Scope}{pos:Pos}{cl:List (Str×Addr)}{own fr:List Str}{ix:List Nat}{wi:TI}{g:TG}{tc:TT}{te:TE}
    {use:Option (Value→Sem Unit)} {Qf:Value→Shared→Prop} {pins:List (Addr×Obj)} {s:Shared} {σ:St} {H:Hp} {Q:VK}
    (hc:X.calm=true) (S:cF X scope cl own fr ix) (hi:PI X target iter wi)
    (hb:∀(C:Addr) (s:Shared) (H:Hp) (ex:List Addr),PG (ax X scope cl C (own++fr) s H ex) target g∧PF (ax X scope cl C (own++fr) s H ex) ifs tc∧PE (ax X scope cl C (own++fr) s H ex) elt te)
    (hs:∀x,foldedSetIterable iter X.env x=pure x) (I:Inv X pins σ H s) (h:oZ wi g tc te (cW own ix) σ H Q)
    (hfin:∀(D C:Addr) (H6:Hp) (s6:Shared),Inv X pins σ H6 s6→Off X pins H6 s6 C→Q (.ref D) H6→compPost (model X.prog X.w) X.A X.xe use Qf (.ref D) C (.ok .next) s6):
    wpAny (model X.prog X.w) X.A (comprehension (.ListComp elt [⟨target,iter,ifs,0⟩] scope pos) scope X.env (firstIterPos [⟨target,iter,ifs,0⟩] pos) (newList []) false (eval iter X.env) use) Qf X.xe s:=by
  refine wpAny_comprehension_free (use:=use) rfl hs S.clos S.kind S.names ?_
  refine aM (hi pins s σ H _ I h) fun v s1 h1=>aM h1 fun itv s2 h2=>?_
  obtain ⟨it,fp,tn,J,H2,rfl,I2,T,st2,f2,W,⟨m0,w0⟩,turn⟩:=h2
  refine wpAny_newObj_type (wpAny_newFunctionEnv S.ncell (by intro y hy;simp at hy) (fun h₁ hns₁ hsb₁=>?_) S.kind)
  dsimp only at hns₁ hsb₁ ⊢
  generalize hH3:s2.heap.push {cls:=.type "list",dict:=none,data:=.seq ([]:List Value).toArray}=h3 at hns₁ hsb₁ ⊢
  have hC:h3.objs.size=s2.heap.objs.size + 1:=by rw [← hH3,Heap.size_push]
  have to3:∀b o,s2.heap.get? b=some o→h3.get? b=some o:=fun b o e=>by rw [← hH3];exact Heap.get?_push_of_some _ e
  have getD3:h3.get? s2.heap.objs.size=some {cls:=.type "list",data:=.seq ([]:List Value).toArray}:=by rw [← hH3];exact Heap.get?_push_size _ rfl
  have to1:∀b o,h3.get? b=some o→h₁.get? b=some o:=fun b o e=>hsb₁.extBut b o (Nat.ne_of_lt (Heap.lt_size e)) (Heap.get?_push_of_some _ e)
  have frD:∀{b:Addr},b∈fp→b≠s2.heap.objs.size:=fun {b} hb z=>by
    obtain ⟨o,e,_⟩:=T.obj 0 _ st2 b hb
    exact absurd (Heap.lt_size e) (by rw [z];exact Nat.lt_irrefl _)
  have frC:∀{b:Addr},b∈fp→b≠h3.objs.size:=fun {b} hb z=>by
    obtain ⟨o,e,_⟩:=T.obj 0 _ st2 b hb
    exact absurd (Heap.lt_size e) (by rw [z,hC];exact Nat.not_lt.mpr (Nat.le_succ _))
  have HD2:H2 s2.heap.objs.size=none:=I2.hok.fresh (Nat.le_refl _)
  -- the block's context
  let X':Cx:=ax X scope cl h3.objs.size (own++fr) {s2 with heap:=h3} H2 (s2.heap.objs.size::fp)
  have ok':X'.Ok:=by
    refine ⟨I2.ok.mod,S.kind,I2.ok.glob,I2.ok.blt,Nat.le_refl _,fun x y c e1 e2=>I2.ok.inj x y c (S.cells x c e1) (S.cells y c e2),fun x hx=>?_,fun x c z=>?_,I2.ok.hd,I2.ok.frames,.inl rfl,fun b hb=>?_,fun b o e=>?_,?_,fun b o e hb=>?_,fun b hb z=>?_,?_,I2.n5⟩
    · have key:scope.names.lookup x=some .free:=by
        have hx:(relabel scope X.env).names.lookup x=some .cell∨(relabel scope X.env).names.lookup x=some .free:=hx
        rcases hx with hx | hx
        · obtain ⟨k',e,z⟩:=eD hx
          rcases z with z | z
          · subst z;exact absurd rfl (S.ncell _ (PySem.mem_of_lookup e))
          · rw [e,z.1]
        · obtain ⟨k',e,z⟩:=eD hx
          rcases z with z | z
          · subst z;exact e
          · cases z.2
      exact S.has x key
    · cases z
    · rcases List.mem_cons.mp hb with rfl | hb
      · refine ⟨by rw [show X'.env.locals=h3.objs.size from rfl,hC];exact Nat.ne_of_lt (Nat.lt_succ_self _),fun x c e z=>?_⟩
        obtain ⟨v',q⟩:=I2.cell x c (S.cells x c e)
        exact absurd q.lt (by rw [z];exact Nat.lt_irrefl _)
      · exact ⟨frC hb,fun x c e=>(f2 b hb).2.2.2.2.1 x c (S.cells x c e)⟩
    · obtain ⟨e1,e2⟩:=I2.bs b o e
      exact ⟨to3 b o e1,e2⟩
    · show X.base.objs.size≤h3.objs.size
      have:=I2.ok.bsz;have:=I2.sz
      omega
    · rcases List.mem_cons.mp hb with rfl | hb
      · exact absurd (Heap.lt_size (I2.bs _ o e).1) (Nat.lt_irrefl _)
      · rcases (f2 b hb).2.2.2.1 with z | z
        · exact I2.ok.noex b o e z
        · exact absurd (Nat.lt_of_lt_of_le (Nat.lt_of_lt_of_le (Heap.lt_size e) I2.ok.bsz) z) (Nat.lt_irrefl _)
    · replace z:b∈gC X.stack:=z
      rcases List.mem_cons.mp hb with rfl | hb
      · obtain ⟨_,o,ho,_⟩:=I2.stack.mem z
        exact absurd (Heap.lt_size ho) (Nat.lt_irrefl _)
      · rcases List.mem_cons.mp (I2.mQ b z) with q | q
        · exact (f2 b hb).2.1 q
        · exact (f2 b hb).2.2.1 q
    · exact I2.stack.of_keeps fun b o e _=>⟨o,to3 b o e,rfl⟩
  have I4 : Inv X' [] (cW own ix σ) H2 {s2 with heap:=h₁,toks:=s2.toks + ([]:List (Str×Value)).length}:=by
    refine ⟨ok',rfl,I2.bare,Un.kept to1,⟨_,hns₁,fun i x v e1 e2 e3=>?_⟩,fun x c e=>?_,I2.hok.fresh (by show s2.heap.objs.size≤h3.objs.size;rw [hC];exact Nat.le_succ _),fun x c e=>I2.freeC x c (S.cells x c e),fun p hp=>absurd (show p∈([]:List (Addr×Obj)) from hp) (by simp),I2.hok.kept fun b o e=>to1 b o (to3 b o e),?_⟩
    · replace e1:(own++fr)[i]?=some x:=e1
      unfold cW at e2
      by_cases hlt:i < own.length
      · rw [List.getElem?_append_left (by simpa using hlt),List.getElem?_replicate] at e2
        split at e2<;>cases e2
      · rw [List.getElem?_append_right (by simpa using hlt)] at e1 e2
        rw [List.length_replicate,List.getElem?_map] at e2
        cases ek:ix[i - own.length]? with
        | none=>rw [ek] at e2;cases e2
        | some j=>
          rw [ek] at e2
          obtain ⟨n1,n2⟩:=S.at_ _ j x ek e1
          have e2':σ[j]?=some (some v):=by
            have q:(σ[j]?).join=some v:=Option.some.inj e2
            cases es:σ[j]? with
            | none=>rw [es] at q;cases q
            | some o=>rw [es] at q;exact congrArg some q
          obtain ⟨m,hn,hl⟩:=I2.loc
          obtain ⟨u,r,l⟩:=hl j x v n1 e2' (.inr (.inl n2))
          refine ⟨u,r,?_⟩
          have hfr:scope.names.lookup x=some .free:=S.frees x (List.mem_of_getElem? e1)
          rcases l with ⟨k,_⟩ | ⟨_,c,hcl,z⟩
          · rw [n2] at k;cases k
          · obtain ⟨c',hc'⟩:=S.has x hfr
            have q:=S.cells x c' hc'
            rw [hcl] at q
            cases q
            obtain ⟨oc,ho,hd⟩:=z
            exact .inr ⟨.inl (h9 I2.ok.kind hfr n2),c,hc',oc,to1 _ _ (to3 _ _ ho),hd⟩
    · obtain ⟨v',oc,ho,hd⟩:=I2.cell x c (S.cells x c e)
      exact ⟨v',oc,to1 _ _ (to3 _ _ ho),hd⟩
    · show (cW own ix σ).length=(own++fr).length
      unfold cW
      rw [List.length_append,List.length_append,List.length_replicate,List.length_map,S.len]
  obtain ⟨hg,hf,he⟩:=hb h3.objs.size {s2 with heap:=h3} H2 (s2.heap.objs.size::fp)
  have hg:PG X' target g:=hg
  have hf:PF X' ifs tc:=hf
  have he:PE X' elt te:=he
  have locX:X'.env.locals=h3.objs.size:=rfl
  -- D's place
  have Dne:s2.heap.objs.size≠X'.env.locals:=by rw [locX,hC];exact Nat.ne_of_lt (Nat.lt_succ_self _)
  have Dfs:s2.heap.objs.size∉X'.fs:=ok'.exfs _ (List.mem_cons_self ..)
  have Dcl:∀x c,X'.env.cells.lookup x=some c→c≠s2.heap.objs.size:=fun x c e=>(ok'.exf _ (List.mem_cons_self ..)).2 x c e
  have fpX:∀{pl:List (Addr×Obj)} {H':Hp},(∀p∈pl,p.1=s2.heap.objs.size)→(∀b∈fp,H' b=none)→∀b∈fp,gT X' pl H' b:=fun hp hn b hb=>
    ⟨hn b hb,frC hb,ok'.exfs b (List.mem_cons_of_mem _ hb),.inl (List.mem_cons_of_mem _ hb),(ok'.exf b (List.mem_cons_of_mem _ hb)).2,fun p q=>by
      rw [hp p (by simpa [show X'.pn=[] from rfl] using q)];exact Ne.symm (frD hb)⟩
  have pinD:∀{σ':St} {H':Hp} {s':Shared} {o:Obj},Inv X' [] σ' H' s'→s'.heap.get? s2.heap.objs.size=some o→H' s2.heap.objs.size=none→(∀v,o.data≠ .cell v)→Inv X' [(s2.heap.objs.size,o)] σ' H' s':=fun I e n d=>
    I.fA fun p hp=>by
      obtain rfl:=List.mem_singleton.mp hp
      exact ⟨e,n,Dne,Dfs,d⟩
  have loop:codeAny (model X.prog X.w) X.A (.compLoop (.ListComp elt [⟨target,iter,ifs,0⟩] scope pos) 0 (.ref it) (.ref s2.heap.objs.size) X'.env)
      (compPost (model X.prog X.w) X.A X.xe use Qf (.ref s2.heap.objs.size) h3.objs.size) {s2 with heap:=h₁,toks:=s2.toks + ([]:List (Str×Value)).length}:=by
    refine mC (fun n s'=>∃i ys its k σ' H',Inv X' [] σ' H' s'∧tn i s'.heap∧(∀b∈fp,H' b=none)∧H' s2.heap.objs.size=none∧Vals ys its∧s'.heap.get? s2.heap.objs.size=some {cls:=.type "list",data:=.seq its.toArray k}∧W i n ys σ' H')
      ?_ m0 ⟨0,[],[],0,_,H2,I4,T.keep 0 _ _ st2 fun b _ o e=>to1 b o (to3 b o e),fun b hb'=>(f2 b hb').1,HD2,.nil,to1 _ _ getD3,w0⟩
    rintro n s5 ⟨i,ys,its,k,σ5,H5,I5,st5,fr5,hD5,vs5,get5,w5⟩
    obtain ⟨hlen,alt⟩:=turn i n ys σ5 H5 w5
    have P5:=pinD I5 get5 hD5 (fun v z=>by cases z)
    have okp:∀p∈[(s2.heap.objs.size,({cls:=.type "list",data:=.seq its.toArray k}:Obj))],p.1=s2.heap.objs.size:=fun p hp=>by
      rw [List.mem_singleton.mp hp]
    rcases alt with ⟨stop,q⟩ | ⟨go,step⟩
    · refine aM (T.done X' rfl rfl rfl hc i _ s5 σ5 H5 _ P5 (fpX okp fr5) st5 stop) fun r s6 ⟨hr,I6⟩=>?_
      subst hr
      obtain ⟨m6,hn6,_⟩:=I6.loc
      obtain ⟨get6,_,_,_,_⟩:=I6.pin (s2.heap.objs.size,({cls:=.type "list",data:=.seq its.toArray k}:Obj)) (List.mem_append_right _ (List.mem_singleton.mpr rfl))
      have toh:∀b o,b≠h3.objs.size→s6.heap.get? b=some o→s6.heap.get? b=some o:=fun b o hb e=>e
      have exn:∀{b:Addr} {o:Obj},s2.heap.get? b=some o→b∉fp→b∉X'.ex:=fun {b o} e hb z=>by
        rcases List.mem_cons.mp z with z | z
        · exact absurd (Heap.lt_size e) (by rw [z];exact Nat.lt_irrefl _)
        · exact hb z
      have neC:∀{b:Addr} {o:Obj},s2.heap.get? b=some o→b≠h3.objs.size:=fun {b o} e z=>by
        have q1:=Heap.lt_size e
        rw [z,hC] at q1
        exact absurd q1 (Nat.not_lt.mpr (Nat.le_succ _))
      have neD:∀{b:Addr} {o:Obj},s2.heap.get? b=some o→b≠s2.heap.objs.size:=fun {b o} e=>Nat.ne_of_lt (Heap.lt_size e)
      have neD':∀{b:Addr} {o:HO},H2 b=some o→b≠s2.heap.objs.size:=fun {b o} e=>cf e HD2
      have U:Un (gC X.stack) fp H2 (upd H5 s2.heap.objs.size (.lst ys)) s2.heap s6.heap:=by
        refine ⟨fun b o e n hb hx=>?_,fun b o e n hb hx=>?_,fun b o e n hx=>?_,fun b o e hx=>?_,fun b xs e=>?_,fun b o u e=>?_,fun b ps e=>?_⟩
        · exact toh b o (neC e) (I6.base.keep b o (to3 b o e) n hb (exn e hx))
        · obtain ⟨sl,q1⟩:=I6.base.slot b o (to3 b o e) n hb (exn e hx)
          exact ⟨sl,toh b _ (neC e) q1⟩
        · rw [aD (neD e)]
          exact I6.base.free b o (to3 b o e) n (exn e hx)
        · obtain ⟨o',q1⟩:=I6.base.there b o (to3 b o e) (exn e hx)
          exact ⟨o',toh b _ (neC e) q1⟩
        · rw [aD (neD' e)];exact I6.base.tups b xs e
        · rw [aD (neD' e)];exact I6.base.frzs b o u e
        · rw [aD (neD' e)];exact I6.base.tbls b ps e
      have HC:H5 h3.objs.size=none:=I6.free
      have hok:cU X.prog X.w (upd H5 s2.heap.objs.size (.lst ys)) s6.heap:=fun b u e=>by
        by_cases hbD:b=s2.heap.objs.size
        · subst hbD
          rw [ay] at e
          cases e
          exact ⟨hlen,its,k,vs5,toh _ _ (by rw [hC];exact Nat.ne_of_lt (Nat.lt_succ_self _)) get6⟩
        · rw [aD hbD] at e
          refine (I6.hok b u e).ic (fun c o hco q1=>toh c o (fun z=>?_) q1) (fun c q1=>by rw [aD (cf q1 hD5)];exact q1) fun c xs q1=>by rw [aD (cf q1 hD5)];exact q1
          rcases hco with hco | hco
          · rw [← hco,z,HC] at e;cases e
          · rw [z,HC] at hco;cases hco
      have fin:=I2.zX (s':=s6) (ch:=fp) I6.os U hok I6.bare fun b hb'=>⟨(f2 b hb').2.2.2.1,(f2 b hb').2.1,(f2 b hb').2.2.2.2.1,(f2 b hb').2.2.2.2.2⟩
      refine hfin _ h3.objs.size _ s6 fin ⟨⟨m6,hn6⟩,?_,?_,?_,fun x c e z=>?_,fun p hp z=>?_⟩ (q _ hD5)
      · rw [aD (by rw [hC];exact Nat.ne_of_gt (Nat.lt_succ_self _))];exact HC
      · intro z
        have:=I2.lt
        rw [← z,hC] at this
        exact absurd this (Nat.not_lt.mpr (Nat.le_succ _))
      · rw [hC];exact Nat.le_trans I2.sz (Nat.le_succ _)
      · obtain ⟨v',q1⟩:=I2.cell x c e
        have:=q1.lt
        rw [z,hC] at this
        exact absurd this (Nat.not_lt.mpr (Nat.le_succ _))
      · have:=Heap.lt_size (I2.pin p hp).1
        rw [z,hC] at this
        exact absurd this (Nat.not_lt.mpr (Nat.le_succ _))
    · refine aM (T.item X' rfl rfl rfl hc i _ s5 σ5 H5 _ P5 (fpX okp fr5) st5 go) fun r s6 ⟨u,hr,h6⟩=>?_
      subst hr
      refine aM h6 fun _ s7 ⟨x,H7,I7,r7,y7,st7,fr7⟩=>?_
      have I7':=I7.pinned (fpX okp fr7) (T.obj _ _ st7)
      refine aM (hg _ s7 σ5 H7 x u _ I7' r7 (step x H7 y7)) fun _ s8 ⟨σ8,H8,I8,q8⟩=>?_
      refine aM (hf _ s8 σ8 H8 _ I8 q8) fun b s9 ⟨H9,I9,q9⟩=>?_
      have out:∀{σ':St} {H':Hp} {s':Shared},Inv X' ([(s2.heap.objs.size,({cls:=.type "list",data:=.seq its.toArray k}:Obj))]++gu fp s7.heap) σ' H' s'→
          tn (i + 1) s'.heap∧(∀b∈fp,H' b=none)∧H' s2.heap.objs.size=none∧s'.heap.get? s2.heap.objs.size=some {cls:=.type "list",data:=.seq its.toArray k}:=fun I'=>by
        refine ⟨T.keep _ _ _ st7 fun b hb' o e=>(I'.pin (b,o) (List.mem_append_right _ (List.mem_append_right _ (ft hb' e)))).1,fun b hb'=>?_,(I'.pin (s2.heap.objs.size,({cls:=.type "list",data:=.seq its.toArray k}:Obj)) (List.mem_append_right _ (List.mem_append_left _ (List.mem_singleton.mpr rfl)))).2.1,(I'.pin (s2.heap.objs.size,({cls:=.type "list",data:=.seq its.toArray k}:Obj)) (List.mem_append_right _ (List.mem_append_left _ (List.mem_singleton.mpr rfl)))).1⟩
        obtain ⟨o,e,d⟩:=T.obj _ _ st7 b hb'
        exact (I'.pin (b,o) (List.mem_append_right _ (List.mem_append_right _ (ft hb' e)))).2.1
      cases b with
      | false=>
        rw [if_neg Bool.false_ne_true] at q9 ⊢
        obtain ⟨m',hm,w'⟩:=q9
        obtain ⟨o1,o2,o3,o4⟩:=out I9
        exact ⟨m',hm,i + 1,ys,its,k,σ8,H9,I9.fA (fun _ z=>nomatch z),o1,o2,o3,vs5,o4,w'⟩
      | true=>
        rw [if_pos rfl] at q9 ⊢
        refine aM (he _ s9 σ8 H9 _ I9 q9) fun uv s10 ⟨v10,H10,I10,r10,q10⟩=>?_
        obtain ⟨m',hm,w'⟩:=q10
        obtain ⟨o1,o2,o3,o4⟩:=out I10
        refine wpAny_list_append_plain ⟨k,o4⟩ (fun h' hpl hsb=>?_) (by
          have:=vs5.length
          rw [List.size_toArray,← this];exact hlen)
        obtain ⟨k',hk'⟩:=hpl
        have I11:Inv X' (gu fp s7.heap) σ8 H10 s10:=I10.fA fun p hp=>I10.pin p (List.mem_append_right _ (List.mem_append_right _ hp))
        have I12:Inv X' [] σ8 H10 {s10 with heap:=h'}:=(I10.fA (fun _ z=>nomatch z):Inv X' [] σ8 H10 s10).turned (t':=s10.toks) (fun b o hb' e=>hsb.extBut b o hb' e) o3 Dne (.inl (List.mem_cons_self ..)) Dcl (fun p hp=>absurd (show p∈([]:List (Addr×Obj)) from hp) (by simp))
        refine ⟨m',hm,i + 1,ys++[v10],its++[uv],k',σ8,H10,I12,T.keep _ _ _ o1 fun b hb' o e=>hsb.extBut b o (frD hb') e,o2,o3,vs5.append (.cons r10 .nil),?_,w'⟩
        show h'.get? _=_
        rw [hk']
        simp
  exact codeAny_compStart_list loop (T.self X.A 0 _ _ _ (T.keep 0 _ _ st2 fun b _ o e=>to1 b o (to3 b o e)) loop)
theorem Off.gone {pins:List (Addr×Obj)}{σ:St}{H:Hp}{s:Shared}{C:Addr}{h':Heap}(o:Off X pins H s C)(I:Inv X pins σ H s)(hsb:Heap.SameBut C s.heap h'):Inv X pins σ H {s with heap:=h'}:=
  I.turned (t':=s.toks) (fun b u hb e=>hsb.extBut b u hb e) o.free o.ne (.inr o.young) o.cell o.pin
theorem kP {elt target iter:Expr}{ifs:List Expr}{scope:Scope}{pos:Pos}{cl:List (Str×Addr)}{own fr:List Str}{ix:List Nat}{wi:TI}{g:TG}{tc:TT}{te:TE}
    (hc:X.calm=true) (S:cF X scope cl own fr ix) (hi:PI X target iter wi)
    (hb:∀(C:Addr) (s:Shared) (H:Hp) (ex:List Addr),PG (ax X scope cl C (own++fr) s H ex) target g∧PF (ax X scope cl C (own++fr) s H ex) ifs tc∧PE (ax X scope cl C (own++fr) s H ex) elt te)
    (hs:autoParam (∀x,foldedSetIterable iter X.env x=pure x) Fc.cJ):
    PE X (.ListComp elt [⟨target,iter,ifs,0⟩] scope pos) (oZ wi g tc te (cW own ix)):=by
  intro pins s σ H Q I h
  rw [eval_ListComp]
  refine la (use:=none) hc S hi hb hs I h fun D C H6 s6 I6 o6 q=>?_
  obtain ⟨m,hn⟩:=o6.ns
  exact ⟨m,hn,fun h' hsb=>⟨.ref D,H6,o6.gone I6 hsb,rfl,q⟩⟩
theorem gU {i:Nat}{y:Str}{py spos:Pos}{elt target iter:Expr}{ifs:List Expr}{scope:Scope}{pos:Pos}{cl:List (Str×Addr)}{own fr:List Str}{ix:List Nat}{wi:TI}{g:TG}{tc:TT}{te:TE}
    (hsw:swapsWith (.ListComp elt [⟨target,iter,ifs,0⟩] scope pos) (some (.Name y py)) spos.line X.env=pure true)
    (hN:X.N.Nodup) (hi':X.N[i]?=some y) (hx:Loc X.env.scope y)
    (hc:X.calm=true) (S:cF X scope cl own fr ix) (hi:PI X target iter wi)
    (hb:∀(C:Addr) (s:Shared) (H:Hp) (ex:List Addr),PG (ax X scope cl C (own++fr) s H ex) target g∧PF (ax X scope cl C (own++fr) s H ex) ifs tc∧PE (ax X scope cl C (own++fr) s H ex) elt te)
    (hs:autoParam (∀x,foldedSetIterable iter X.env x=pure x) Fc.cJ)
    (hf:X.fn y=true∨X.env.scope.names.lookup y=some .local:=by first | exact .inl rfl | exact .inr rfl | assumption):
    PS X (.Assign [.Name y py] (.ListComp elt [⟨target,iter,ifs,0⟩] scope pos) spos) (sM (oZ wi g tc te (cW own ix)) (lQ i)):=by
  intro pins s σ H D I h
  rw [exec_Assign_Name_used _ _ _ _ hsw]
  refine wpAny_bind (wpAny_standAt (wpAny_bind ?_))
  show wpAny _ _ (do let _ ← comprehension (.ListComp elt [⟨target,iter,ifs,0⟩] scope pos) scope X.env _ (newList []) false (eval iter X.env) (some (assign (.Name y py) X.env))) _ _ s
  refine wpAny_bind (wpAny_mono (la (use:=some (assign (.Name y py) X.env)) (Qf:=fun _ s'=>SP X pins D .next s') hc S hi hb hs I h fun A C H6 s6 I6 o6 q=>?_) (fun _ s' hq=>wpAny_pure (wpAny_pure hq)) fun _ _ e=>e)
  show wpAny _ _ (assign (.Name y py) X.env (.ref A)) _ _ _
  refine wpAny_assign_Name (lz I6 hN hi' hx (v:=.ref A) rfl (fun s7 I7 hw=>?_) hf)
  obtain ⟨c,hsb7,hcc⟩:=hw
  have neC:C≠c:=by
    rcases hcc with rfl | hcc
    · exact o6.ne
    · exact Ne.symm (o6.cell y c hcc)
  obtain ⟨m,hn⟩:=o6.ns
  have o7:Off X pins H6 s7 C:=⟨⟨m,hn.sameBut hsb7 neC⟩,o6.free,o6.ne,o6.young,o6.cell,o6.pin⟩
  exact ⟨m,hn.sameBut hsb7 neC,fun h' hsb=>⟨_,H6,o7.gone I7 hsb,q⟩⟩
end
end L2
namespace Fc
open PySem PySem.Spec L2
open PyProof.Rows hiding St
section
variable {X:Cx}
noncomputable def c4 (X:Cx)(e:Expr):TE:=fun σ H Q=>∀(pins:List (Addr×Obj)) (s:Shared),Inv X pins σ H s→wpAny (model X.prog X.w) X.A (eval e X.env) (EP X pins σ Q) X.xe s
noncomputable def se (X:Cx)(e:Expr):TT:=fun σ H Q=>∀(pins:List (Addr×Obj)) (s:Shared),Inv X pins σ H s→wpAny (model X.prog X.w) X.A (isTrue e X.env (eval e X.env)) (TP X pins σ Q) X.xe s
noncomputable def tI (X:Cx)(e:Expr):TT:=fun σ H Q=>∀(whole:Sem Value) (pins:List (Addr×Obj)) (s:Shared),Inv X pins σ H s→wpAny (model X.prog X.w) X.A (isTrue e X.env whole) (TP X pins σ Q) X.xe s
noncomputable def eC (X:Cx)(e:Expr):TG:=fun v σ H Q=>∀(pins:List (Addr×Obj)) (s:Shared) (u:Value),Inv X pins σ H s→RelV v u→wpAny (model X.prog X.w) X.A (assign e X.env u) (fun _ s'=>∃σ' H',Inv X pins σ' H' s'∧Q σ' H') X.xe s
noncomputable def sW (X:Cx)(st:Stmt):TS:=fun D σ H=>∀(pins:List (Addr×Obj)) (s:Shared),Inv X pins σ H s→wpAny (model X.prog X.w) X.A (exec st X.env) (SP X pins D) X.xe s
noncomputable def lS (X:Cx)(st:List Stmt):TS:=fun D σ H=>∀(pins:List (Addr×Obj)) (s:Shared),Inv X pins σ H s→wpAny (model X.prog X.w) X.A (execs st X.env) (SP X pins D) X.xe s
noncomputable def pM (X:Cx)(es:List Expr):TA:=fun σ H Q=>∀(pos:Pos) (pins:List (Addr×Obj)) (s:Shared),Inv X pins σ H s→wpAny (model X.prog X.w) X.A (spliced (backTo pos (starEach es X.env))) (AP X pins σ Q) X.xe s
noncomputable def fc (X:Cx)(ifs:List Expr):TT:=fun σ H Q=>∀(pins:List (Addr×Obj)) (s:Shared),Inv X pins σ H s→
  wpAny (model X.prog X.w) X.A (forIn ifs true fun c r=>if r=true then do let ok ← isTrue c X.env (eval c X.env);pure (ForInStep.yield ok) else pure (ForInStep.yield r)) (TP X pins σ Q) X.xe s
theorem aH {e:Expr}:PE X e (c4 X e):=fun pins s _ _ _ I h=>h pins s I
theorem iW {e:Expr}:PT X e (se X e):=fun pins s _ _ _ I h=>h pins s I
theorem tZ {e:Expr}:PW X e (tI X e):=fun wh pins s _ _ _ I h=>h wh pins s I
theorem tR {e:Expr}:PG X e (eC X e):=fun pins s _ _ _ u _ I r h=>h pins s u I r
theorem Ai {e:Stmt}:PS X e (sW X e):=fun pins s _ _ _ I h=>h pins s I
theorem fH {e:List Stmt}:fJ X e (lS X e):=fun pins s _ _ _ I h=>h pins s I
theorem jz {e:List Expr}:PA X e (pM X e):=fun pos pins s _ _ _ I h=>h pos pins s I
theorem eS {e:Expr}{t:TE}(h:PE X e t){σ:St}{H:Hp}{Q:VK}(q:t σ H Q):c4 X e σ H Q:=fun pins s I=>h pins s σ H Q I q
theorem tS {e:Expr}{t:TT}(h:PT X e t){σ:St}{H:Hp}{Q:Bool→Hp→Prop}(q:t σ H Q):se X e σ H Q:=fun pins s I=>h pins s σ H Q I q
theorem wS {e:Expr}{t:TT}(h:PW X e t){σ:St}{H:Hp}{Q:Bool→Hp→Prop}(q:t σ H Q):tI X e σ H Q:=fun wh pins s I=>h wh pins s σ H Q I q
theorem gS {e:Expr}{t:TG}(h:PG X e t){v:V}{σ:St}{H:Hp}{Q:St→Hp→Prop}(q:t v σ H Q):eC X e v σ H Q:=fun pins s u I r=>h pins s σ H v u Q I r q
theorem sS {e:Stmt}{t:TS}(h:PS X e t){σ:St}{H:Hp}{D:Ends}(q:t D σ H):sW X e D σ H:=fun pins s I=>h pins s σ H D I q
theorem xZ {e:List Stmt}{t:TS}(h:fJ X e t){σ:St}{H:Hp}{D:Ends}(q:t D σ H):lS X e D σ H:=fun pins s I=>h pins s σ H D I q
theorem aS {e:List Expr}{t:TA}(h:PA X e t){σ:St}{H:Hp}{Q:List V→Hp→Prop}(q:t σ H Q):pM X e σ H Q:=fun pos pins s I=>h pos pins s σ H Q I q
theorem fS {e:List Expr}{t:TT}(h:PF X e t){σ:St}{H:Hp}{Q:Bool→Hp→Prop}(q:t σ H Q):fc X e σ H Q:=fun pins s I=>h pins s σ H Q I q
end
theorem ak.fresh {H:Hp}{p:Addr}(h:H p=none)(o:HO):ak H (upd H p o):=fun b u q=>by rw [aD (cf q h)];exact q
structure Rep (α:Type) where
  R:PySem.W.Frag→Hp→V→α→Prop
  mono:∀{K:PySem.W.Frag} {H H':Hp} {v:V} {x:α},ak H H'→R K H v x→R K H' v x
noncomputable def ab:Rep Int:=⟨fun _ _ v x=>v= .int x,fun _ h=>h⟩
noncomputable def aK:Rep Bool:=⟨fun _ _ v x=>v= .bl x,fun _ h=>h⟩
theorem Paired.map {α β:Type}{F G:α→β→Prop}(f:∀a b,F a b→G a b):∀{l:List α} {m:List β},PySem.Paired F l m→PySem.Paired G l m
  | _,_,.nil=>.nil
  | _,_,.cons h t=>.cons (f _ _ h) (Paired.map f t)
noncomputable def af {α:Type}(r:Rep α):Rep (List α):=⟨fun K H v xs=>∃a vs,v= .ref a∧H a=some (.lst vs)∧PySem.Paired (r.R K H) vs xs∧xs.length≤sizeLine,
  fun s ⟨a,vs,e,q,p,z⟩=>⟨a,vs,e,s _ _ q,Paired.map (fun _ _=>r.mono s) p,z⟩⟩
noncomputable def f6:Rep (List Int):=⟨fun K H v xs=>∃a,v= .ref a∧aX K H a (xs.map V.int)∧xs.length≤63,fun s ⟨a,e,q,z⟩=>⟨a,e,s.seq q,z⟩⟩
noncomputable def aF {α β:Type}(r:Rep α)(r':Rep β):Rep (α×β):=⟨fun K H v x=>∃a v1 v2,v= .ref a∧H a=some (.tup [v1,v2])∧r.R K H v1 x.1∧r'.R K H v2 x.2,
  fun s ⟨a,v1,v2,e,q,h1,h2⟩=>⟨a,v1,v2,e,s _ _ q,r.mono s h1,r'.mono s h2⟩⟩
noncomputable abbrev Row:=Int×Int×Int×Int
noncomputable def aI:Rep Row:=⟨fun K H v x=>∃a,v= .ref a∧H a=some (.tup [.int x.1,.int x.2.1,.int x.2.2.1,.int x.2.2.2]),fun s ⟨a,e,q⟩=>⟨a,e,s _ _ q⟩⟩
noncomputable abbrev av:=List Int×List Row
noncomputable def cg:Rep av:=aF (af ab) (af aI)
structure Ext (H R H' R':Hp):Prop where
  h:ak H H'
  r:ak R R'
  s:ak R' H'
  old:∀b,H b≠none→R' b=R b
theorem Ext.refl {H R:Hp}(s:ak R H):Ext H R H R:=⟨ak.refl _,ak.refl _,s,fun _ _=>rfl⟩
theorem ak.some {H H':Hp}(s:ak H H'){b:Addr}(h:H b≠none):H' b≠none:=by
  cases q:H b with
  | none=>exact absurd q h
  | some o=>rw [s b o q];exact Option.some_ne_none o
theorem Ext.trans {H R H1 R1 H2 R2:Hp}(a:Ext H R H1 R1)(b:Ext H1 R1 H2 R2):Ext H R H2 R2:=
  ⟨a.h.trans b.h,a.r.trans b.r,b.s,fun c hc=>(b.old c (ak.some a.h hc)).trans (a.old c hc)⟩
theorem Ext.fresh {H R:Hp}(s:ak R H){p:Addr}(h:H p=none)(o:HO):Ext H R (upd H p o) (upd R p o):=
  ⟨ak.fresh h o,ak.fresh (s.free h) o,fun b u q=>by
    by_cases e:b=p
    · subst e;rw [ay] at q ⊢;exact q
    · rw [aD e] at q ⊢;exact s b u q,fun b hb=>aD fun e=>hb (e▸h)⟩
theorem Ext.cO {H R:Hp}(s:ak R H){p:Addr}(h:H p=none)(o:HO):Ext H R (upd H p o) R:=
  ⟨ak.fresh h o,ak.refl _,s.trans (ak.fresh h o),fun _ _=>rfl⟩
structure g6:Type 1 where
  fp:List Addr
  R:PySem.W.Frag→Hp→Hp→V→Prop
  loc:∀{K:PySem.W.Frag} {H R0 H' R':Hp} {v:V},(∀a∈fp,H' a=H a)→ak R0 R'→R K H R0 v→R K H' R' v
  has:∀{K:PySem.W.Frag} {H R0:Hp} {v:V},R K H R0 v→∀a∈fp,H a≠none
inductive Ent:Type 1
  | no
  | im {α:Type} (r:Rep α) (x:α)
  | mu {α:Type} (r:Rep α) (xs:List α)
  | di (kvs:List (Int×V))
  | ob (B:g6)
noncomputable def cB (kvs:List (Int×V)):List (Key×V):=kvs.map fun p=>(Sum.inl p.1,p.2)
noncomputable def Ent.ok (K:PySem.W.Frag)(H R:Hp):Ent→Option V→Prop
  | .no,_=>True
  | .im r x,o=>∃v,o=some v∧r.R K R v x
  | .mu r xs,o=>∃a vs,o=some (.ref a)∧H a=some (.lst vs)∧R a=none∧PySem.Paired (r.R K R) vs xs
  | .di kvs,o=>∃a,o=some (.ref a)∧H a=some (.dK (cB kvs))∧R a=none
  | .ob B,o=>(∃v,o=some v∧B.R K H R v)∧∀a∈B.fp,R a=none
noncomputable def Ent.own:Ent→Bool
  | .mu .. =>true
  | .di .. =>true
  | _=>false
noncomputable def refOf:Option V→List Addr
  | some (.ref a)=>[a]
  | _=>[]
noncomputable def Ent.fp:Ent→Option V→List Addr
  | .mu ..,o=>refOf o
  | .di ..,o=>refOf o
  | .ob B,_=>B.fp
  | _,_=>[]
noncomputable abbrev Ga:=List Ent
structure aj (K:PySem.W.Frag) (σ:St) (H0 R0 H R:Hp) (Γ:Ga):Prop where
  ext:Ext H0 R0 H R
  ent:∀(i:Nat) (e:Ent),Γ[i]?=some e→e.ok K H R (σ[i]?).join
  nw:∀(i:Nat) (e:Ent) (a:Addr),Γ[i]?=some e→a∈e.fp (σ[i]?).join→H0 a=none
  ds:∀(i j:Nat) (e e':Ent) (a:Addr),Γ[i]?=some e→Γ[j]?=some e'→a∈e.fp (σ[i]?).join→a∈e'.fp (σ[j]?).join→i=j
  len:Γ.length=σ.length
section
variable {K:PySem.W.Frag}{σ:St}{H0 R0 H R H' R':Hp}{Γ:Ga}{α:Type}{r:Rep α}
theorem cQ {o:Option V}{a:Addr}:a∈refOf o↔o=some (.ref a):=by
  unfold refOf
  split
  · rw [List.mem_singleton];constructor
    · rintro rfl;rfl
    · intro e;cases e;rfl
  · rename_i h
    constructor
    · intro z;cases z
    · intro e;exact absurd e (h a)
theorem Ent.jZ {e:Ent}(w:e.own=true){o:Option V}{a:Addr}:a∈e.fp o↔o=some (.ref a):=by
  cases e with
  | no=>cases w
  | im r x=>cases w
  | mu r xs=>exact cQ
  | di kvs=>exact cQ
  | ob B=>cases w
theorem aj.new (E:aj K σ H0 R0 H R Γ)(i:Nat)(e:Ent)(a:Addr)(h:Γ[i]?=some e)(w:e.own=true)(ha:(σ[i]?).join=some (.ref a)):H0 a=none:=E.nw i e a h ((Ent.jZ w).mpr ha)
theorem Ent.cP {e:Ent}{o:Option V}(h:e.ok K H R o){a:Addr}(ha:a∈e.fp o):H a≠none∧R a=none:=by
  cases e with
  | no=>cases ha
  | im r x=>cases ha
  | mu r xs=>
    obtain ⟨b,vs,e,q,n,_⟩:=h
    rw [Ent.fp,cQ,e] at ha
    cases ha
    exact ⟨by rw [q];exact Option.some_ne_none _,n⟩
  | di kvs=>
    obtain ⟨b,e,q,n⟩:=h
    rw [Ent.fp,cQ,e] at ha
    cases ha
    exact ⟨by rw [q];exact Option.some_ne_none _,n⟩
  | ob B=>obtain ⟨⟨v,e,q⟩,n⟩:=h;exact ⟨B.has q a ha,n a ha⟩
theorem Ent.ok.loc {e:Ent}{o:Option V}(h:e.ok K H R o)(hH:∀a∈e.fp o,H' a=H a)(hR:ak R R')(hn:∀a∈e.fp o,R' a=none):e.ok K H' R' o:=by
  cases e with
  | no=>trivial
  | im r y=>obtain ⟨v,e,q⟩:=h;exact ⟨v,e,r.mono hR q⟩
  | mu r xs=>
    obtain ⟨a,vs,e,q,n,p⟩:=h
    have ha:a∈Ent.fp (.mu r xs) o:=cQ.mpr e
    exact ⟨a,vs,e,(hH a ha).trans q,hn a ha,Paired.map (fun _ _=>r.mono hR) p⟩
  | di kvs=>
    obtain ⟨a,e,q,n⟩:=h
    have ha:a∈Ent.fp (.di kvs) o:=cQ.mpr e
    exact ⟨a,e,(hH a ha).trans q,hn a ha⟩
  | ob B=>obtain ⟨⟨v,e,q⟩,n⟩:=h;exact ⟨⟨v,e,B.loc hH hR q⟩,hn⟩
theorem Ent.ok.grow {e:Ent}{o:Option V}(h:e.ok K H R o)(x:Ext H R H' R'):e.ok K H' R' o:=by
  refine h.loc (fun a ha=>?_) x.r (fun a ha=>?_)
  · cases q:H a with
    | none=>exact absurd q (Ent.cP h ha).1
    | some u=>exact x.h _ _ q
  · obtain ⟨h1,h2⟩:=Ent.cP h ha
    exact (x.old a h1).trans h2
theorem aj.grow (E:aj K σ H0 R0 H R Γ)(x:Ext H R H' R'):aj K σ H0 R0 H' R' Γ:=
  ⟨E.ext.trans x,fun i e h=>(E.ent i e h).grow x,E.nw,E.ds,E.len⟩
theorem aj.sub (E:aj K σ H0 R0 H R Γ):ak R H:=E.ext.s
noncomputable def Off (a:Addr)(σ:St)(Γ:Ga):Prop:=∀(i:Nat) (e:Ent),Γ[i]?=some e→a∉e.fp (σ[i]?).join
theorem aj.off (E:aj K σ H0 R0 H R Γ){a:Addr}(h:H a=none):Off a σ Γ:=fun i e q w=>(Ent.cP (E.ent i e q) w).1 h
theorem set_at.{v}{β:Type v}{l:List β}{i:Nat}{y:β}{j:Nat}{e:β}(q:(l.set i y)[j]?=some e):(j=i∧e=y∧i < l.length)∨(j≠i∧l[j]?=some e):=by
  by_cases hj:j=i
  · subst hj
    have hl:j < l.length:=by
      have:=List.getElem?_eq_some_iff.mp q
      simpa using this.1
    rw [List.getElem?_set_self hl] at q
    exact .inl ⟨rfl,(Option.some.inj q).symm,hl⟩
  · rw [List.getElem?_set_ne (Ne.symm hj)] at q
    exact .inr ⟨hj,q⟩
theorem aj.setG (E:aj K σ H0 R0 H R Γ)(i:Nat){v:V}{en:Ent}(ho:en.ok K H R (some v))(h0:∀a∈en.fp (some v),H0 a=none)(hf:∀a∈en.fp (some v),∀(j:Nat) (e:Ent),j≠i→Γ[j]?=some e→a∉e.fp (σ[j]?).join):
    aj K (σ.set i (some v)) H0 R0 H R (Γ.set i en):=by
  have key:∀(j:Nat) (e:Ent),(Γ.set i en)[j]?=some e→(j=i∧e=en∧((σ.set i (some v))[j]?).join=some v)∨(j≠i∧Γ[j]?=some e∧(σ.set i (some v))[j]?=σ[j]?):=fun j e q=>by
    rcases set_at q with ⟨rfl,rfl,hl⟩ | ⟨hj,q⟩
    · exact .inl ⟨rfl,rfl,by rw [List.getElem?_set_self (by rw [← E.len];exact hl)];rfl⟩
    · exact .inr ⟨hj,q,List.getElem?_set_ne (Ne.symm hj)⟩
  refine ⟨E.ext,fun j e q=>?_,fun j e a q w=>?_,fun j k e e' a q q' w w'=>?_,by rw [List.length_set,List.length_set];exact E.len⟩
  · rcases key j e q with ⟨_,rfl,q2⟩ | ⟨_,q1,q2⟩
    · rw [q2];exact ho
    · rw [q2];exact E.ent j e q1
  · rcases key j e q with ⟨_,rfl,q2⟩ | ⟨_,q1,q2⟩
    · rw [q2] at w;exact h0 a w
    · rw [q2] at w;exact E.nw j e a q1 w
  · rcases key j e q with ⟨hj,rfl,q2⟩ | ⟨hj,q1,q2⟩
    · rcases key k e' q' with ⟨hk,rfl,q2'⟩ | ⟨hk,q1',q2'⟩
      · rw [hj,hk]
      · rw [q2] at w;rw [q2'] at w';exact absurd w' (hf a w k e' hk q1')
    · rcases key k e' q' with ⟨hk,rfl,q2'⟩ | ⟨hk,q1',q2'⟩
      · rw [q2] at w;rw [q2'] at w';exact absurd w (hf a w' j e hj q1)
      · rw [q2] at w;rw [q2'] at w';exact E.ds j k e e' a q1 q1' w w'
theorem aj.set (E:aj K σ H0 R0 H R Γ)(i:Nat){v:V}{x:α}(h:r.R K R v x):aj K (σ.set i (some v)) H0 R0 H R (Γ.set i (.im r x)):=
  E.setG i ⟨v,rfl,h⟩ (fun a w=>by cases w) fun a w=>by cases w
theorem aj.pI (E:aj K σ H0 R0 H R Γ)(i:Nat){a:Addr}{u:HO}{en:Ent}(ho:en.ok K H R (some (.ref a)))(h0:H0 a=none)(hf:∀(j:Nat) (e:Ent),j≠i→Γ[j]?=some e→a∉e.fp (σ[j]?).join)(hfp:autoParam (en.fp (some (.ref a))=[a]) Fc.ag):
    aj K (σ.set i (some (.ref a))) H0 R0 H R (Γ.set i en):=
  E.setG i ho (fun b w=>by rw [hfp,List.mem_singleton] at w;rw [w];exact h0) fun b w=>by rw [hfp,List.mem_singleton] at w;rw [w];exact hf
theorem aj.nj (E:aj K σ H0 R0 H R Γ){i:Nat}{a:Addr}{u:HO}{e0 en:Ent}(hi:Γ[i]?=some e0)(ha:a∈e0.fp (σ[i]?).join)(ho:en.ok K (L2.upd H a u) R (σ[i]?).join)
    (hsub:∀b∈en.fp (σ[i]?).join,b∈e0.fp (σ[i]?).join∨(H0 b=none∧Off b σ Γ)):aj K σ H0 R0 (L2.upd H a u) R (Γ.set i en):=by
  have h0:H0 a=none:=E.nw i e0 a hi ha
  have hR:R a=none:=(Ent.cP (E.ent i e0 hi) ha).2
  refine ⟨⟨fun b o q=>?_,E.ext.r,fun b o q=>?_,E.ext.old⟩,fun j e q=>?_,fun j e b q w=>?_,fun j k e e' b q q' w w'=>?_,by rw [List.length_set];exact E.len⟩
  · rw [aD (cf q h0)];exact E.ext.h b o q
  · rw [aD (cf q hR)];exact E.ext.s b o q
  · rcases set_at q with ⟨rfl,rfl,_⟩ | ⟨hj,q1⟩
    · exact ho
    · refine (E.ent j e q1).loc (fun b hb=>aD fun z=>hj ?_) (ak.refl _) fun b hb=>(Ent.cP (E.ent j e q1) hb).2
      rw [z] at hb
      exact E.ds j i e e0 a q1 hi hb ha
  · rcases set_at q with ⟨rfl,rfl,_⟩ | ⟨hj,q1⟩
    · rcases hsub b w with z | z
      · exact E.nw _ _ b hi z
      · exact z.1
    · exact E.nw j e b q1 w
  · rcases set_at q with ⟨rfl,rfl,_⟩ | ⟨hj,q1⟩
    · rcases set_at q' with ⟨rfl,rfl,_⟩ | ⟨hk,q1'⟩
      · rfl
      · rcases hsub b w with z | z
        · exact E.ds _ _ _ _ b hi q1' z w'
        · exact absurd w' (z.2 k e' q1')
    · rcases set_at q' with ⟨rfl,rfl,_⟩ | ⟨hk,q1'⟩
      · rcases hsub b w' with z | z
        · exact E.ds _ _ _ _ b q1 hi w z
        · exact absurd w (z.2 j e q1)
      · exact E.ds _ _ _ _ b q1 q1' w w'
theorem aj.upd (E:aj K σ H0 R0 H R Γ){i:Nat}{a:Addr}{u:HO}{e0 en:Ent}(hi:Γ[i]?=some e0)(w0:e0.own=true)(ha:(σ[i]?).join=some (.ref a))(hR:R a=none)(ho:en.ok K (L2.upd H a u) R (some (.ref a)))(hfp:autoParam (en.fp (some (.ref a))=[a]) Fc.ag):
    aj K σ H0 R0 (L2.upd H a u) R (Γ.set i en):=
  E.nj hi ((Ent.jZ w0).mpr ha) (by rw [ha];exact ho) fun b w=>.inl (by rw [ha,hfp,List.mem_singleton] at w;rw [w];exact (Ent.jZ w0).mpr ha)
theorem aj.jS (E:aj K σ H0 R0 H R Γ){a:Addr}{u:HO}(ha:H a=some u)(hR:R a=none)(h0:H0 a=none)(off:Off a σ Γ):aj K σ H0 R0 H (L2.upd R a u) Γ:=by
  have s2:ak R (L2.upd R a u):=ak.fresh hR _
  refine ⟨⟨E.ext.h,E.ext.r.trans s2,fun b o qb=>?_,fun b hb=>?_⟩,fun i e qe=>?_,E.nw,E.ds,E.len⟩
  · by_cases hb:b=a
    · subst hb;rw [ay] at qb;cases qb;exact ha
    · rw [aD hb] at qb;exact E.ext.s b o qb
  · rw [aD (show b≠a from fun e=>hb (by rw [e];exact h0))];exact E.ext.old b hb
  · refine (E.ent i e qe).loc (fun _ _=>rfl) s2 fun b hb=>?_
    rw [aD (show b≠a from fun z=>off i e qe (z▸hb))]
    exact (Ent.cP (E.ent i e qe) hb).2
theorem aj.tell (E:aj K σ H0 R0 H R Γ){i:Nat}{e0 en:Ent}(hi:Γ[i]?=some e0)(ho:en.ok K H R (σ[i]?).join)(hsub:∀b∈en.fp (σ[i]?).join,b∈e0.fp (σ[i]?).join):aj K σ H0 R0 H R (Γ.set i en):=by
  refine ⟨E.ext,fun j e q=>?_,fun j e b q w=>?_,fun j k e e' b q q' w w'=>?_,by rw [List.length_set];exact E.len⟩
  · rcases set_at q with ⟨rfl,rfl,_⟩ | ⟨hj,q1⟩
    · exact ho
    · exact E.ent j e q1
  · rcases set_at q with ⟨rfl,rfl,_⟩ | ⟨hj,q1⟩
    · exact E.nw _ _ b hi (hsub b w)
    · exact E.nw j e b q1 w
  · rcases set_at q with ⟨rfl,rfl,_⟩ | ⟨hj,q1⟩
    · rcases set_at q' with ⟨rfl,rfl,_⟩ | ⟨hk,q1'⟩
      · rfl
      · exact E.ds _ _ _ _ b hi q1' (hsub b w) w'
    · rcases set_at q' with ⟨rfl,rfl,_⟩ | ⟨hk,q1'⟩
      · exact E.ds _ _ _ _ b q1 hi w (hsub b w')
      · exact E.ds _ _ _ _ b q1 q1' w w'
noncomputable def Wk:Ga→Ga→Prop
  | [],[]=>True
  | e::r,e'::r'=>(e'=e∨e'= .no)∧Wk r r'
  | _,_=>False
theorem Wk.len:∀{Γ Γ':Ga},Wk Γ Γ'→Γ'.length=Γ.length
  | [],[],_=>rfl
  | _::_,_::_,h=>by rw [List.length_cons,List.length_cons,Wk.len h.2]
theorem Wk.at:∀{Γ Γ':Ga},Wk Γ Γ'→∀(i:Nat) (e:Ent),Γ'[i]?=some e→e= .no∨Γ[i]?=some e
  | [],[],_,i,e,q=>by simp at q
  | a::_,b::_,h,0,e,q=>by
    simp at q
    rcases h.1 with z | z
    · right;simp [← q,z]
    · left;rw [← q,z]
  | a::r,b::r',h,i + 1,e,q=>by
    simp at q
    have:=Wk.at h.2 i e q
    simpa using this
theorem Wk.refl:∀Γ:Ga,Wk Γ Γ
  | []=>trivial
  | _::r=>⟨.inl rfl,Wk.refl r⟩
theorem aj.weak (E:aj K σ H0 R0 H R Γ){Γ':Ga}(w:Wk Γ Γ'):aj K σ H0 R0 H R Γ':=by
  refine ⟨E.ext,fun i e q=>?_,fun i e a q z=>?_,fun i j e e' a q q' z z'=>?_,w.len.trans E.len⟩
  · rcases w.at i e q with rfl | q
    · trivial
    · exact E.ent i e q
  · rcases w.at i e q with rfl | q
    · cases z
    · exact E.nw i e a q z
  · rcases w.at i e q with rfl | q
    · cases z
    · rcases w.at j e' q' with rfl | q'
      · cases z'
      · exact E.ds i j e e' a q q' z z'
end
section
variable {X:Cx}{Γ Γ1 Γ2 Γ3:Ga}{α β γ:Type}
noncomputable def EV (X:Cx)(e:Expr)(Γ:Ga){α:Type}(r:Rep α)(y:α)(Γ':Ga):Prop:=
  ∀(σ:St) (H0 R0 H R:Hp),aj X.K σ H0 R0 H R Γ→∀Q:VK,(∀v H' R',aj X.K σ H0 R0 H' R' Γ'→ak R R'→r.R X.K R' v y→Q v H')→c4 X e σ H Q
noncomputable def bb (X:Cx)(e:Expr)(Γ:Ga){α:Type}(r:Rep α)(ys:List α)(Γ':Ga):Prop:=
  ∀(σ:St) (H0 R0 H R:Hp),aj X.K σ H0 R0 H R Γ→∀Q:VK,(∀a vs H' R',aj X.K σ H0 R0 H' R' Γ'→ak R R'→H' a=some (.lst vs)→R' a=none→H0 a=none→Off a σ Γ'→PySem.Paired (r.R X.K R') vs ys→ys.length≤sizeLine→Q (.ref a) H')→c4 X e σ H Q
noncomputable def TV (X:Cx)(e:Expr)(Γ:Ga)(b:Bool)(Γ':Ga):Prop:=
  ∀(σ:St) (H0 R0 H R:Hp),aj X.K σ H0 R0 H R Γ→∀Q:Bool→Hp→Prop,(∀H' R',aj X.K σ H0 R0 H' R' Γ'→ak R R'→Q b H')→se X e σ H Q
noncomputable def TW (X:Cx)(e:Expr)(Γ:Ga)(b:Bool)(Γ':Ga):Prop:=
  ∀(σ:St) (H0 R0 H R:Hp),aj X.K σ H0 R0 H R Γ→∀Q:Bool→Hp→Prop,(∀H' R',aj X.K σ H0 R0 H' R' Γ'→ak R R'→Q b H')→tI X e σ H Q
noncomputable def TF (X:Cx)(es:List Expr)(Γ:Ga)(b:Bool)(Γ':Ga):Prop:=
  ∀(σ:St) (H0 R0 H R:Hp),aj X.K σ H0 R0 H R Γ→∀Q:Bool→Hp→Prop,(∀H' R',aj X.K σ H0 R0 H' R' Γ'→ak R R'→Q b H')→fc X es σ H Q
noncomputable def BG (X:Cx)(tg:Expr){α:Type}(r:Rep α)(bf:α→Ga→Ga):Prop:=
  ∀(σ:St) (H0 R0 H R:Hp) (Γ:Ga) (v:V) (x:α),aj X.K σ H0 R0 H R Γ→r.R X.K R v x→∀Q:St→Hp→Prop,(∀σ',aj X.K σ' H0 R0 H R (bf x Γ)→Q σ' H)→eC X tg v σ H Q
noncomputable abbrev RT:=Hp→V→Hp→Hp→Prop
noncomputable def WS (X:Cx)(sts:List Stmt)(Γ:Ga)(N:Ga→Prop)(T:RT):Prop:=
  ∀(σ:St) (H0 R0 H R:Hp),aj X.K σ H0 R0 H R Γ→∀D:Ends,(∀σ' H' R' Γ',aj X.K σ' H0 R0 H' R' Γ'→ak R R'→N Γ'→D.nx σ' H')→(∀v H' R',Ext H0 R0 H' R'→T H0 v H' R'→D.rt v H')→lS X sts D σ H
noncomputable def W1 (X:Cx)(st:Stmt)(Γ:Ga)(N:Ga→Prop)(T:RT):Prop:=
  ∀(σ:St) (H0 R0 H R:Hp),aj X.K σ H0 R0 H R Γ→∀D:Ends,(∀σ' H' R' Γ',aj X.K σ' H0 R0 H' R' Γ'→ak R R'→N Γ'→D.nx σ' H')→(∀v H' R',Ext H0 R0 H' R'→T H0 v H' R'→D.rt v H')→sW X st D σ H
noncomputable def bP (K:PySem.W.Frag){β:Type}(r:Rep β)(P:β→Prop):RT:=fun _ v _ R'=>∃y,r.R K R' v y∧P y
noncomputable def hU (K:PySem.W.Frag){β:Type}(r:Rep β)(P:List β→Prop):RT:=fun H0 v H' R'=>∃a vs ys,v= .ref a∧H0 a=none∧H' a=some (.lst vs)∧R' a=none∧PySem.Paired (r.R K R') vs ys∧ys.length≤sizeLine∧P ys
theorem bb.im {e:Expr}{r:Rep α}{ys:List α}(h:bb X e Γ r ys Γ1):EV X e Γ (af r) ys Γ1:=by
  intro σ H0 R0 H R E Q q
  refine h σ H0 R0 H R E Q fun a vs H' R' E' s1 ha hR h0 off p z=>?_
  have s2:ak R' (upd R' a (.lst vs)):=ak.fresh hR _
  exact q (.ref a) H' (upd R' a (.lst vs)) (E'.jS ha hR h0 off) (s1.trans s2) ⟨a,vs,rfl,ay,Paired.map (fun _ _=>r.mono s2) p,z⟩
theorem EV.cast {e:Expr}{r:Rep α}{y y':α}(h:EV X e Γ r y Γ1)(e1:y=y'):EV X e Γ r y' Γ1:=e1▸h
theorem TV.cast {e:Expr}{b b':Bool}(h:TV X e Γ b Γ1)(e1:b=b'):TV X e Γ b' Γ1:=e1▸h
theorem aa (i:Nat){x:Str}{pos:Pos}{r:Rep α}{y:α}(hΓ:Γ[i]?=some (.im r y))(hN:autoParam (X.N[i]?=some x) Fc.ag)(hv:autoParam (cv X.env.scope x) Fc.bW)
    (hd:autoParam ((x==("__debug__":Str))=false) Fc.aw) (hcd:autoParam ((x==("__classdict__":Str))=false) Fc.aw):EV X (.Name x pos) Γ r y Γ:=by
  intro σ H0 R0 H R E Q q
  obtain ⟨v,e,h⟩:=E.ent i _ hΓ
  refine eS (a9 hN hv hd hcd) ⟨v,?_,q v H R E (ak.refl _) h⟩
  cases es:σ[i]? with
  | none=>rw [es] at e;cases e
  | some o=>rw [es] at e;exact congrArg some e
theorem au {i:Int}{j:Nat}{pos:Pos}:EV X (.Constant (.int i) j pos) Γ ab i Γ:=fun _ _ _ _ _ E _ q=>eS dm (q _ _ _ E (ak.refl _) rfl)
theorem dt {b:Bool}{j:Nat}{pos:Pos}:EV X (.Constant (.bool b) j pos) Γ aK b Γ:=fun _ _ _ _ _ E _ q=>eS oN (q _ _ _ E (ak.refl _) rfl)
theorem cA {x:Str}{pos:Pos}{n:Int}{t:Tok}(hm:X.mg x=some (.int n t))(hg:autoParam (Gl X x) Fc.ag)(hd:autoParam ((x==("__debug__":Str))=false) Fc.aw):EV X (.Name x pos) Γ ab n Γ:=
  fun _ _ _ _ _ E _ q=>eS (nQ (v:=.int n) hg hm ⟨t,rfl⟩ hd) (q (.int n) _ _ E (ak.refl _) rfl)
theorem gX {op:Operator}{r2:R2}{a b:Expr}{pos:Pos}{ra:Rep α}{rb:Rep β}{rc:Rep γ}{x:α}{y:β}{z:γ}(ho:c8 X (binaryOp op) r2)(ha:EV X a Γ ra x Γ1)(hb:EV X b Γ1 rb y Γ2)
    (hz:∀(R:Hp) v u H Q,ra.R X.K R v x→rb.R X.K R u y→(∀w,rc.R X.K R w z→Q w H)→r2 v u H Q):EV X (.BinOp a op b pos) Γ rc z Γ2:=by
  intro σ H0 R0 H R E Q q
  refine eS (jK ho aH aH) (ha σ H0 R0 H R E _ fun v H1 R1 E1 s1 e1=>hb σ H0 R0 H1 R1 E1 _ fun u H2 R2 E2 s2 e2=>?_)
  exact hz R2 v u H2 _ (ra.mono s2 e1) e2 fun w hw=>q w H2 R2 E2 (s1.trans s2) hw
section
variable {a b c:Expr}{pos:Pos}{x y z:Int}
theorem cM (ha:EV X a Γ ab x Γ1)(hb:EV X b Γ1 ab y Γ2):EV X (.BinOp a .Add b pos) Γ ab (x + y) Γ2:=gX xw ha hb fun R v u H Q e1 e2 q=>⟨x,y,e1,e2,q _ rfl⟩
theorem c7 (ha:EV X a Γ ab x Γ1)(hb:EV X b Γ1 ab y Γ2):EV X (.BinOp a .Sub b pos) Γ ab (x - y) Γ2:=gX xC ha hb fun R v u H Q e1 e2 q=>⟨x,y,e1,e2,q _ rfl⟩
theorem qh (ha:EV X a Γ ab x Γ1)(hb:EV X b Γ1 ab y Γ2)(h:pE x y):EV X (.BinOp a .Mult b pos) Γ ab (x * y) Γ2:=gX yr ha hb fun R v u H Q e1 e2 q=>⟨x,y,e1,e2,h,q _ rfl⟩
theorem gx (ha:EV X a Γ ab x Γ1)(hb:EV X b Γ1 ab y Γ2)(h:0 < y):EV X (.BinOp a .Mod b pos) Γ ab (x % y) Γ2:=gX wU ha hb fun R v u H Q e1 e2 q=>⟨x,y,e1,e2,h,q _ rfl⟩
theorem xV (ha:EV X a Γ ab x Γ1)(hb:EV X b Γ1 ab y Γ2)(h:yu x y):EV X (.BinOp a .Pow b pos) Γ ab (x ^ y.toNat) Γ2:=gX vN ha hb fun R v u H Q e1 e2 q=>⟨x,y,e1,e2,h,q _ rfl⟩
theorem mi (ha:EV X a Γ ab x Γ1):EV X (.UnaryOp .USub a pos) Γ ab (-x) Γ1:=by
  intro σ H0 R0 H R E Q q
  exact eS (zC xP aH) (ha σ H0 R0 H R E _ fun v H1 R1 E1 s1 e1=>⟨x,e1,q _ H1 R1 E1 s1 rfl⟩)
end
structure fT (X:Cx) (op:CmpOp) {α β:Type} (ra:Rep α) (rb:Rep β) (x:α) (y:β) (k:Bool):Prop where
  r2:∃r,c8 X (compareOp op) r∧∀(R H:Hp) v u Q,ak R H→ra.R X.K R v x→rb.R X.K R u y→Q (.bl k) H→r v u H Q
theorem dP {op:CmpOp}{a b:Expr}{pos:Pos}{ra:Rep α}{rb:Rep β}{x:α}{y:β}{k:Bool}(c:fT X op ra rb x y k)(ha:EV X a Γ ra x Γ1)(hb:EV X b Γ1 rb y Γ2)(hm:behindInMarks op b=false:=by first | exact jw _ | with_unfolding_all rfl):
    EV X (.Compare a [op] [b] pos) Γ aK k Γ2:=by
  obtain ⟨r,ho,hr⟩:=c.r2
  intro σ H0 R0 H R E Q q
  refine eS (uX ho aH aH hm) (ha σ H0 R0 H R E _ fun v H1 R1 E1 s1 e1=>hb σ H0 R0 H1 R1 E1 _ fun u H2 R2 E2 s2 e2=>?_)
  exact hr R2 H2 v u _ E2.sub (ra.mono s2 e1) e2 (q _ H2 R2 E2 (s1.trans s2) rfl)
theorem bD {op:CmpOp}{a b:Expr}{pos:Pos}{ra:Rep α}{rb:Rep β}{x:α}{y:β}{k:Bool}(c:fT X op ra rb x y k)(ha:EV X a Γ ra x Γ1)(hb:EV X b Γ1 rb y Γ2)(hm:behindInMarks op b=false:=by first | exact jw _ | with_unfolding_all rfl):
    TV X (.Compare a [op] [b] pos) Γ k Γ2:=by
  obtain ⟨r,ho,hr⟩:=c.r2
  intro σ H0 R0 H R E Q q
  refine tS (uM ho aH aH hm) (ha σ H0 R0 H R E _ fun v H1 R1 E1 s1 e1=>hb σ H0 R0 H1 R1 E1 _ fun u H2 R2 E2 s2 e2=>?_)
  exact hr R2 H2 v u _ E2.sub (ra.mono s2 e1) e2 ⟨k,rfl,q H2 R2 E2 (s1.trans s2)⟩
section
variable {x y:Int}
theorem dM:fT X .Lt ab ab x y (decide (x < y)):=⟨_,zD,fun R H v u Q _ e1 e2 q=>⟨x,y,e1,e2,q⟩⟩
theorem eL:fT X .LtE ab ab x y (decide (x≤y)):=⟨_,zS,fun R H v u Q _ e1 e2 q=>⟨x,y,e1,e2,q⟩⟩
theorem Bb:fT X .GtE ab ab x y (decide (y≤x)):=⟨_,zg,fun R H v u Q _ e1 e2 q=>⟨x,y,e1,e2,q⟩⟩
theorem dA:fT X .Eq ab ab x y (decide (x=y)):=⟨_,zt,fun R H v u Q _ e1 e2 q=>by
  cases e1;cases e2
  exact ⟨rfl,by rw [show decide (V.int x=V.int y)=decide (x=y) by rw [iP];exact Bool.beq_eq_decide_eq x y];exact q⟩⟩
theorem mn:fT X .NotEq ab ab x y (!decide (x=y)):=⟨_,yY,fun R H v u Q _ e1 e2 q=>by
  cases e1;cases e2
  exact ⟨rfl,by rw [show decide (V.int x=V.int y)=decide (x=y) by rw [iP];exact Bool.beq_eq_decide_eq x y];exact q⟩⟩
end
theorem mq (x:Int):∀xs:List Int,tK (.int x) (xs.map V.int)=decide (x∈xs)
  | []=>rfl
  | y ::r=>by
    have h:=mq x r
    unfold tK at h ⊢
    rw [List.map_cons,List.any_cons,h]
    have e:jF (V.int y) (V.int x)=decide (x=y):=by
      show (y==x)=_
      by_cases h:x=y
      · subst h;simp
      · rw [decide_eq_false h];exact beq_eq_false_iff_ne.mpr (Ne.symm h)
    rw [e,Bool.eq_iff_iff];simp
theorem d2 {K:PySem.W.Frag}{R:Hp}:∀{vs:List V} {xs:List Int},PySem.Paired (ab.R K R) vs xs→vs=xs.map V.int
  | _,_,.nil=>rfl
  | _,_,.cons h t=>by rw [List.map_cons,← d2 t];exact congrArg (· ::_) h
theorem lj:∀xs:List Int,(xs.map V.int).all fu=true
  | []=>rfl
  | _::r=>by rw [List.map_cons,List.all_cons,lj r];rfl
theorem uR {x:Int}{xs:List Int}:fT X .NotIn ab (af ab) x xs (!decide (x∈xs)):=⟨_,mV,fun R H v u Q s e1 e2 q=>by
  cases e1
  obtain ⟨a,vs,rfl,hq,p,_⟩:=e2
  have e:=d2 p
  subst e
  exact ⟨a,_,rfl,.inl (aX.of (s _ _ hq)),rfl,lj xs,by rw [if_pos rfl,mq];exact q⟩⟩
theorem fN {op op':CmpOp}{a b c:Expr}{pos:Pos}{ra:Rep α}{rb:Rep β}{rc:Rep γ}{x:α}{y:β}{z:γ}{k k':Bool}(c1:fT X op ra rb x y k)(c2:fT X op' rb rc y z k')(ha:EV X a Γ ra x Γ)(hb:EV X b Γ rb y Γ)(hc:EV X c Γ rc z Γ)
    (hm:lastMarks [op,op'] [b,c]=false:=by with_unfolding_all rfl):EV X (.Compare a [op,op'] [b,c] pos) Γ aK (k&&k') Γ:=by
  obtain ⟨r,ho,hr⟩:=c1.r2
  obtain ⟨r',ho',hr'⟩:=c2.r2
  intro σ H0 R0 H R E Q q
  refine eS (sU ho ho' aH aH aH hm) (ha σ H0 R0 H R E _ fun v H1 R1 E1 s1 e1=>hb σ H0 R0 H1 R1 E1 _ fun u H2 R2 E2 s2 e2=>?_)
  refine hr R2 H2 v u _ E2.sub (ra.mono s2 e1) e2 ⟨k,rfl,?_⟩
  cases k with
  | false=>exact iE (q _ H2 R2 E2 (s1.trans s2) rfl)
  | true=>exact ie (hc σ H0 R0 H2 R2 E2 _ fun w H3 R3 E3 s3 e3=>hr' R3 H3 u w _ E3.sub (rb.mono s3 e2) e3 (q _ H3 R3 E3 (s1.trans (s2.trans s3)) rfl))
theorem fG {op op':CmpOp}{a b c:Expr}{pos:Pos}{ra:Rep α}{rb:Rep β}{rc:Rep γ}{x:α}{y:β}{z:γ}{k k':Bool}(c1:fT X op ra rb x y k)(c2:fT X op' rb rc y z k')(ha:EV X a Γ ra x Γ)(hb:EV X b Γ rb y Γ)(hc:EV X c Γ rc z Γ)
    (hm:lastMarks [op,op'] [b,c]=false:=by with_unfolding_all rfl):TV X (.Compare a [op,op'] [b,c] pos) Γ (k&&k') Γ:=by
  obtain ⟨r,ho,hr⟩:=c1.r2
  obtain ⟨r',ho',hr'⟩:=c2.r2
  intro σ H0 R0 H R E Q q
  refine tS (sL ho ho' aH aH aH hm) (ha σ H0 R0 H R E _ fun v H1 R1 E1 s1 e1=>hb σ H0 R0 H1 R1 E1 _ fun u H2 R2 E2 s2 e2=>?_)
  refine hr R2 H2 v u _ E2.sub (ra.mono s2 e1) e2 ⟨k,rfl,?_⟩
  cases k with
  | false=>exact iE ⟨false,rfl,q H2 R2 E2 (s1.trans s2)⟩
  | true=>exact ie (hc σ H0 R0 H2 R2 E2 _ fun w H3 R3 E3 s3 e3=>hr' R3 H3 u w _ E3.sub (rb.mono s3 e2) e3 ⟨k',rfl,q H3 R3 E3 (s1.trans (s2.trans s3))⟩)
theorem ei {op:BoolOp}{a:Expr}{pos:Pos}{r:Rep α}{x:α}(h:EV X a Γ r x Γ1):EV X (.BoolOp op [a] pos) Γ r x Γ1:=fun σ H0 R0 H R E Q q=>eS (wx aH) (h σ H0 R0 H R E Q q)
theorem d8 {a b:Expr}{rest:List Expr}{pos:Pos}{x y:Bool}(ha:EV X a Γ aK x Γ)(hb:x=true→EV X (.BoolOp .And (b::rest) pos) Γ aK y Γ):EV X (.BoolOp .And (a::b::rest) pos) Γ aK (x&&y) Γ:=by
  intro σ H0 R0 H R E Q q
  refine eS (xv aH aH) (ha σ H0 R0 H R E _ fun v H1 R1 E1 s1 e1=>⟨x,e1,?_⟩)
  cases x with
  | false=>exact iE (q _ H1 R1 E1 s1 rfl)
  | true=>exact ie (hb rfl σ H0 R0 H1 R1 E1 _ fun w H3 R3 E3 s3 e3=>q w H3 R3 E3 (s1.trans s3) e3)
theorem yI {a b:Expr}{rest:List Expr}{pos:Pos}{x y:Bool}(ha:EV X a Γ aK x Γ)(hb:x=false→EV X (.BoolOp .Or (b::rest) pos) Γ aK y Γ):EV X (.BoolOp .Or (a::b::rest) pos) Γ aK (x ||y) Γ:=by
  intro σ H0 R0 H R E Q q
  refine eS (yH aH aH) (ha σ H0 R0 H R E _ fun v H1 R1 E1 s1 e1=>⟨x,e1,?_⟩)
  cases x with
  | true=>exact ie (q _ H1 R1 E1 s1 rfl)
  | false=>exact iE (hb rfl σ H0 R0 H1 R1 E1 _ fun w H3 R3 E3 s3 e3=>q w H3 R3 E3 (s1.trans s3) e3)
theorem ql {a:Expr}{pos:Pos}{x:Bool}(ha:EV X a Γ aK x Γ1):EV X (.UnaryOp .Not a pos) Γ aK (!x) Γ1:=by
  intro σ H0 R0 H R E Q q
  exact eS (wR aH) (ha σ H0 R0 H R E _ fun v H1 R1 E1 s1 e1=>⟨x,e1,q _ H1 R1 E1 s1 rfl⟩)
theorem bZ {a:Expr}{pos:Pos}{x:Bool}(ha:TV X a Γ x Γ1):TV X (.UnaryOp .Not a pos) Γ (!x) Γ1:=by
  intro σ H0 R0 H R E Q q
  exact tS (yA iW) (ha σ H0 R0 H R E _ fun H1 R1 E1 s1=>q H1 R1 E1 s1)
theorem TW.tv {e:Expr}{b:Bool}(h:TW X e Γ b Γ1):TV X e Γ b Γ1:=fun σ H0 R0 H R E Q q=>tS (tZ.pt) (h σ H0 R0 H R E Q q)
theorem iO {a:Expr}{pos:Pos}{x:Bool}(ha:TV X a Γ x Γ1):TW X (.BoolOp .And [a] pos) Γ x Γ1:=fun σ H0 R0 H R E Q q=>wS (nS iW) (ha σ H0 R0 H R E Q q)
theorem fD {a:Expr}{pos:Pos}{x:Bool}(ha:TV X a Γ x Γ1):TW X (.BoolOp .Or [a] pos) Γ x Γ1:=fun σ H0 R0 H R E Q q=>wS (xt iW) (ha σ H0 R0 H R E Q q)
theorem iF {a b:Expr}{rest:List Expr}{pos:Pos}{x y:Bool}(ha:TV X a Γ x Γ)(hb:x=true→TW X (.BoolOp .And (b::rest) pos) Γ y Γ):TW X (.BoolOp .And (a::b::rest) pos) Γ (x&&y) Γ:=by
  intro σ H0 R0 H R E Q q
  refine wS (qq iW tZ) (ha σ H0 R0 H R E _ fun H1 R1 E1 s1=>?_)
  cases x with
  | false=>exact iE (q H1 R1 E1 s1)
  | true=>exact ie (hb rfl σ H0 R0 H1 R1 E1 _ fun H3 R3 E3 s3=>q H3 R3 E3 (s1.trans s3))
theorem gK {a b:Expr}{rest:List Expr}{pos:Pos}{x y:Bool}(ha:TV X a Γ x Γ)(hb:x=false→TW X (.BoolOp .Or (b::rest) pos) Γ y Γ):TW X (.BoolOp .Or (a::b::rest) pos) Γ (x ||y) Γ:=by
  intro σ H0 R0 H R E Q q
  refine wS (zT iW tZ) (ha σ H0 R0 H R E _ fun H1 R1 E1 s1=>?_)
  cases x with
  | true=>exact ie (q H1 R1 E1 s1)
  | false=>exact iE (hb rfl σ H0 R0 H1 R1 E1 _ fun H3 R3 E3 s3=>q H3 R3 E3 (s1.trans s3))
theorem bR {a:Expr}{k:Bool}(ha:EV X a Γ aK k Γ1)(he:autoParam (∀whole,isTrue a X.env whole=(do let v ← whole;standAt a.pos;holding [v] (truthy v))) Fc.cJ):TV X a Γ k Γ1:=by
  intro σ H0 R0 H R E Q q
  exact tS (yj aH he) (ha σ H0 R0 H R E _ fun v H1 R1 E1 s1 e1=>⟨k,e1,q H1 R1 E1 s1⟩)
theorem br:TF X [] Γ true Γ:=fun σ H0 R0 H R E Q q=>fS wj (q H R E (ak.refl _))
theorem d5 {c:Expr}{b:Bool}(h:TV X c Γ b Γ1):TF X [c] Γ b Γ1:=fun σ H0 R0 H R E Q q=>fS (yv iW) (h σ H0 R0 H R E Q q)
end
section
variable {X:Cx}{Γ Γ1 Γ2 Γ3:Ga}{α β γ δ:Type}
structure Pk:Type 1 where
  {α:Type}
  r:Rep α
  x:α
inductive fX (K:PySem.W.Frag) (R:Hp):List V→List Pk→Prop
  | nil:fX K R [] []
  | cons {v:V} {vs:List V} {p:Pk} {ps:List Pk}:p.r.R K R v p.x→fX K R vs ps→fX K R (v::vs) (p::ps)
noncomputable def HA (X:Cx)(es:List Expr)(Γ:Ga)(ps:List Pk)(Γ':Ga):Prop:=
  ∀(σ:St) (H0 R0 H R:Hp),aj X.K σ H0 R0 H R Γ→∀Q:List V→Hp→Prop,(∀vs H' R',aj X.K σ H0 R0 H' R' Γ'→ak R R'→fX X.K R' vs ps→Q vs H')→pM X es σ H Q
theorem ao:HA X [] Γ [] Γ:=fun σ H0 R0 H R E Q q=>aS bU (q [] H R E (ak.refl _) .nil)
theorem ae {e:Expr}{es:List Expr}{r:Rep α}{x:α}{ps:List Pk}(he:EV X e Γ r x Γ1)(hr:HA X es Γ1 ps Γ2)(hs:autoParam (starEach (e::es) X.env=(false,eval e X.env)::starEach es X.env) Fc.ag):HA X (e::es) Γ (⟨r,x⟩::ps) Γ2:=by
  intro σ H0 R0 H R E Q q
  refine aS (ba aH jz hs) (he σ H0 R0 H R E _ fun v H1 R1 E1 s1 e1=>hr σ H0 R0 H1 R1 E1 _ fun vs H2 R2 E2 s2 e2=>?_)
  exact q (v::vs) H2 R2 E2 (s1.trans s2) (.cons (r.mono s2 e1) e2)
noncomputable def EA (X:Cx)(es:List Expr)(Γ:Ga){α:Type}(r:Rep α)(ys:List α)(Γ':Ga):Prop:=
  ∀(σ:St) (H0 R0 H R:Hp),aj X.K σ H0 R0 H R Γ→∀Q:List V→Hp→Prop,(∀vs H' R',aj X.K σ H0 R0 H' R' Γ'→ak R R'→PySem.Paired (r.R X.K R') vs ys→Q vs H')→pM X es σ H Q
theorem bF {r:Rep α}:EA X [] Γ r [] Γ:=fun σ H0 R0 H R E Q q=>aS bU (q [] H R E (ak.refl _) .nil)
theorem aO {e:Expr}{es:List Expr}{r:Rep α}{x:α}{ys:List α}(he:EV X e Γ r x Γ1)(hr:EA X es Γ1 r ys Γ2)(hs:autoParam (starEach (e::es) X.env=(false,eval e X.env)::starEach es X.env) Fc.ag):EA X (e::es) Γ r (x::ys) Γ2:=by
  intro σ H0 R0 H R E Q q
  refine aS (ba aH jz hs) (he σ H0 R0 H R E _ fun v H1 R1 E1 s1 e1=>hr σ H0 R0 H1 R1 E1 _ fun vs H2 R2 E2 s2 e2=>?_)
  exact q (v::vs) H2 R2 E2 (s1.trans s2) (.cons (r.mono s2 e1) e2)
theorem bh {es:List Expr}{pos:Pos}{r:Rep α}{ys:List α}(h:EA X es Γ r ys Γ1)(hz:ys.length≤sizeLine):bb X (.List es pos) Γ r ys Γ1:=by
  intro σ H0 R0 H R E Q q
  refine eS (vL jz) (h σ H0 R0 H R E _ fun vs H1 R1 E1 s1 p1=>⟨by rw [p1.length];exact hz,fun p hp=>?_⟩)
  exact q p vs _ R1 (E1.grow (Ext.cO E1.sub hp _)) s1 ay (E1.sub.free hp) (E1.ext.h.free hp) (E1.off hp) p1 hz
theorem da {a b:Expr}{k:Nat}{pos:Pos}{r:Rep α}{r':Rep β}{x:α}{y:β}(h:HA X [a,b] Γ [⟨r,x⟩,⟨r',y⟩] Γ1):EV X (.Tuple [a,b] k pos) Γ (aF r r') (x,y) Γ1:=by
  intro σ H0 R0 H R E Q q
  refine eS (qp jz) (h σ H0 R0 H R E _ fun vs H1 R1 E1 s1 p1=>?_)
  obtain ⟨h1,h2⟩:∃v1 v2,vs=[v1,v2]∧r.R X.K R1 v1 x∧r'.R X.K R1 v2 y:=by
    cases p1 with
    | cons a1 t=>cases t with
      | cons a2 t2=>cases t2;exact ⟨_,_,rfl,a1,a2⟩
  obtain ⟨v2,rfl,e1,e2⟩:=h2
  refine ⟨by show 2≤sizeLine;decide,fun p hp=>?_⟩
  have s2:ak R1 (upd R1 p (.tup [h1,v2])):=ak.fresh (E1.sub.free hp) _
  exact q _ _ (upd R1 p (.tup [h1,v2])) (E1.grow (Ext.fresh E1.sub hp _)) (s1.trans s2) ⟨p,_,_,rfl,ay,r.mono s2 e1,r'.mono s2 e2⟩
theorem vY {a b c d:Expr}{k:Nat}{pos:Pos}{x y z w:Int}(h:HA X [a,b,c,d] Γ [⟨ab,x⟩,⟨ab,y⟩,⟨ab,z⟩,⟨ab,w⟩] Γ1):EV X (.Tuple [a,b,c,d] k pos) Γ aI (x,y,z,w) Γ1:=by
  intro σ H0 R0 H R E Q q
  refine eS (qp jz) (h σ H0 R0 H R E _ fun vs H1 R1 E1 s1 p1=>?_)
  have e:vs=[.int x,.int y,.int z,.int w]:=by
    cases p1 with
    | cons a1 t=>cases t with
      | cons a2 t=>cases t with
        | cons a3 t=>cases t with
          | cons a4 t=>cases t;cases a1;cases a2;cases a3;cases a4;rfl
  subst e
  refine ⟨by show 4≤sizeLine;decide,fun p hp=>?_⟩
  exact q _ _ (upd R1 p _) (E1.grow (Ext.fresh E1.sub hp _)) (s1.trans (ak.fresh (E1.sub.free hp) _)) ⟨p,rfl,ay⟩
theorem dZ {F:α→β→Prop}:∀{vs:List α} {xs:List β},PySem.Paired F vs xs→∀{i:Nat} {y:β},xs[i]?=some y→∃v,vs[i]?=some v∧F v y
  | _,_,.nil,i,y,h=>by simp at h
  | _,_,.cons h t,0,y,e=>by simp at e;subst e;exact ⟨_,rfl,h⟩
  | _,_,.cons h t,i + 1,y,e=>by
    obtain ⟨v,e1,e2⟩:=dZ t (i:=i) (y:=y) (by simpa using e)
    exact ⟨v,by simpa using e1,e2⟩
theorem gL {F:α→β→Prop}{vs:List α}{xs:List β}(p:PySem.Paired F vs xs){i:Int}{y:β}(h:cI xs i=some y):∃v,cI vs i=some v∧F v y:=by
  unfold cI at h ⊢
  rw [p.length]
  cases e:fg xs.length i with
  | none=>rw [e] at h;cases h
  | some j=>rw [e] at h;exact dZ p h
theorem dD {xs:List α}{i:Int}(h0:0≤i)(h1:i < xs.length):cI xs i=xs[i.toNat]?:=by
  have e:i=((i.toNat:Nat):Int):=by omega
  have hl:i.toNat < xs.length:=by omega
  have q:cI xs ((i.toNat:Nat):Int)=some xs[i.toNat]:=vE (List.getElem?_eq_getElem hl)
  rw [← e] at q
  rw [q,List.getElem?_eq_getElem hl]
theorem aQ {a b:Expr}{pos:Pos}{r:Rep α}{xs:List α}{i:Int}{y:α}(ha:EV X a Γ (af r) xs Γ1)(hb:EV X b Γ1 ab i Γ2)(h:cI xs i=some y)(hs:autoParam (eM b) Fc.l9):EV X (.Subscript a b pos) Γ r y Γ2:=by
  intro σ H0 R0 H R E Q q
  refine eS (fm dX aH aH hs) (ha σ H0 R0 H R E _ fun v H1 R1 E1 s1 e1=>hb σ H0 R0 H1 R1 E1 _ fun u H2 R2 E2 s2 e2=>?_)
  obtain ⟨p,vs,rfl,ha,pp,z⟩:=(af r).mono s2 e1
  obtain ⟨w,e3,e4⟩:=gL pp h
  exact ⟨p,vs,i,w,rfl,e2,aX.of (E2.sub _ _ ha),e3,q w H2 R2 E2 (s1.trans s2) e4⟩
theorem gv (j:Nat){x:Str}{p1:Pos}{b:Expr}{pos:Pos}{r:Rep α}{xs:List α}{i:Int}{y:α}(hb:EV X b Γ ab i Γ1)(hΓ:Γ[j]?=some (.mu r xs))(hΓ1:Γ1[j]?=some (.mu r xs))(h:cI xs i=some y)(hN:autoParam (X.N[j]?=some x) Fc.ag)(hv:autoParam (cv X.env.scope x) Fc.bW)
    (hs:autoParam (eM b) Fc.l9) (hd:autoParam ((x==("__debug__":Str))=false) Fc.aw) (hcd:autoParam ((x==("__classdict__":Str))=false) Fc.aw):EV X (.Subscript (.Name x p1) b pos) Γ r y Γ1:=by
  intro σ H0 R0 H R E Q q
  obtain ⟨a,vs,e,_,_,_⟩:=E.ent j _ hΓ
  refine eS (fm dX (a9 hN hv hd hcd) aH hs) ⟨.ref a,?_,hb σ H0 R0 H R E _ fun u H2 R2 E2 s2 e2=>?_⟩
  · cases es:σ[j]? with
    | none=>rw [es] at e;cases e
    | some o=>rw [es] at e;exact congrArg some e
  · obtain ⟨a',vs',e',ha,hR,pp⟩:=E2.ent j _ hΓ1
    rw [e] at e';cases e'
    obtain ⟨w,e3,e4⟩:=gL pp h
    exact ⟨a,vs',i,w,rfl,e2,aX.of ha,e3,q w H2 R2 E2 s2 e4⟩
section
variable {a:Expr}{n:Int}{j:Nat}{p1 pos:Pos}{w:Row}
theorem gI {r:Rep α}{x:α}{y:β}{r':Rep β}(ha:EV X a Γ r x Γ1)(k:∀(R:Hp) v,r.R X.K R v x→∃p vs w,v= .ref p∧R p=some (.tup vs)∧cI vs n=some w∧r'.R X.K R w y):EV X (.Subscript a (.Constant (.int n) j p1) pos) Γ r' y Γ1:=by
  intro σ H0 R0 H R E Q q
  refine eS (fm ye aH dm (fun _ _=>rfl)) (ha σ H0 R0 H R E _ fun v H1 R1 E1 s1 e1=>?_)
  obtain ⟨p,vs,w,rfl,hp,e3,e4⟩:=k R1 v e1
  exact ⟨p,vs,n,w,rfl,rfl,dc.of (E1.sub _ _ hp),e3,q w H1 R1 E1 s1 e4⟩
theorem dW (ha:EV X a Γ aI w Γ1):EV X (.Subscript a (.Constant (.int 0) j p1) pos) Γ ab w.1 Γ1:=gI ha fun R v ⟨p,e,h⟩=>⟨p,_,_,e,h,rfl,rfl⟩
theorem c9 (ha:EV X a Γ aI w Γ1):EV X (.Subscript a (.Constant (.int 1) j p1) pos) Γ ab w.2.1 Γ1:=gI ha fun R v ⟨p,e,h⟩=>⟨p,_,_,e,h,rfl,rfl⟩
theorem cS (ha:EV X a Γ aI w Γ1):EV X (.Subscript a (.Constant (.int 2) j p1) pos) Γ ab w.2.2.1 Γ1:=gI ha fun R v ⟨p,e,h⟩=>⟨p,_,_,e,h,rfl,rfl⟩
theorem kJ (ha:EV X a Γ aI w Γ1):EV X (.Subscript a (.Constant (.int 3) j p1) pos) Γ ab w.2.2.2 Γ1:=gI ha fun R v ⟨p,e,h⟩=>⟨p,_,_,e,h,rfl,rfl⟩
theorem cY {r:Rep α}{r':Rep β}{x:α×β}(ha:EV X a Γ (aF r r') x Γ1):EV X (.Subscript a (.Constant (.int 0) j p1) pos) Γ r x.1 Γ1:=gI ha fun R v ⟨p,v1,v2,e,h,h1,h2⟩=>⟨p,_,v1,e,h,rfl,h1⟩
theorem bc {r:Rep α}{r':Rep β}{x:α×β}(ha:EV X a Γ (aF r r') x Γ1):EV X (.Subscript a (.Constant (.int 1) j p1) pos) Γ r' x.2 Γ1:=gI ha fun R v ⟨p,v1,v2,e,h,h1,h2⟩=>⟨p,_,v2,e,h,rfl,h2⟩
end
noncomputable def OV (X:Cx)(e:Option Expr)(Γ:Ga)(o:Option Int):Prop:=∃t,PO X e t∧∀(σ:St) (H0 R0 H R:Hp),aj X.K σ H0 R0 H R Γ→∀Q:Option Int→Hp→Prop,(∀H' R',aj X.K σ H0 R0 H' R' Γ→ak R R'→Q o H')→t σ H Q
theorem uZ:OV X none Γ none:=⟨_,nT,fun σ H0 R0 H R E Q q=>q H R E (ak.refl _)⟩
theorem vx {e:Expr}{i:Int}(h:EV X e Γ ab i Γ):OV X (some e) Γ (some i):=⟨_,ou aH,fun σ H0 R0 H R E Q q=>h σ H0 R0 H R E _ fun v H1 R1 E1 s1 e1=>⟨i,e1,q H1 R1 E1 s1⟩⟩
noncomputable def cut (xs:List α)(lo hi:Option Int):List α:=(xs.drop (HT.sIx xs.length 0 lo)).take (HT.sIx xs.length xs.length hi - HT.sIx xs.length 0 lo)
theorem gh {F:α→β→Prop}:∀(n:Nat) {vs:List α} {xs:List β},PySem.Paired F vs xs→PySem.Paired F (vs.drop n) (xs.drop n)
  | 0,_,_,h=>h
  | _ + 1,_,_,.nil=>.nil
  | n + 1,_,_,.cons _ t=>gh n t
theorem eN {F:α→β→Prop}:∀(n:Nat) {vs:List α} {xs:List β},PySem.Paired F vs xs→PySem.Paired F (vs.take n) (xs.take n)
  | 0,_,_,_=>.nil
  | _ + 1,_,_,.nil=>.nil
  | n + 1,_,_,.cons h t=>.cons h (eN n t)
theorem bO {F:α→β→Prop}:∀{vs:List α} {xs:List β} {vs':List α} {xs':List β},PySem.Paired F vs xs→PySem.Paired F vs' xs'→PySem.Paired F (vs++vs') (xs++xs')
  | _,_,_,_,.nil,h=>h
  | _,_,_,_,.cons h t,h'=>.cons h (bO t h')
theorem kn (xs:List α)(lo hi:Option Int):(cut xs lo hi).length≤xs.length:=by
  unfold cut
  rw [List.length_take,List.length_drop]
  omega
theorem oI {a:Expr}{lo hi:Option Expr}{p2 pos:Pos}{xs:List Int}{l h:Option Int}(ha:EV X a Γ f6 xs Γ)(hl:OV X lo Γ l)(hh:OV X hi Γ h):bb X (.Subscript a (.Slice lo hi none p2) pos) Γ ab (cut xs l h) Γ:=by
  intro σ H0 R0 H R E Q q
  obtain ⟨tl,pl,kl⟩:=hl
  obtain ⟨th,ph,kh⟩:=hh
  refine eS (lV vB aH pl ph) (ha σ H0 R0 H R E _ fun v H1 R1 E1 s1 e1=>kl σ H0 R0 H1 R1 E1 _ fun H2 R2 E2 s2=>kh σ H0 R0 H2 R2 E2 _ fun H3 R3 E3 s3=>?_)
  obtain ⟨p,rfl,hp,z⟩:=f6.mono (s2.trans s3) e1
  refine ⟨p,_,rfl,E3.sub.seq hp,fun d hd=>?_⟩
  have aints:∀ys:List Int,PySem.Paired (ab.R X.K R3) (ys.map V.int) ys:=fun ys=>by
    induction ys with
    | nil=>exact .nil
    | cons y r ih=>exact .cons rfl ih
  refine q d _ _ R3 (E3.grow (Ext.cO E3.sub hd _)) (s1.trans (s2.trans s3)) ay (E3.sub.free hd) (E3.ext.h.free hd) (E3.off hd) ?_ (Nat.le_trans (kn _ _ _) (Nat.le_trans z (by decide)))
  unfold cut jb
  rw [List.length_map]
  exact eN _ (gh _ (aints xs))
theorem nO {a b:Expr}{pos:Pos}{r:Rep α}{xs ys:List α}(ha:EV X a Γ (af r) xs Γ1)(hb:EV X b Γ1 (af r) ys Γ2)(hz:xs.length + ys.length≤sizeLine):bb X (.BinOp a .Add b pos) Γ r (xs++ys) Γ2:=by
  intro σ H0 R0 H R E Q q
  refine eS (jK nh aH aH) (ha σ H0 R0 H R E _ fun v H1 R1 E1 s1 e1=>hb σ H0 R0 H1 R1 E1 _ fun u H2 R2 E2 s2 e2=>?_)
  obtain ⟨p,vs,rfl,hp,pp,z⟩:=(af r).mono s2 e1
  obtain ⟨p',ws,rfl,hp',pp',z'⟩:=e2
  refine ⟨p,p',vs,ws,rfl,rfl,E2.sub _ _ hp,E2.sub _ _ hp',by rw [pp.length,pp'.length];exact hz,fun d hd=>?_⟩
  exact q d _ _ R2 (E2.grow (Ext.cO E2.sub hd _)) (s1.trans s2) ay (E2.sub.free hd) (E2.ext.h.free hd) (E2.off hd) (bO pp pp') (by rw [List.length_append];exact hz)
theorem kd {F:α→β→Prop}{vs:List α}{xs:List β}(h:PySem.Paired F vs xs):∀k:Nat,PySem.Paired F (List.replicate k vs).flatten (List.replicate k xs).flatten
  | 0=>.nil
  | k + 1=>by rw [List.replicate_succ,List.replicate_succ];exact bO h (kd h k)
theorem vF {a b:Expr}{pos:Pos}{r:Rep α}{xs:List α}{k:Int}(ha:EV X a Γ (af r) xs Γ1)(hb:EV X b Γ1 ab k Γ2)(h1: -(2 ^ 63)≤k)(h2:k < 2 ^ 63)(hz:xs.length * k.toNat≤sizeLine):bb X (.BinOp a .Mult b pos) Γ r (List.replicate k.toNat xs).flatten Γ2:=by
  intro σ H0 R0 H R E Q q
  refine eS (jK vP aH aH) (ha σ H0 R0 H R E _ fun v H1 R1 E1 s1 e1=>hb σ H0 R0 H1 R1 E1 _ fun u H2 R2 E2 s2 e2=>?_)
  obtain ⟨p,vs,rfl,hp,pp,z⟩:=(af r).mono s2 e1
  refine ⟨p,k,vs,rfl,e2,E2.sub _ _ hp,h1,h2,by rw [pp.length];exact hz,fun d hd=>?_⟩
  exact q d _ _ R2 (E2.grow (Ext.cO E2.sub hd _)) (s1.trans s2) ay (E2.sub.free hd) (E2.ext.h.free hd) (E2.off hd) (kd pp _) (by rw [len_rep,Nat.mul_comm];exact hz)
theorem cN {a:Expr}{p pos:Pos}{r:Rep α}{xs:List α}(hm:X.mg "len"=none)(ha:EV X a Γ (af r) xs Γ1)(hs:autoParam (starEach [a] X.env=[(false,eval a X.env)]) Fc.ag)(hg:autoParam (Gl X "len") Fc.ag):EV X (.Call (.Name "len" p) [a] [] pos) Γ ab (xs.length:Int) Γ1:=by
  intro σ H0 R0 H R E Q q
  refine eS (dk dF hg hm PySem.boot_len (ba aH bU hs) (by decide) (by decide) hs) (ha σ H0 R0 H R E _ fun v H1 R1 E1 s1 e1=>?_)
  obtain ⟨p,vs,rfl,hp,pp,z⟩:=e1
  refine ⟨p,vs,rfl,.inl (aX.of (E1.sub _ _ hp)),?_⟩
  rw [pp.length]
  exact q _ H1 R1 E1 s1 rfl
end
section
variable {X:Cx}{Γ Γ1 Γ2 Γ3:Ga}{α β γ δ:Type}{N:Ga→Prop}{T:RT}
theorem vS {Γ':Ga}(w:Wk Γ Γ')(h:N Γ'):WS X [] Γ N T:=fun σ H0 R0 H R E D dn dr=>xZ uV (dn σ H R Γ' (E.weak w) (ak.refl _) h)
theorem bB (h:N Γ):WS X [] Γ N T:=vS (Wk.refl Γ) h
theorem ai {st:Stmt}{rest:List Stmt}(h:W1 X st Γ (fun Γ'=>WS X rest Γ' N T) T):WS X (st::rest) Γ N T:=fun σ H0 R0 H R E D dn dr=>
  xZ (tG Ai fH) (h σ H0 R0 H R E {D with nx:=lS X rest D} (fun σ' H' R' Γ' E' s' h'=>h' σ' H0 R0 H' R' E' D (fun σ2 H2 R2 Γ2 E2 s2=>dn σ2 H2 R2 Γ2 E2 (s'.trans s2)) dr) dr)
theorem ar {st:Stmt}(h:W1 X st Γ N T):WS X [st] Γ N T:=fun σ H0 R0 H R E D dn dr=>xZ (vk Ai) (h σ H0 R0 H R E D dn dr)
theorem aZ (i:Nat){x:Str}{p1 pos:Pos}{e:Expr}{r:Rep α}{y:α}(he:EV X e Γ r y Γ1)(h:N (Γ1.set i (.im r y)))(hN:autoParam (X.N.Nodup) Fc.dO)(hi:autoParam (X.N[i]?=some x) Fc.ag)(hx:autoParam (Loc X.env.scope x) Fc.dh)
    (hs:autoParam (swapsWith e (some (.Name x p1)) pos.line X.env=pure false) Fc.ag) (hf:autoParam (X.fn x=true∨X.env.scope.names.lookup x=some .local) Fc.fe):W1 X (.Assign [.Name x p1] e pos) Γ N T:=fun σ H0 R0 H R E D dn dr=>
  sS (fP hN hi hx aH hs hf) (he σ H0 R0 H R E _ fun v H1 R1 E1 s1 e1=>dn _ H1 R1 _ (E1.set i e1) s1 h)
theorem dq (i:Nat){x:Str}{p1 pos:Pos}{e:Expr}{r:Rep α}{ys:List α}(he:bb X e Γ r ys Γ1)(h:N (Γ1.set i (.mu r ys)))(hN:autoParam (X.N.Nodup) Fc.dO)(hi:autoParam (X.N[i]?=some x) Fc.ag)(hx:autoParam (Loc X.env.scope x) Fc.dh)
    (hs:autoParam (swapsWith e (some (.Name x p1)) pos.line X.env=pure false) Fc.ag) (hf:autoParam (X.fn x=true∨X.env.scope.names.lookup x=some .local) Fc.fe):W1 X (.Assign [.Name x p1] e pos) Γ N T:=fun σ H0 R0 H R E D dn dr=>
  sS (fP hN hi hx aH hs hf) (he σ H0 R0 H R E _ fun a vs H1 R1 E1 s1 ha hR h0 off p z=>dn _ H1 R1 _ (E1.pI (u:=.lst vs) (en:=.mu r ys) i ⟨a,vs,rfl,ha,hR,p⟩ h0 fun j e _ q w=>off j e q w) s1 h)
theorem tV {tg:Expr}{pos:Pos}{e:Expr}{r:Rep α}{y:α}{bf:α→Ga→Ga}(he:EV X e Γ r y Γ1)(hb:BG X tg r bf)(h:N (bf y Γ1))
    (hs:autoParam (swapsWithSole [tg] e pos.line X.env=pure false) Fc.ag) (hw:autoParam (swappedStores [tg] e X.env=pure none) Fc.ag) (h1:autoParam ((assignEach [tg] X.env).map (·.2)=[assign tg X.env]) Fc.ag):W1 X (.Assign [tg] e pos) Γ N T:=fun σ H0 R0 H R E D dn dr=>
  sS (fO aH tR hs hw h1) (he σ H0 R0 H R E _ fun v H1 R1 E1 s1 e1=>hb σ H0 R0 H1 R1 Γ1 v y E1 e1 _ fun σ' E'=>dn σ' H1 R1 _ E' s1 h)
theorem bH {e:Expr}{pos:Pos}{r:Rep α}{P:α→Prop}{y:α}(he:EV X e Γ r y Γ1)(h:P y):W1 X (.Return (some e) pos) Γ N (bP X.K r P):=fun σ H0 R0 H R E D dn dr=>
  sS (dB aH) (he σ H0 R0 H R E _ fun v H1 R1 E1 s1 e1=>dr v H1 R1 E1.ext ⟨y,e1,h⟩)
theorem wy {e:Expr}{pos:Pos}{r:Rep α}{P:List α→Prop}{ys:List α}(he:bb X e Γ r ys Γ1)(h:P ys):W1 X (.Return (some e) pos) Γ N (hU X.K r P):=fun σ H0 R0 H R E D dn dr=>
  sS (dB aH) (he σ H0 R0 H R E _ fun a vs H1 R1 E1 s1 ha hR h0 off p z=>dr _ H1 R1 E1.ext ⟨a,vs,ys,rfl,h0,ha,hR,p,z,h⟩)
theorem bY {c:Expr}{a b:List Stmt}{pos:Pos}{k:Bool}(hc:TV X c Γ k Γ1)(h1:k=true→WS X a Γ1 N T)(h2:k=false→WS X b Γ1 N T):W1 X (.If c a b pos) Γ N T:=fun σ H0 R0 H R E D dn dr=>by
  refine sS (yM iW fH fH) (hc σ H0 R0 H R E _ fun H1 R1 E1 s1=>?_)
  cases k with
  | true=>exact ie (h1 rfl σ H0 R0 H1 R1 E1 D (fun σ2 H2 R2 Γ2 E2 s2=>dn σ2 H2 R2 Γ2 E2 (s1.trans s2)) dr)
  | false=>exact iE (h2 rfl σ H0 R0 H1 R1 E1 D (fun σ2 H2 R2 Γ2 E2 s2=>dn σ2 H2 R2 Γ2 E2 (s1.trans s2)) dr)
theorem aB (i:Nat){x:Str}{pos:Pos}{r:Rep α}(hN:autoParam (X.N.Nodup) Fc.dO)(hi:autoParam (X.N[i]?=some x) Fc.ag)(hx:autoParam (Loc X.env.scope x) Fc.dh)(hf:autoParam (X.fn x=true∨X.env.scope.names.lookup x=some .local) Fc.fe):
    BG X (.Name x pos) r (fun y Γ=>Γ.set i (.im r y)):=fun σ H0 R0 H R Γ v x E h Q q=>gS (eG hN hi hx hf) (q _ (E.set i h))
theorem gH (i j:Nat){x y:Str}{k:Nat}{p1 p2 pos:Pos}{r:Rep α}{r':Rep β}(hc:autoParam (X.calm=true) Fc.ag)(hN:autoParam (X.N.Nodup) Fc.dO)(hi:autoParam (X.N[i]?=some x) Fc.ag)(hx:autoParam (Loc X.env.scope x) Fc.dh)(hf:autoParam (X.fn x=true∨X.env.scope.names.lookup x=some .local) Fc.fe)
    (hj:autoParam (X.N[j]?=some y) Fc.ag) (hy:autoParam (Loc X.env.scope y) Fc.dh) (hf':X.fn y=true∨X.env.scope.names.lookup y=some .local:=by first | exact .inl rfl | exact .inr rfl):
    BG X (.Tuple [.Name x p1,.Name y p2] k pos) (aF r r') (fun w Γ=>(Γ.set i (.im r w.1)).set j (.im r' w.2)):=fun σ H0 R0 H R Γ v w E h Q q=>by
  obtain ⟨a,v1,v2,rfl,ha,e1,e2⟩:=h
  exact gS (ym hc (eE (eG hN hi hx hf) (eE (eG hN hj hy hf') ky))) ⟨a,_,rfl,dc.of (E.sub _ _ ha),rfl,v1,[v2],rfl,v2,[],rfl,rfl,q _ ((E.set i e1).set j e2)⟩
theorem gJ {F:α→β→Prop}:∀{vs:List α} {xs:List β},PySem.Paired F vs xs→∀{i:Nat} {v:α},vs[i]?=some v→∃y,xs[i]?=some y∧F v y
  | _,_,.nil,i,y,h=>by simp at h
  | _,_,.cons h t,0,y,e=>by simp at e;subst e;exact ⟨_,rfl,h⟩
  | _,_,.cons h t,i + 1,y,e=>by
    obtain ⟨v,e1,e2⟩:=gJ t (i:=i) (v:=y) (by simpa using e)
    exact ⟨v,by simpa using e1,e2⟩
end
section
variable {X:Cx}{Γ Γ1 Γ2 Γ3:Ga}{α β γ δ:Type}{N:Ga→Prop}{T:RT}
theorem at_of {σ:St}{i:Nat}{v:V}(e:(σ[i]?).join=some v):σ[i]?=some (some v):=by
  cases es:σ[i]? with
  | none=>rw [es] at e;cases e
  | some o=>rw [es] at e;exact congrArg some e
theorem gr {c:Expr}{body:List Stmt}{pos:Pos}(I:Nat→Ga→Prop){m0:Nat}(h0:I m0 Γ)
    (hstep:∀(m:Nat) (Γ:Ga),I m Γ→∃(k:Bool) (Γ':Ga),TV X c Γ k Γ'∧(k=true→WS X body Γ' (fun Γ''=>∃m',m' < m∧I m' Γ'') T)∧(k=false→N Γ'))
    (hp:PassesOwn (model X.prog X.w) X.A X.env X.xe:=by exact PassesOwn.never):W1 X (.While c body [] pos) Γ N T:=fun σ H0 R0 H R E D dn dr=>by
  refine sS (tE hp iW fH) ?_
  refine ⟨fun m σ' H'=>∃R' Γ',aj X.K σ' H0 R0 H' R' Γ'∧ak R R'∧I m Γ',⟨m0,R,Γ,E,ak.refl _,h0⟩,?_⟩
  rintro m σ' H' ⟨R',Γ',E',s',hI⟩
  obtain ⟨k,Γ2,ht,h1,h2⟩:=hstep m Γ' hI
  refine ht σ' H0 R0 H' R' E' _ fun H1 R1 E1 s1=>?_
  cases k with
  | true=>
    refine ie ⟨_,fun σ2 H2 h=>h,h1 rfl σ' H0 R0 H1 R1 E1 _ (fun σ3 H3 R3 Γ3 E3 s3 h3=>?_) dr⟩
    obtain ⟨m',hm,hI'⟩:=h3
    exact ⟨m',hm,R3,Γ3,E3,s'.trans (s1.trans s3),hI'⟩
  | false=>exact iE (dn σ' H1 R1 Γ2 E1 (s'.trans s1) (h2 rfl))
theorem eK (i:Nat){x:Str}{e:Expr}{p1 ap cp pos:Pos}{r:Rep α}{xs:List α}{y:α}(he:EV X e Γ r y Γ1)(hΓ:Γ[i]?=some (.mu r xs))(hΓ1:Γ1[i]?=some (.mu r xs))(hz:xs.length < sizeLine)(h:N (Γ1.set i (.mu r (xs++[y]))))
    (hN:autoParam (X.N[i]?=some x) Fc.ag) (hv:autoParam (cv X.env.scope x) Fc.bW)
    (hd:autoParam ((x==("__debug__":Str))=false) Fc.aw) (hcd:autoParam ((x==("__classdict__":Str))=false) Fc.aw)
    (hsw:autoParam (swapsWith (.Call (.Attribute (.Name x p1) "append" ap) [e] [] cp) none pos.line X.env=pure false) Fc.ag)
    (hbase:autoParam (attributeBase (.Name x p1) "append" X.env (eval (.Name x p1) X.env)=eval (.Name x p1) X.env) Fc.ag)
    (hfew:autoParam (((backTo cp (starEach [e] X.env)).all (fun x=> !x.1)&&(backToKw cp (keywordEach [] X.env)).all (fun x=>x.1.isSome)
      &&decide ([e].length + ([]:List Keyword).length + (if ([]:List Keyword).isEmpty then 0 else 1) < 30))=true) Fc.ag)
    (hline:autoParam ((ap.endLine==cp.line)=true) Fc.ag) (hs:autoParam (starEach [e] X.env=(false,eval e X.env)::starEach [] X.env) Fc.ag):W1 X (.Expr (.Call (.Attribute (.Name x p1) "append" ap) [e] [] cp) pos) Γ N T:=fun σ H0 R0 H R E D dn dr=>by
  obtain ⟨a,vs,ea,ha,hR,pp⟩:=E.ent i _ hΓ
  refine sS (fz (jy PySem.F.plainAttrs_list PySem.F.slot_list_append PySem.F.type_list_append lh (a9 hN hv hd hcd) (ba aH bU hs) hbase hfew hline hs rfl) hsw) ?_
  refine ⟨.ref a,at_of ea,.inl ⟨rfl,vs,aX.of ha⟩,he σ H0 R0 H R E _ fun v H1 R1 E1 s1 e1=>?_⟩
  obtain ⟨a',vs',ea',ha',hR',pp'⟩:=E1.ent i _ hΓ1
  rw [ea] at ea';cases ea'
  refine ⟨a,vs',v,rfl,rfl,ha',by rw [pp'.length];exact hz,?_⟩
  exact dn σ _ R1 _ (E1.upd (en:=.mu r (xs++[y])) hΓ1 rfl ea hR' ⟨a,_,rfl,ay,hR',bO pp' (.cons e1 .nil)⟩) s1 h
theorem jE {F:α→β→Prop}{v:α}{y:β}(h:F v y):∀{vs:List α} {xs:List β} (i:Nat),PySem.Paired F vs xs→PySem.Paired F (vs.set i v) (xs.set i y)
  | _,_,_,.nil=>.nil
  | _,_,0,.cons _ t=>.cons h t
  | _,_,i + 1,.cons q t=>.cons q (jE h i t)
theorem nW (i:Nat){x:Str}{b e:Expr}{p1 p2 pos:Pos}{r:Rep α}{xs:List α}{y:α}{k:Int}{j:Nat}(he:EV X e Γ r y Γ1)(hb:EV X b Γ1 ab k Γ2)(hΓ1:Γ1[i]?=some (.mu r xs))(hΓ2:Γ2[i]?=some (.mu r xs))(hj:fg xs.length k=some j)(h:N (Γ2.set i (.mu r (xs.set j y))))
    (hN:autoParam (X.N[i]?=some x) Fc.ag) (hv:autoParam (cv X.env.scope x) Fc.bW)
    (hd:autoParam ((x==("__debug__":Str))=false) Fc.aw) (hcd:autoParam ((x==("__classdict__":Str))=false) Fc.aw)
    (ha:autoParam (∀v,assign (.Subscript (.Name x p1) b p2) X.env v=(do
      let ov ← holding [v] (eval (.Name x p1) X.env)
      let iv ← holding [v,ov] (eval b X.env)
      standAt p2
      holding [v,ov,iv] (setItem ov iv v)
      release [v,ov,iv] [])) Fc.cJ)
    (hs:autoParam (swapsWithSole [.Subscript (.Name x p1) b p2] e pos.line X.env=pure false) Fc.ag) (hw:autoParam (swappedStores [.Subscript (.Name x p1) b p2] e X.env=pure none) Fc.ag) (h1:autoParam ((assignEach [.Subscript (.Name x p1) b p2] X.env).map (·.2)=[assign (.Subscript (.Name x p1) b p2) X.env]) Fc.ag):
    W1 X (.Assign [.Subscript (.Name x p1) b p2] e pos) Γ N T:=fun σ H0 R0 H R E D dn dr=>by
  refine sS (fO aH (j5 (a9 hN hv hd hcd) aH set_list ha) hs hw h1) (he σ H0 R0 H R E _ fun v H1 R1 E1 s1 e1=>?_)
  obtain ⟨a,vs,ea,hp,hR,pp⟩:=E1.ent i _ hΓ1
  refine ⟨.ref a,at_of ea,hb σ H0 R0 H1 R1 E1 _ fun u H2 R2 E2 s2 e2=>?_⟩
  obtain ⟨a',vs',ea',ha',hR',pp'⟩:=E2.ent i _ hΓ2
  rw [ea] at ea';cases ea'
  refine ⟨a,vs',k,j,rfl,e2,ha',by rw [pp'.length];exact hj,?_⟩
  exact dn σ _ R2 _ (E2.upd (en:=.mu r (xs.set j y)) hΓ2 rfl ea hR' ⟨a,_,rfl,ay,hR',jE (r.mono s2 e1) j pp'⟩) (s1.trans s2) h
theorem jD {F:α→β→Prop}{vs:List α}{xs:List β}(p:PySem.Paired F vs xs):PySem.Paired F vs.dropLast xs.dropLast:=by
  rw [List.dropLast_eq_take,List.dropLast_eq_take,p.length]
  exact eN _ p
theorem yp (i:Nat){x:Str}{p1 ap cp:Pos}{r:Rep α}{xs:List α}{y:α}(hΓ:Γ[i]?=some (.mu r xs))(hy:xs[xs.length - 1]?=some y)
    (hN:autoParam (X.N[i]?=some x) Fc.ag) (hv:autoParam (cv X.env.scope x) Fc.bW)
    (hd:autoParam ((x==("__debug__":Str))=false) Fc.aw) (hcd:autoParam ((x==("__classdict__":Str))=false) Fc.aw)
    (hbase:autoParam (attributeBase (.Name x p1) "pop" X.env (eval (.Name x p1) X.env)=eval (.Name x p1) X.env) Fc.ag) (hline:autoParam ((ap.endLine==cp.line)=true) Fc.ag):
    EV X (.Call (.Attribute (.Name x p1) "pop" ap) [] [] cp) Γ r y (Γ.set i (.mu r xs.dropLast)):=by
  intro σ H0 R0 H R E Q q
  obtain ⟨a,vs,ea,ha,hR,pp⟩:=E.ent i _ hΓ
  obtain ⟨v,hv',hr⟩:=dZ pp hy
  refine eS (xf PySem.F.plainAttrs_list PySem.F.slot_list_pop PySem.F.type_list_pop yi (a9 hN hv hd hcd) hbase hline) ⟨.ref a,at_of ea,.inl ⟨rfl,vs,aX.of ha⟩,?_⟩
  refine ⟨a,vs,v,rfl,rfl,ha,by rw [pp.length];exact hv',?_⟩
  exact q v _ R (E.upd hΓ rfl ea hR ⟨a,_,rfl,ay,hR,jD pp⟩) (ak.refl _) hr
theorem wN (i:Nat){x:Str}{pos:Pos}{r:Rep α}{xs:List α}(hΓ:Γ[i]?=some (.mu r xs))(hN:autoParam (X.N[i]?=some x) Fc.ag)(hv:autoParam (cv X.env.scope x) Fc.bW)
    (hd:autoParam ((x==("__debug__":Str))=false) Fc.aw) (hcd:autoParam ((x==("__classdict__":Str))=false) Fc.aw)
    (he:autoParam (∀whole,isTrue (.Name x pos) X.env whole=(do let v ← whole;standAt (Expr.Name x pos).pos;holding [v] (truthy v))) Fc.cJ):TV X (.Name x pos) Γ (!xs.isEmpty) Γ:=by
  intro σ H0 R0 H R E Q q
  obtain ⟨a,vs,ea,ha,hR,pp⟩:=E.ent i _ hΓ
  refine tS (nc (a9 hN hv hd hcd) he) ⟨.ref a,at_of ea, !xs.isEmpty,.inl ⟨vs,aX.of ha,?_⟩,q H R E (ak.refl _)⟩
  cases pp<;>rfl
theorem gE (i:Nat){x:Str}{p1 p pos:Pos}{r:Rep α}{xs:List α}(hm:X.mg "len"=none)(hΓ:Γ[i]?=some (.mu r xs))(hN:autoParam (X.N[i]?=some x) Fc.ag)(hv:autoParam (cv X.env.scope x) Fc.bW)
    (hd:autoParam ((x==("__debug__":Str))=false) Fc.aw) (hcd:autoParam ((x==("__classdict__":Str))=false) Fc.aw) (hg:autoParam (Gl X "len") Fc.ag):EV X (.Call (.Name "len" p) [.Name x p1] [] pos) Γ ab (xs.length:Int) Γ:=by
  intro σ H0 R0 H R E Q q
  obtain ⟨a,vs,ea,ha,hR,pp⟩:=E.ent i _ hΓ
  refine eS (dk dF hg hm PySem.boot_len (ba (a9 hN hv hd hcd) bU rfl) (by decide) (by decide) rfl) ⟨.ref a,at_of ea,a,vs,rfl,.inl (aX.of ha),?_⟩
  rw [pp.length]
  exact q _ H R E (ak.refl _) rfl
theorem freeze {K:PySem.W.Frag}{σ:St}{H0 R0 H R:Hp}(E:aj K σ H0 R0 H R Γ){i:Nat}{r:Rep α}{xs:List α}(hΓ:Γ[i]?=some (.mu r xs))(hz:xs.length≤sizeLine):∃R' v,aj K σ H0 R0 H R' (Γ.set i (.im (af r) xs))∧ak R R'∧(σ[i]?).join=some v∧(af r).R K R' v xs:=by
  obtain ⟨a,vs,ea,ha,hR,pp⟩:=E.ent i _ hΓ
  have h0:H0 a=none:=E.new i _ a hΓ rfl ea
  have s2:ak R (upd R a (.lst vs)):=ak.fresh hR _
  have rr:(af r).R K (upd R a (.lst vs)) (.ref a) xs:=⟨a,vs,rfl,ay,Paired.map (fun _ _=>r.mono s2) pp,hz⟩
  have E1:aj K σ H0 R0 H R (Γ.set i .no):=E.tell hΓ trivial fun b w=>by cases w
  have E2:=E1.jS ha hR h0 fun j e q w=>by
    rcases set_at q with ⟨rfl,rfl,_⟩ | ⟨hj,q1⟩
    · cases w
    · exact hj (E.ds j i e _ a q1 hΓ w ((Ent.jZ (e:=.mu r xs) rfl).mpr ea))
  have hl:i < Γ.length:=(List.getElem?_eq_some_iff.mp hΓ).1
  have E3:=E2.tell (i:=i) (e0:=.no) (en:=.im (af r) xs) (List.getElem?_set_self hl) ⟨_,ea,rr⟩ fun b w=>by cases w
  rw [List.set_set] at E3
  exact ⟨_,.ref a,E3,s2,ea,rr⟩
theorem WS.freeze (i:Nat){sts:List Stmt}{r:Rep α}{xs:List α}(hΓ:Γ[i]?=some (.mu r xs))(hz:xs.length≤sizeLine)(h:WS X sts (Γ.set i (.im (af r) xs)) N T):WS X sts Γ N T:=fun σ H0 R0 H R E D dn dr=>by
  obtain ⟨R',v,E',s',_,_⟩:=Fc.freeze E hΓ hz
  exact h σ H0 R0 H R' E' D (fun σ2 H2 R2 Γ2 E2 s2=>dn σ2 H2 R2 Γ2 E2 (s'.trans s2)) dr
noncomputable def kc:Rep (List (Int×V)):=⟨fun K H v kvs=>∃a,v= .ref a∧H a=some (.dK (cB kvs)),fun s ⟨a,e,q⟩=>⟨a,e,s _ _ q⟩⟩
noncomputable def dN (kvs:List (Int×V))(k:Int):Bool:=kvs.any fun p=>decide (p.1=k)
theorem gz (kvs:List (Int×V))(k:Int):(cy (cB kvs) (Sum.inl k:Key)).isSome=dN kvs k:=by
  rw [← dU]
  unfold cB dN
  rw [List.any_map]
  congr 1
  funext p
  show decide ((Sum.inl p.1:Key)=Sum.inl k)=decide (p.1=k)
  by_cases h:p.1=k
  · rw [h];simp
  · rw [decide_eq_false h,decide_eq_false fun z=>h (Sum.inl.inj z)]
noncomputable def lR (X:Cx)(e:Expr)(Γ:Ga)(k:Int):Prop:=∀(σ:St) (H0 R0 H R:Hp),aj X.K σ H0 R0 H R Γ→∀(H':Hp) (Q:VK),Q (.int k) H'→c4 X e σ H' Q
theorem lg {i:Int}{j:Nat}{pos:Pos}:lR X (.Constant (.int i) j pos) Γ i:=fun σ H0 R0 H R E H' Q q=>eS dm q
theorem oT (i:Nat){x:Str}{pos:Pos}{y:Int}(hΓ:Γ[i]?=some (.im ab y))(hN:autoParam (X.N[i]?=some x) Fc.ag)(hv:autoParam (cv X.env.scope x) Fc.bW)
    (hd:autoParam ((x==("__debug__":Str))=false) Fc.aw) (hcd:autoParam ((x==("__classdict__":Str))=false) Fc.aw):lR X (.Name x pos) Γ y:=fun σ H0 R0 H R E H' Q q=>by
  obtain ⟨v,e,h⟩:=E.ent i _ hΓ
  cases h
  exact eS (a9 hN hv hd hcd) ⟨_,at_of e,q⟩
theorem iI (i:Nat){x:Str}{ke ve:Expr}{p1 p2 pos:Pos}{k:Int}{v:V}(hk:lR X ke Γ k)(hv:PE X ve (tC v))(h:N (Γ.set i (.di [(k,v)])))
    (hN:autoParam (X.N.Nodup) Fc.dO) (hi:autoParam (X.N[i]?=some x) Fc.ag) (hx:autoParam (Loc X.env.scope x) Fc.dh)
    (hs:autoParam (swapsWith (.Dict [some ke] [ve] p2) (some (.Name x p1)) pos.line X.env=pure false) Fc.ag) (hf:autoParam (X.fn x=true∨X.env.scope.names.lookup x=some .local) Fc.fe):
    W1 X (.Assign [.Name x p1] (.Dict [some ke] [ve] p2) pos) Γ N T:=fun σ H0 R0 H R E D dn dr=>by
  refine sS (fP hN hi hx (vC (sr aH hv uL) rfl rfl (by simp) (by simp)) hs hf) fun p hp=>?_
  refine hk σ H0 R0 H R E _ _ ?_
  refine ⟨ay,[(Sum.inl k,v)],rfl,(by show 1≤15;decide),?_⟩
  have E1:=E.grow (Ext.cO E.sub hp (.dK (cB [(k,v)])))
  have e:upd (upd H p (.dK [])) p (.dK (gA [] [(Sum.inl k,v)]))=upd H p (.dK (cB [(k,v)])):=by
    rw [vm];rfl
  rw [e]
  exact dn _ _ R _ (E1.pI (u:=.dK (cB [(k,v)])) (en:=.di [(k,v)]) i ⟨p,rfl,ay,E.sub.free hp⟩ (E.ext.h.free hp) fun j e _ q w=>E.off hp j e q w) (ak.refl _) h
theorem iG (i:Nat)(neg:Bool){x:Str}{e:Expr}{p1 pos:Pos}{kvs:List (Int×V)}{k:Int}(hu:X.A.units + 1 < cLine)(he:EV X e Γ ab k Γ)(hΓ:Γ[i]?=some (.di kvs))(hN:autoParam (X.N[i]?=some x) Fc.ag)(hv:autoParam (cv X.env.scope x) Fc.bW)
    (hd:autoParam ((x==("__debug__":Str))=false) Fc.aw) (hcd:autoParam ((x==("__classdict__":Str))=false) Fc.aw):
    TV X (.Compare e [if neg then .NotIn else .In] [.Name x p1] pos) Γ (if neg then !dN kvs k else dN kvs k) Γ:=by
  intro σ H0 R0 H R E Q q
  cases neg with
  | false=>
    refine tS (qo (mH hu aH (a9 hN hv hd hcd)) (by with_unfolding_all rfl)) (he σ H0 R0 H R E _ fun v H1 R1 E1 s1 e1=>?_)
    obtain ⟨a,ea,ha,hR⟩:=E1.ent i _ hΓ
    cases e1
    refine ⟨.ref a,at_of ea,a,_,rfl,dQ.k (k:=Sum.inl k) ha,_,rfl,?_⟩
    rw [gz]
    exact q H1 R1 E1 s1
  | true=>
    refine tS (qo (qJ hu aH (a9 hN hv hd hcd)) (by with_unfolding_all rfl)) (he σ H0 R0 H R E _ fun v H1 R1 E1 s1 e1=>?_)
    obtain ⟨a,ea,ha,hR⟩:=E1.ent i _ hΓ
    cases e1
    refine ⟨.ref a,at_of ea,a,_,rfl,dQ.k (k:=Sum.inl k) ha,_,rfl,?_⟩
    rw [gz]
    exact q H1 R1 E1 s1
theorem pX (i:Nat){x:Str}{ke ve:Expr}{p1 p2 pos:Pos}{k:Int}{v:V}{kvs:List (Int×V)}(hu:X.A.units + 1 < cLine)(hk:EV X ke Γ ab k Γ)(hv:PE X ve (tC v))(hΓ:Γ[i]?=some (.di kvs))(hn:dN kvs k=false)(hz:kvs.length < sizeLine)(h:N (Γ.set i (.di (kvs++[(k,v)]))))
    (hN:autoParam (X.N[i]?=some x) Fc.ag) (hvi:autoParam (cv X.env.scope x) Fc.bW)
    (hd:autoParam ((x==("__debug__":Str))=false) Fc.aw) (hcd:autoParam ((x==("__classdict__":Str))=false) Fc.aw)
    (hs:autoParam (swapsWith ve (some (.Subscript (.Name x p1) ke p2)) pos.line X.env=pure false) Fc.ag):W1 X (.Assign [.Subscript (.Name x p1) ke p2] ve pos) Γ N T:=fun σ H0 R0 H R E D dn dr=>by
  refine sS (n6 hu (a9 hN hvi hd hcd) aH hv hs) ?_
  obtain ⟨a,ea,ha,hR⟩:=E.ent i _ hΓ
  refine ⟨.ref a,at_of ea,hk σ H0 R0 H R E _ fun u H1 R1 E1 s1 e1=>?_⟩
  obtain ⟨a',ea',ha',hR'⟩:=E1.ent i _ hΓ
  rw [ea] at ea';cases ea'
  cases e1
  refine ⟨a,_,rfl,kH.k (k:=Sum.inl k) ha' (by unfold cB;rw [List.length_map];exact hz),?_⟩
  have vn:cy (cB kvs) (Sum.inl k:Key)=none:=by
    have:=gz kvs k
    rw [hn] at this
    cases q:cy (cB kvs) (Sum.inl k:Key) with
    | none=>rfl
    | some z=>rw [q] at this;cases this
  rw [sD v vn]
  have e:cB kvs++[((Sum.inl k:Key),v)]=cB (kvs++[(k,v)]):=by unfold cB;rw [List.map_append];rfl
  rw [e]
  exact dn σ _ R1 _ (E1.upd (en:=.di (kvs++[(k,v)])) hΓ rfl ea hR' ⟨a,rfl,ay,hR'⟩) s1 h
theorem wC (i:Nat){x:Str}{p1 pos:Pos}{P:List (Int×V)→Prop}{kvs:List (Int×V)}(hΓ:Γ[i]?=some (.di kvs))(h:P kvs)(hN:autoParam (X.N[i]?=some x) Fc.ag)(hv:autoParam (cv X.env.scope x) Fc.bW)
    (hd:autoParam ((x==("__debug__":Str))=false) Fc.aw) (hcd:autoParam ((x==("__classdict__":Str))=false) Fc.aw):W1 X (.Return (some (.Name x p1)) pos) Γ N (bP X.K kc P):=fun σ H0 R0 H R E D dn dr=>by
  obtain ⟨a,ea,ha,hR⟩:=E.ent i _ hΓ
  have h0:H0 a=none:=E.new i _ a hΓ rfl ea
  refine sS (dB (a9 hN hv hd hcd)) ⟨.ref a,at_of ea,dr _ H (upd R a (.dK (cB kvs))) ⟨E.ext.h,E.ext.r.trans (ak.fresh hR _),fun b o qb=>?_,fun b hb=>?_⟩ ⟨kvs,⟨a,rfl,ay⟩,h⟩⟩
  · by_cases hb:b=a
    · subst hb;rw [ay] at qb;cases qb;exact ha
    · rw [aD hb] at qb;exact E.ext.s b o qb
  · rw [aD (show b≠a from fun e=>hb (by rw [e];exact h0))];exact E.ext.old b hb
theorem kL {a:Expr}{p pos:Pos}{kvs:List (Int×V)}(hm:X.mg "len"=none)(ha:EV X a Γ kc kvs Γ1)(hs:autoParam (starEach [a] X.env=[(false,eval a X.env)]) Fc.ag)(hg:autoParam (Gl X "len") Fc.ag):EV X (.Call (.Name "len" p) [a] [] pos) Γ ab (kvs.length:Int) Γ1:=by
  intro σ H0 R0 H R E Q q
  refine eS (dk qL hg hm PySem.boot_len (ba aH bU hs) (by decide) (by decide) hs) (ha σ H0 R0 H R E _ fun v H1 R1 E1 s1 e1=>?_)
  obtain ⟨p,rfl,hp⟩:=e1
  refine ⟨p,_,rfl,E1.sub _ _ hp,?_⟩
  unfold cB
  rw [List.length_map]
  exact q _ H1 R1 E1 s1 rfl
theorem ia (i:Nat){x:Str}{p1:Pos}{r:Rep α}{xs:List α}(hΓ:Γ[i]?=some (.mu r xs))(hz:xs.length≤sizeLine)(hN:autoParam (X.N[i]?=some x) Fc.ag)(hv:autoParam (cv X.env.scope x) Fc.bW)
    (hd:autoParam ((x==("__debug__":Str))=false) Fc.aw) (hcd:autoParam ((x==("__classdict__":Str))=false) Fc.aw):EV X (.Name x p1) Γ (af r) xs (Γ.set i (.im (af r) xs)):=by
  intro σ H0 R0 H R E Q q
  obtain ⟨R',v,E',s',ev,hr⟩:=Fc.freeze E hΓ hz
  exact eS (a9 hN hv hd hcd) ⟨v,at_of ev,q v H R' E' s' hr⟩
end
noncomputable abbrev bS:=PySem.W.Frag→List Pk→RT→Prop
noncomputable def aG (S:bS)(K:PySem.W.Frag):Sp:=fun vs H Q _=>∃R ps T,ak R H∧fX K R vs ps∧S K ps T∧∀v H' R',Ext H R H' R'→T H v H' R'→Q v H'
theorem fX.length {K:PySem.W.Frag}{R:Hp}:∀{vs:List V} {ps:List Pk},fX K R vs ps→vs.length=ps.length
  | _,_,.nil=>rfl
  | _,_,.cons _ t=>by rw [List.length_cons,List.length_cons,fX.length t]
structure aA (P:Program) (w:World) (K:PySem.W.Frag) (mg:Str→Option Value) (base:Heap) (x:Str) (k:Nat) (sp:Sp):Prop where
  ex:∃f fd ps,dR P w K mg base eo k f fd ps sp∧mg x=some (.ref f)∧PySem.W.keepIn K (.ref f)=true∧Binds K fd ps []
theorem aA.mono {P:Program}{w:World}{K:PySem.W.Frag}{mg:Str→Option Value}{base:Heap}{x:Str}{j k:Nat}{sp:Sp}(c:aA P w K mg base x j sp)(h:j≤k):aA P w K mg base x k sp:=by
  obtain ⟨f,fd,ps,F,a,b,c⟩:=c.ex
  exact ⟨f,fd,ps,F.mono h,a,b,c⟩
section
variable {X:Cx}{Γ Γ1 Γ2 Γ3:Ga}{α β γ δ:Type}{N:Ga→Prop}{T:RT}
theorem c5 {S:bS}{x:Str}{k:Nat}{e:Expr}{es:List Expr}{p pos:Pos}{ps:List Pk}{Q:VK}{σ:St}{H0 R0 H R:Hp}(C:aA X.prog X.w X.K X.mg X.base x k (aG S X.K))(hr:bN k X.A)(ha:HA X (e::es) Γ ps Γ1)(hS:S X.K ps T)(E:aj X.K σ H0 R0 H R Γ)
    (q:∀H1 R1 v H' R',aj X.K σ H0 R0 H1 R1 Γ1→ak R R1→Ext H1 R1 H' R'→T H1 v H' R'→Q v H')
    (hg:Gl X x) (hdb:(x==("__debug__":Str))=false) (he:starEach (e::es) X.env=(false,eval e X.env)::starEach es X.env) (hpl:(backTo pos (starEach es X.env)).any (·.1)=false):c4 X (.Call (.Name x p) (e::es) [] pos) σ H Q:=by
  obtain ⟨f,fd,pn,F,hm,hk,hb⟩:=C.ex
  refine eS (kE F hr hg hm hk hb .nil oH jz hdb he hpl) (ha σ H0 R0 H R E _ fun vs H1 R1 E1 s1 p1=>?_)
  refine ⟨R1,ps,T,E1.sub,by rw [List.append_nil];exact p1,hS,fun v H' R' x t=>q H1 R1 v H' R' E1 s1 x t⟩
theorem aP {S:bS}{x:Str}{k:Nat}{e:Expr}{es:List Expr}{p pos:Pos}{ps:List Pk}{r:Rep α}{y:α}(C:aA X.prog X.w X.K X.mg X.base x k (aG S X.K))(hr:bN k X.A)(ha:HA X (e::es) Γ ps Γ1)(hS:S X.K ps (bP X.K r (· =y)))
    (hg:autoParam (Gl X x) Fc.ag) (hdb:autoParam ((x==("__debug__":Str))=false) Fc.aw) (he:autoParam (starEach (e::es) X.env=(false,eval e X.env)::starEach es X.env) Fc.ag) (hpl:autoParam ((backTo pos (starEach es X.env)).any (·.1)=false) Fc.ag):EV X (.Call (.Name x p) (e::es) [] pos) Γ r y Γ1:=fun σ H0 R0 H R E Q q=>
  c5 C hr ha hS E (fun H1 R1 v H' R' E1 s1 xx t=>by
    obtain ⟨z,e1,rfl⟩:=t
    exact q v H' R' (E1.grow xx) (s1.trans xx.r) e1) hg hdb he hpl
theorem fQ {S:bS}{x:Str}{k:Nat}{e:Expr}{es:List Expr}{p pos:Pos}{ps:List Pk}{r:Rep α}{ys:List α}(C:aA X.prog X.w X.K X.mg X.base x k (aG S X.K))(hr:bN k X.A)(ha:HA X (e::es) Γ ps Γ1)(hS:S X.K ps (hU X.K r (· =ys)))
    (hg:autoParam (Gl X x) Fc.ag) (hdb:autoParam ((x==("__debug__":Str))=false) Fc.aw) (he:autoParam (starEach (e::es) X.env=(false,eval e X.env)::starEach es X.env) Fc.ag) (hpl:autoParam ((backTo pos (starEach es X.env)).any (·.1)=false) Fc.ag):bb X (.Call (.Name x p) (e::es) [] pos) Γ r ys Γ1:=fun σ H0 R0 H R E Q q=>
  c5 C hr ha hS E (fun H1 R1 v H' R' E1 s1 xx t=>by
    obtain ⟨a,vs,zs,rfl,h0,h1,h2,p,z,rfl⟩:=t
    exact q a vs H' R' (E1.grow xx) (s1.trans xx.r) h1 h2 (E1.ext.h.free h0) (E1.off h0) p z) hg hdb he hpl
end
noncomputable def du (ps:List Pk)(n:Nat):Ga:=ps.map (fun p=>Ent.im p.r p.x)++List.replicate (n - ps.length) .no
theorem eV {K:PySem.W.Frag}{R H:Hp}{vs:List V}{ps:List Pk}{N:List Str}(s:ak R H)(p:fX K R vs ps)(hl:ps.length≤N.length):aj K (L2.start N vs) H R H R (du ps N.length):=by
  have noown:∀(i:Nat) (e:Ent) (o:Option V),(du ps N.length)[i]?=some e→e.fp o=[]:=fun i e o q=>by
    unfold du at q
    rcases List.mem_append.mp (List.mem_of_getElem? q) with z | z
    · obtain ⟨p,_,rfl⟩:=List.mem_map.mp z;rfl
    · obtain ⟨_,rfl⟩:=List.mem_replicate.mp z;rfl
  refine ⟨Ext.refl s,fun i e q=>?_,fun i e a q w=>absurd w (by rw [noown i e _ q];exact List.not_mem_nil),fun i j e e' a q _ w=>absurd w (by rw [noown i e _ q];exact List.not_mem_nil),?_⟩
  · have hp:=p.length
    unfold du at q
    unfold L2.start
    by_cases hi:i < ps.length
    · rw [List.getElem?_append_left (by simpa using hi),List.getElem?_map] at q
      rw [List.getElem?_append_left (by simpa [hp] using hi),List.getElem?_map]
      have key:∀{vs:List V} {ps:List Pk},fX K R vs ps→∀(i:Nat) (p:Pk),ps[i]?=some p→∃v,vs[i]?=some v∧p.r.R K R v p.x:=by
        intro vs ps h
        induction h with
        | nil=>intro i p e;simp at e
        | cons a b ih=>
          intro i p e
          cases i with
          | zero=>simp at e;subst e;exact ⟨_,rfl,a⟩
          | succ i=>simpa using ih i p (by simpa using e)
      cases e1:ps[i]? with
      | none=>rw [e1] at q;cases q
      | some p1=>
        rw [e1] at q
        cases q
        obtain ⟨v,h1,h2⟩:=key p i p1 e1
        rw [h1]
        exact ⟨v,rfl,h2⟩
    · rw [List.getElem?_append_right (by simpa using hi),List.getElem?_replicate] at q
      split at q
      · cases q;trivial
      · cases q
  · unfold du L2.start
    rw [List.length_append,List.length_append,List.length_map,List.length_map,List.length_replicate,List.length_replicate,p.length]
section
variable {P:Program}{w:World}{K:PySem.W.Frag}{mg:Str→Option Value}{base:Heap}
theorem bJ {S:bS}{x qual:Str}{st:Stmt}{f:Addr}{fd:FuncData}{N ps:List Str}{k:Nat}(F:bL K x qual st f fd)(Sc:aE N ps (ah st))(hm:mg x=some (.ref f))(hb:Binds K fd ps [])(len:∀qs T,S K qs T→qs.length=ps.length)
    (hbody:∀(cdv:Value) (A:Around) (outer:List Env) (s:Shared) (H:Hp) (E:XK) (qs:List Pk) (T:RT),bN k (A.deeper (envOfC qual (ah st) s.heap.objs.size f cdv))→S K qs T→
      WS (ef eo P w K mg base N qual (ah st) f cdv A outer s H E).g7 (cq st) (du qs N.length) (fun _=>False) T):aA P w K mg base x (k + 1) (aG S K):=by
  refine ⟨f,fd,ps,?_,hm,F.kp,hb⟩
  refine F.ok Sc (fun vs H Q E h=>?_) (fun cdv A outer s H vs Q E hr h=>?_)
  · obtain ⟨R,qs,T,_,p,hS,_⟩:=h
    rw [p.length];exact len qs T hS
  · obtain ⟨R,qs,T,sR,p,hS,q⟩:=h
    have hl:qs.length≤N.length:=by
      rw [len qs T hS]
      have:=congrArg List.length Sc.pre
      rw [List.length_take] at this
      omega
    exact ⟨_,fH,hbody cdv A outer s H E qs T hr hS (L2.start N vs) H R H R (eV sR p hl) {nx:=fun _ H'=>Q .non H',rt:=Q} (fun _ _ _ _ _ _ f=>f.elim) fun v H' R' xx t=>q v H' R' xx t⟩
end
section
variable {X:Cx}{Γ Γ1 Γ2 Γ3:Ga}{α β γ δ:Type}{N:Ga→Prop}{T:RT}
theorem mT {bs:List Bool}{us:List Value}(r:Vals (bs.map V.bl) us){j:Nat}{v:Value}(h:us.toArray[j]?=some v):v= .bool (bs.getD j true):=by
  induction bs generalizing us j with
  | nil=>cases r;simp at h
  | cons b r' ih=>
    cases r with
    | cons h1 t=>
      cases j with
      | zero=>simp at h;rw [← h];exact h1
      | succ j=>exact ih t (by simpa using h)
theorem all_range (bs:List Bool):((List.range bs.length).all fun j=>bs.getD j true)=bs.all id:=by
  rw [Bool.eq_iff_iff,List.all_eq_true,List.all_eq_true]
  constructor
  · intro h b hb
    obtain ⟨j,hj,rfl⟩:=List.mem_iff_getElem.mp hb
    have:=h j (List.mem_range.mpr hj)
    simpa [List.getD_eq_getElem?_getD,List.getElem?_eq_getElem hj] using this
  · intro h j hj
    have hj:=List.mem_range.mp hj
    simpa [List.getD_eq_getElem?_getD,List.getElem?_eq_getElem hj] using h _ (List.getElem_mem hj)
theorem any_range (bs:List Bool):((List.range bs.length).any fun j=>bs.getD j true)=bs.any id:=by
  rw [Bool.eq_iff_iff,List.any_eq_true,List.any_eq_true]
  constructor
  · rintro ⟨j,hj,h⟩
    have hj:=List.mem_range.mp hj
    exact ⟨_,List.getElem_mem hj,by simpa [List.getD_eq_getElem?_getD,List.getElem?_eq_getElem hj] using h⟩
  · rintro ⟨b,hb,h⟩
    obtain ⟨j,hj,rfl⟩:=List.mem_iff_getElem.mp hb
    exact ⟨j,List.mem_range.mpr hj,by simpa [List.getD_eq_getElem?_getD,List.getElem?_eq_getElem hj] using h⟩
theorem sd (hc:X.calm=true):c6 X (.builtin "all") (fun xs H Q=>∃(p:Addr) (bs:List Bool),xs=[.ref p]∧aX X.K H p (bs.map V.bl)∧Q (.bl (bs.all id)) H):=by
  intro pins s σ H xs us Q I r h
  obtain ⟨p,bs,rfl,hq,q⟩:=h
  obtain ⟨u,rfl,rx⟩:=vals1 r
  cases rx
  obtain ⟨its,r',pl,hz⟩:=I.list hq
  have hne:p≠s.heap.objs.size:=fun e=>by obtain ⟨o,ho,_⟩:=pl.isList;exact absurd (Heap.lt_size ho) (by rw [e];exact Nat.lt_irrefl _)
  refine call_all_walk (wpAny_pyIter_list pl.isList ?_)
  refine ⟨s.heap.objs.size,_,[s.heap.objs.size],its.toArray.size,_,_,fun j=>bs.getD j true,rfl,Walks.list (A:=X.A.in1) (show X.A.in1.handled=none from I.ok.hd hc) s.heap.objs.size p hne its.toArray,?_,fun j v s Q E hv hQ=>?_,fun h' tk hk=>?_⟩
  · refine ⟨⟨_,Heap.get?_push_size _ rfl,rfl,rfl⟩,?_⟩
    obtain ⟨o,ho,c,n,d⟩:=pl.isList
    exact ⟨o,Heap.get?_push_of_some _ ho,c,n,d⟩
  · rw [mT r' hv];exact wpAny_truthy_bool hQ
  · have e:its.toArray.size=bs.length:=by rw [List.size_toArray,← r'.length,List.length_map]
    rw [e,all_range]
    exact ⟨.bl _,H,I.kept fun b o e=>hk b o (fun z=>absurd (Heap.lt_size e) (by rw [List.mem_singleton.mp z];exact Nat.lt_irrefl _)) (Heap.get?_push_of_some _ e),rfl,q⟩
theorem sX (hc:X.calm=true):c6 X (.builtin "any") (fun xs H Q=>∃(p:Addr) (bs:List Bool),xs=[.ref p]∧aX X.K H p (bs.map V.bl)∧Q (.bl (bs.any id)) H):=by
  intro pins s σ H xs us Q I r h
  obtain ⟨p,bs,rfl,hq,q⟩:=h
  obtain ⟨u,rfl,rx⟩:=vals1 r
  cases rx
  obtain ⟨its,r',pl,hz⟩:=I.list hq
  have hne:p≠s.heap.objs.size:=fun e=>by obtain ⟨o,ho,_⟩:=pl.isList;exact absurd (Heap.lt_size ho) (by rw [e];exact Nat.lt_irrefl _)
  refine call_any_walk (wpAny_pyIter_list pl.isList ?_)
  refine ⟨s.heap.objs.size,_,[s.heap.objs.size],its.toArray.size,_,_,fun j=>bs.getD j true,rfl,Walks.list (A:=X.A.in1) (show X.A.in1.handled=none from I.ok.hd hc) s.heap.objs.size p hne its.toArray,?_,fun j v s Q E hv hQ=>?_,fun h' tk hk=>?_⟩
  · refine ⟨⟨_,Heap.get?_push_size _ rfl,rfl,rfl⟩,?_⟩
    obtain ⟨o,ho,c,n,d⟩:=pl.isList
    exact ⟨o,Heap.get?_push_of_some _ ho,c,n,d⟩
  · rw [mT r' hv];exact wpAny_truthy_bool hQ
  · have e:its.toArray.size=bs.length:=by rw [List.size_toArray,← r'.length,List.length_map]
    rw [e,any_range]
    exact ⟨.bl _,H,I.kept fun b o e=>hk b o (fun z=>absurd (Heap.lt_size e) (by rw [List.mem_singleton.mp z];exact Nat.lt_irrefl _)) (Heap.get?_push_of_some _ e),rfl,q⟩
theorem jm {K:PySem.W.Frag}{R:Hp}:∀{vs:List V} {xs:List Bool},PySem.Paired (aK.R K R) vs xs→vs=xs.map V.bl
  | _,_,.nil=>rfl
  | _,_,.cons h t=>by rw [List.map_cons,← jm t];exact congrArg (· ::_) h
theorem lP {x:Str}{id:String}{r:List V→Hp→VK→Prop}{a:Expr}{p pos:Pos}{ra:Rep α}{rb:Rep β}{y:α}{z:β}(hc:c6 X (.builtin id) r)(hm:X.mg x=none)(hv:bootBuiltins x=some (.builtin id))(ha:EV X a Γ ra y Γ1)
    (h:∀(R H:Hp) v Q,ak R H→ra.R X.K R v y→(∀w,rb.R X.K R w z→Q w H)→r [v] H Q) (hs:autoParam (starEach [a] X.env=[(false,eval a X.env)]) Fc.ag) (hg:autoParam (Gl X x) Fc.ag) (hn:autoParam (x≠"__name__") Fc.aw) (hdb:autoParam ((x==("__debug__":Str))=false) Fc.aw):
    EV X (.Call (.Name x p) [a] [] pos) Γ rb z Γ1:=by
  intro σ H0 R0 H R E Q q
  exact eS (dk hc hg hm hv (ba aH bU hs) hn hdb hs) (ha σ H0 R0 H R E _ fun v H1 R1 E1 s1 e1=>h R1 H1 v _ E1.sub e1 fun w hw=>q w H1 R1 E1 s1 hw)
theorem dC {a:Expr}{p pos:Pos}{bs:List Bool}(hm:X.mg "all"=none)(ha:EV X a Γ (af aK) bs Γ1)(hs:autoParam (starEach [a] X.env=[(false,eval a X.env)]) Fc.ag)(hc:autoParam (X.calm=true) Fc.ag)(hg:autoParam (Gl X "all") Fc.ag):EV X (.Call (.Name "all" p) [a] [] pos) Γ aK (bs.all id) Γ1:=
  lP (sd hc) hm boot_all ha (fun R H v Q s ⟨p,vs,e,hp,pp,_⟩ q=>⟨p,bs,by rw [e],by rw [← jm pp];exact aX.of (s _ _ hp),q _ rfl⟩) hs hg
theorem qt {a:Expr}{p pos:Pos}{bs:List Bool}(hm:X.mg "any"=none)(ha:EV X a Γ (af aK) bs Γ1)(hs:autoParam (starEach [a] X.env=[(false,eval a X.env)]) Fc.ag)(hc:autoParam (X.calm=true) Fc.ag)(hg:autoParam (Gl X "any") Fc.ag):EV X (.Call (.Name "any" p) [a] [] pos) Γ aK (bs.any id) Γ1:=
  lP (sX hc) hm boot_any ha (fun R H v Q s ⟨p,vs,e,hp,pp,_⟩ q=>⟨p,bs,by rw [e],by rw [← jm pp];exact aX.of (s _ _ hp),q _ rfl⟩) hs hg
theorem vt {a:Expr}{p pos:Pos}{b:Bool}(hm:X.mg "int"=none)(ha:EV X a Γ aK b Γ1)(hs:autoParam (starEach [a] X.env=[(false,eval a X.env)]) Fc.ag)(hg:autoParam (Gl X "int") Fc.ag):EV X (.Call (.Name "int" p) [a] [] pos) Γ ab (if b then 1 else 0) Γ1:=by
  intro σ H0 R0 H R E Q q
  exact eS (eW qa hg hm PyProof.Rows.boot_int (ba aH bU hs) (by decide) (by decide) hs) (ha σ H0 R0 H R E _ fun v H1 R1 E1 s1 e1=>.inr ⟨b,by rw [show v=V.bl b from e1],q _ H1 R1 E1 s1 rfl⟩)
theorem r9 {a:Expr}{p pos:Pos}{r:Rep α}{xs:List α}(hm:X.mg "list"=none)(ha:EV X a Γ (af r) xs Γ1)(hs:autoParam (starEach [a] X.env=[(false,eval a X.env)]) Fc.ag)(hg:autoParam (Gl X "list") Fc.ag):bb X (.Call (.Name "list" p) [a] [] pos) Γ r xs Γ1:=by
  intro σ H0 R0 H R E Q q
  refine eS (eW m9 hg hm PyProof.Rows.boot_list (ba aH bU hs) (by decide) (by decide) hs) (ha σ H0 R0 H R E _ fun v H1 R1 E1 s1 e1=>?_)
  obtain ⟨p,vs,rfl,hp,pp,z⟩:=e1
  exact ⟨p,vs,rfl,.inl (aX.of (E1.sub _ _ hp)),fun l hl=>q l vs _ R1 (E1.grow (Ext.cO E1.sub hl _)) s1 ay (E1.sub.free hl) (E1.ext.h.free hl) (E1.off hl) pp z⟩
theorem qT (hc:X.calm=true):c6 X (.builtin "max") (fun xs H Q=>∃(p:Addr) (ns:List Int),xs=[.ref p]∧aX X.K H p (ns.map V.int)∧ns≠[]∧∀M,M∈ns→(∀a∈ns,a≤M)→Q (.int M) H):=by
  intro pins s σ H xs us Q I r h
  obtain ⟨p,ns,rfl,hq,hne,q⟩:=h
  obtain ⟨u,rfl,rx⟩:=vals1 r
  cases rx
  obtain ⟨its,r',pl,hz⟩:=I.list hq
  have hi:=intsAre_of r'
  have hne:0 < ns.length:=List.length_pos_iff.mpr hne
  have hl:=pl.isList
  obtain ⟨xs,e⟩:=hi.allInts.items
  have hns:ns=xs.toList.map (·.1):=by rw [← hi.numsOf,← nums_intItems,← e]
  have hsz:0 < xs.size:=by
    have h3:=hne;rw [hns,List.length_map,Array.length_toList] at h3;exact h3
  rw [e] at hl
  refine max_intList (I.ok.hd hc) hl hsz fun v h' tk hv hk=>?_
  obtain ⟨t,rfl⟩:=intItems_at hv
  obtain ⟨h1,h2⟩:=argBest_gt (numAt xs) (xs.size - 1)
  refine ⟨.int _,H,I.kept hk,⟨t,rfl⟩,q _ ?_ fun a ha=>?_⟩
  · rw [hns,numAt_eq];exact getD_mem (by rw [List.length_map,Array.length_toList];omega)
  · rw [hns] at ha
    obtain ⟨j,hj,rfl⟩:=mem_getD ha
    rw [List.length_map,Array.length_toList] at hj
    rw [← numAt_eq];exact h2 j (by omega)
noncomputable def least:List Int→Int
  | []=>0
  | [x]=>x
  | x::y::r=>min x (least (y::r))
noncomputable def most:List Int→Int
  | []=>0
  | [x]=>x
  | x::y::r=>max x (most (y::r))
theorem fC:∀{ns:List Int} {M:Int},M∈ns→(∀a∈ns,a≤M)→most ns=M:=by
  have key:∀(ns:List Int),ns≠[]→most ns∈ns∧∀a∈ns,a≤most ns:=by
    intro ns
    induction ns with
    | nil=>intro h;exact absurd rfl h
    | cons x r ih=>
      intro _
      cases r with
      | nil=>simp [most]
      | cons y r=>
        obtain ⟨h1,h2⟩:=ih (by simp)
        show max x (most (y::r))∈_∧_
        refine ⟨?_,fun a ha=>?_⟩
        · rcases Int.le_total x (most (y::r)) with h | h
          · rw [Int.max_eq_right h];exact List.mem_cons_of_mem _ h1
          · rw [Int.max_eq_left h];exact List.mem_cons_self
        · show a≤max x (most (y::r))
          rcases List.mem_cons.mp ha with rfl | ha
          · exact Int.le_max_left _ _
          · exact Int.le_trans (h2 a ha) (Int.le_max_right _ _)
  intro ns M h1 h2
  obtain ⟨h3,h4⟩:=key ns (fun e=>by rw [e] at h1;cases h1)
  exact Int.le_antisymm (h2 _ h3) (h4 M h1)
theorem uN {a:Expr}{p pos:Pos}{ns:List Int}(hm:X.mg "max"=none)(ha:EV X a Γ (af ab) ns Γ1)(hne:ns≠[])(hs:autoParam (starEach [a] X.env=[(false,eval a X.env)]) Fc.ag)(hc:autoParam (X.calm=true) Fc.ag)(hg:autoParam (Gl X "max") Fc.ag):EV X (.Call (.Name "max" p) [a] [] pos) Γ ab (most ns) Γ1:=
  lP (qT hc) hm PyProof.Rows.boot_max ha (fun R H v Q s ⟨p,vs,e,hp,pp,_⟩ q=>⟨p,ns,by rw [e],by rw [← d2 pp];exact aX.of (s _ _ hp),hne,fun M h1 h2=>by rw [← fC h1 h2];exact q _ rfl⟩) hs hg
theorem vz {a b:Expr}{p pos:Pos}{x y:Int}(hm:X.mg "min"=none)(ha:HA X [a,b] Γ [⟨ab,x⟩,⟨ab,y⟩] Γ1)(hs:autoParam (starEach [a,b] X.env=(false,eval a X.env)::starEach [b] X.env) Fc.ag)(hc:autoParam (X.calm=true) Fc.ag)(hg:autoParam (Gl X "min") Fc.ag)(hpl:autoParam ((backTo pos (starEach [b] X.env)).any (·.1)=false) Fc.ag):EV X (.Call (.Name "min" p) [a,b] [] pos) Γ ab (if y < x then y else x) Γ1:=by
  intro σ H0 R0 H R E Q q
  refine eS (dk (qR hc) hg hm PyProof.Rows.boot_min jz (by decide) (by decide) hs hpl) (ha σ H0 R0 H R E _ fun vs H1 R1 E1 s1 p1=>?_)
  cases p1 with
  | cons a1 t=>cases t with
    | cons a2 t2=>cases t2;cases a1;cases a2;exact ⟨x,y,rfl,q _ H1 R1 E1 s1 rfl⟩
end
noncomputable def Src (K:PySem.W.Frag)(J:It)(R1:Hp){α:Type}(r:Rep α)(xs:List α):Prop:=
  ∀(H' R':Hp),ak R1 R'→ak R' H'→∀i:Nat,(∀x,xs[i]?=some x→J.go i H'∧∀v H2,J.yld i H' v H2→∃R2,Ext H' R' H2 R2∧r.R K R2 v x)∧(xs.length≤i→J.stop i H')
section
variable {X:Cx}{Γ Γ1 Γ2 Γ3:Ga}{α β γ δ:Type}{N:Ga→Prop}{T:RT}
noncomputable def IV (X:Cx)(tg iter:Expr)(Γ:Ga){α:Type}(r:Rep α)(xs:List α)(Γ1:Ga):Prop:=
  ∃wi,PI X tg iter wi∧∀(σ:St) (H0 R0 H R:Hp),aj X.K σ H0 R0 H R Γ→∀Rq:It→Hp→Prop,(∀J H1 R1,aj X.K σ H0 R0 H1 R1 Γ1→ak R R1→xs.length≤sizeLine→Src X.K J R1 r xs→Rq J H1)→wi σ H Rq
theorem aN {tg iter:Expr}{r:Rep α}{xs:List α}(h:EV X iter Γ (af r) xs Γ1):IV X tg iter Γ r xs Γ1:=by
  refine ⟨_,oh aH,fun σ H0 R0 H R E Rq q=>h σ H0 R0 H R E _ fun v H1 R1 E1 s1 e1=>?_⟩
  obtain ⟨a,vs,rfl,ha,pp,z⟩:=e1
  refine ⟨a,rfl,⟨vs,aX.of (E1.sub _ _ ha)⟩,q _ H1 R1 E1 s1 z fun H' R' sR sH i=>⟨fun x hx=>?_,fun hi=>?_⟩⟩
  · have hq:aX X.K H' a vs:=aX.of (sH _ _ (sR _ _ ha))
    obtain ⟨v,hv,hr⟩:=dZ pp hx
    refine ⟨⟨vs,v,hq,hv⟩,fun v' H2 hy=>?_⟩
    obtain ⟨rfl,hy⟩:=hy
    have:=hy vs hq
    rw [hv] at this
    cases this
    exact ⟨R',Ext.refl sH,r.mono sR hr⟩
  · exact ⟨vs,aX.of (sH _ _ (sR _ _ ha)),by rw [pp.length];exact hi⟩
noncomputable def ups (lo:Int)(n:Nat):List Int:=(List.range n).map fun (k:Nat)=>lo + (k:Int)
theorem az (lo:Int)(n:Nat):(ups lo n).length=n:=by unfold ups;rw [List.length_map,List.length_range]
theorem fL {lo:Int}{n i:Nat}{x:Int}(h:(ups lo n)[i]?=some x):i < n∧x=lo + (i:Int):=by
  have hi:i < n:=by have:=(List.getElem?_eq_some_iff.mp h).1;rwa [az] at this
  refine ⟨hi,?_⟩
  unfold ups at h
  rw [List.getElem?_map,List.getElem?_range hi] at h
  exact (Option.some.inj h).symm
theorem oE {K:PySem.W.Frag}{R1:Hp}(lo:Int)(n:Nat):Src K (qV lo n) R1 ab (ups lo n):=fun H' R' sR sH i=>⟨fun x hx=>by
  obtain ⟨h1,rfl⟩:=fL hx
  refine ⟨h1,fun v H2 hy=>?_⟩
  obtain ⟨rfl,rfl⟩:=hy
  exact ⟨R',Ext.refl sH,rfl⟩,fun hi=>by rw [az] at hi;exact hi⟩
theorem cR {tg a:Expr}{p1 p2:Pos}{n:Int}(hm:X.mg "range"=none)(ha:EV X a Γ ab n Γ1)(hn: -(2 ^ 62)≤n∧n≤1000000)(hs1:autoParam (starEach [a] X.env=[(false,eval a X.env)]) Fc.ag)(hg:autoParam (Gl X "range") Fc.ag):IV X tg (.Call (.Name "range" p1) [a] [] p2) Γ ab (ups 0 n.toNat) Γ1:=by
  refine ⟨_,qA hg hm (ba aH bU hs1) hs1,fun σ H0 R0 H R E Rq q=>ha σ H0 R0 H R E _ fun v H1 R1 E1 s1 e1=>?_⟩
  exact ⟨n,by rw [show v=V.int n from e1],hn.1,by omega,q _ H1 R1 E1 s1 (by rw [az];exact Nat.le_trans (show n.toNat≤1000000 by omega) (by decide)) (oE 0 n.toNat)⟩
theorem kR {tg a b:Expr}{p1 p2:Pos}{m n:Int}(hm:X.mg "range"=none)(ha:EV X a Γ ab m Γ1)(hb:EV X b Γ1 ab n Γ2)(hn: -1000000≤m∧m≤1000000∧ -1000000≤n∧n≤1000000)
    (hs1:autoParam (starEach [a,b] X.env=[(false,eval a X.env),(false,eval b X.env)]) Fc.ag) (hs2:autoParam (starEach [b] X.env=[(false,eval b X.env)]) Fc.ag) (hg:autoParam (Gl X "range") Fc.ag):IV X tg (.Call (.Name "range" p1) [a,b] [] p2) Γ ab (ups m (n - m).toNat) Γ2:=by
  refine ⟨_,qd hg hm (ba aH (ba aH bU hs2) (by rw [hs1,hs2])) hs1 hs2,fun σ H0 R0 H R E Rq q=>ha σ H0 R0 H R E _ fun v H1 R1 E1 s1 e1=>hb σ H0 R0 H1 R1 E1 _ fun u H2 R2 E2 s2 e2=>?_⟩
  exact ⟨m,n,by rw [show v=V.int m from e1,show u=V.int n from e2],⟨by omega,by omega,by omega,by omega⟩,q _ H2 R2 E2 (s1.trans s2) (by rw [az];exact Nat.le_trans (show (n - m).toNat≤2000000 by omega) (by decide)) (oE m (n - m).toNat)⟩
theorem cZ {tg iter:Expr}{body:List Stmt}{pos:Pos}{r:Rep α}{xs:List α}{bf:α→Ga→Ga}(I:Nat→Ga→Prop)(hit:IV X tg iter Γ r xs Γ1)(hb:BG X tg r bf)(h0:I 0 Γ1)
    (hstep:∀(i:Nat) (x:α) (Γ:Ga),xs[i]?=some x→I i Γ→WS X body (bf x Γ) (I (i + 1)) T) (hend:∀Γ:Ga,I xs.length Γ→N Γ)
    (hc:autoParam (X.calm=true) Fc.ag) (hp:PassesOwn (model X.prog X.w) X.A X.env X.xe:=by exact PassesOwn.never) (hs:autoParam (∀x,foldedSetIterable iter X.env x=pure x) Fc.cJ):W1 X (.For tg iter body [] pos) Γ N T:=fun σ H0 R0 H R E D dn dr=>by
  obtain ⟨wi,hi,hit⟩:=hit
  refine sS (rL hp hc hi tR fH hs) (hit σ H0 R0 H R E _ fun J H1 R1 E1 s1 hz src=>?_)
  refine ⟨fun i m σ' H'=>m=xs.length - i∧i≤xs.length∧∃R' Γ',aj X.K σ' H0 R0 H' R' Γ'∧ak R1 R'∧I i Γ',⟨_,rfl,Nat.zero_le _,R1,Γ1,E1,ak.refl _,h0⟩,?_⟩
  rintro i m σ' H' ⟨rfl,hle,R',Γ',E',s',hI⟩
  obtain ⟨sgo,sstop⟩:=src H' R' s' E'.sub i
  by_cases hlt:i < xs.length
  · obtain ⟨go,yl⟩:=sgo _ (List.getElem?_eq_getElem hlt)
    refine .inr ⟨go,fun σ' H'=>i + 1≤xs.length∧∃R' Γ',aj X.K σ' H0 R0 H' R' Γ'∧ak R1 R'∧I (i + 1) Γ',fun σ2 H2 h=>⟨xs.length - (i + 1),by omega,rfl,h.1,h.2⟩,fun v H2 hy=>?_⟩
    obtain ⟨R2,x2,hr⟩:=yl v H2 hy
    refine hb σ' H0 R0 H2 R2 Γ' v _ (E'.grow x2) hr _ fun σ2 E2=>?_
    exact hstep i _ Γ' (List.getElem?_eq_getElem hlt) hI σ2 H0 R0 H2 R2 E2 _ (fun σ3 H3 R3 Γ3 E3 s3 h3=>⟨hlt,R3,Γ3,E3,s'.trans (x2.r.trans s3),h3⟩) dr
  · have e:i=xs.length:=by omega
    subst e
    exact .inl ⟨sstop (Nat.le_refl _),dn σ' H' R' Γ' E' (s1.trans s') (hend Γ' hI)⟩
noncomputable def iu:Option Ent→Ent
  | some (.im r x)=>.im r x
  | _=>.no
noncomputable def bK (own:List Str)(ix:List Nat)(Γ:Ga):Ga:=List.replicate own.length .no++ix.map fun i=>iu Γ[i]?
theorem jf {K:PySem.W.Frag}{σ:St}{H0 R0 H R:Hp}(E:aj K σ H0 R0 H R Γ)(own:List Str)(ix:List Nat):aj K (cW own ix σ) H R H R (bK own ix Γ):=by
  have noown:∀(i:Nat) (e:Ent) (o:Option V),(bK own ix Γ)[i]?=some e→e.fp o=[]:=fun i e o q=>by
    unfold bK at q
    rcases List.mem_append.mp (List.mem_of_getElem? q) with z | z
    · obtain ⟨_,rfl⟩:=List.mem_replicate.mp z;rfl
    · obtain ⟨k,_,rfl⟩:=List.mem_map.mp z
      unfold iu
      split<;>rfl
  refine ⟨Ext.refl E.sub,fun i e q=>?_,fun i e a q w=>absurd w (by rw [noown i e _ q];exact List.not_mem_nil),fun i j e e' a q _ w=>absurd w (by rw [noown i e _ q];exact List.not_mem_nil),by unfold bK cW;simp⟩
  unfold bK at q
  unfold cW
  by_cases hi:i < own.length
  · rw [List.getElem?_append_left (by simpa using hi),List.getElem?_replicate] at q
    rw [if_pos hi] at q
    cases q;trivial
  · rw [List.getElem?_append_right (by simpa using hi),List.length_replicate,List.getElem?_map] at q
    rw [List.getElem?_append_right (by simpa using hi),List.length_replicate,List.getElem?_map]
    cases ek:ix[i - own.length]? with
    | none=>rw [ek] at q;cases q
    | some k=>
      rw [ek] at q
      have q':iu Γ[k]?=e:=Option.some.inj q
      subst q'
      show (iu Γ[k]?).ok K H R (σ[k]?).join
      cases eg:Γ[k]? with
      | none=>trivial
      | some e=>
        cases e with
        | im r x=>exact E.ent k _ eg
        | no=>trivial
        | mu r x=>trivial
        | di x=>trivial
        | ob x=>trivial
theorem iD {tg elt:Expr}{ifs:List Expr}{scope:Scope}{cl:List (Str×Addr)}{own fr:List Str}{ix:List Nat}{ra:Rep α}{rb:Rep β}{xs:List α}{p:α→Bool}{f:α→β}{bf:α→Ga→Ga}{J:It}{σ:St}{H0 R0 H1 R1:Hp}{Q:VK}(E1:aj X.K σ H0 R0 H1 R1 Γ1)(src:Src X.K J R1 ra xs)(hz:xs.length≤sizeLine)
    (hb:∀(C:Addr) (s:Shared) (H:Hp) (ex:List Addr),BG (ax X scope cl C (own++fr) s H ex) tg ra bf) (hw:∀x,Wk (bf x (bK own ix Γ1)) (bK own ix Γ1))
    (ht:∀(C:Addr) (s:Shared) (H:Hp) (ex:List Addr) x,x∈xs→TF (ax X scope cl C (own++fr) s H ex) ifs (bf x (bK own ix Γ1)) (p x) (bf x (bK own ix Γ1)))
    (he:∀(C:Addr) (s:Shared) (H:Hp) (ex:List Addr) x,x∈xs→p x=true→EV (ax X scope cl C (own++fr) s H ex) elt (bf x (bK own ix Γ1)) rb (f x) (bf x (bK own ix Γ1)))
    (q:∀a vs H' R',Ext H1 R1 H' R'→H' a=none→PySem.Paired (rb.R X.K R') vs ((xs.filter p).map f)→Q (.ref a) (upd H' a (.lst vs))):
    ∃ W :Nat→Nat→List V→St→Hp→Prop,(∃m,W 0 m [] (cW own ix σ) H1)∧∀i m ys σ' H',W i m ys σ' H'→
      ys.length≤sizeLine∧((J.stop i H'∧∀p,H' p=none→Q (.ref p) (upd H' p (.lst ys)))∨
      (J.go i H'∧∀x H2,J.yld i H' x H2→(fun v σ H Q=>∀C s Hh ex,eC (ax X scope cl C (own++fr) s Hh ex) tg v σ H Q:TG) x σ' H2 fun σ2 H3=>(fun σ H Q=>∀C s Hh ex,fc (ax X scope cl C (own++fr) s Hh ex) ifs σ H Q:TT) σ2 H3 fun b H4=>
        if b=true then (fun σ H Q=>∀C s Hh ex,c4 (ax X scope cl C (own++fr) s Hh ex) elt σ H Q:TE) σ2 H4 fun v H5=>∃m',m' < m∧W (i + 1) m' (ys++[v]) σ2 H5 else∃m',m' < m∧W (i + 1) m' ys σ2 H4)):=by
  refine ⟨fun i m ys σ' H'=>m=xs.length - i∧i≤xs.length∧∃R',aj X.K σ' H1 R1 H' R' (bK own ix Γ1)∧PySem.Paired (rb.R X.K R') ys (((xs.take i).filter p).map f),⟨_,rfl,Nat.zero_le _,R1,jf E1 own ix,.nil⟩,?_⟩
  rintro i m ys σ' H' ⟨rfl,hle,R',E',pp⟩
  have hys:ys.length≤sizeLine:=by
    rw [pp.length,List.length_map]
    refine Nat.le_trans (List.length_filter_le _ _) (Nat.le_trans ?_ hz)
    rw [List.length_take];omega
  obtain ⟨sgo,sstop⟩:=src H' R' E'.ext.r E'.sub i
  refine ⟨hys,?_⟩
  by_cases hlt:i < xs.length
  · obtain ⟨go,yl⟩:=sgo _ (List.getElem?_eq_getElem hlt)
    have hmem:xs[i]∈xs:=List.getElem_mem hlt
    have tk:(xs.take (i + 1))=xs.take i++[xs[i]]:=by rw [List.take_succ,List.getElem?_eq_getElem hlt];rfl
    refine .inr ⟨go,fun v H2 hy C s Hh ex=>?_⟩
    obtain ⟨R2,x2,hr⟩:=yl v H2 hy
    refine hb C s Hh ex σ' H1 R1 H2 R2 _ v _ (E'.grow x2) hr _ fun σ2 E2=>?_
    intro C s Hh ex
    refine ht C s Hh ex _ hmem σ2 H1 R1 H2 R2 E2 _ fun H4 R4 E4 s4=>?_
    cases hpx:p xs[i] with
    | false=>
      rw [if_neg Bool.false_ne_true]
      refine ⟨xs.length - (i + 1),by omega,rfl,hlt,R4,E4.weak (hw _),?_⟩
      rw [tk,List.filter_append,List.filter_cons,hpx,if_neg Bool.false_ne_true,List.filter_nil,List.append_nil]
      exact Paired.map (fun _ _=>rb.mono (x2.r.trans s4)) pp
    | true=>
      rw [if_pos rfl]
      intro C s Hh ex
      refine he C s Hh ex _ hmem hpx σ2 H1 R1 H4 R4 E4 _ fun w H5 R5 E5 s5 e5=>?_
      refine ⟨xs.length - (i + 1),by omega,rfl,hlt,R5,E5.weak (hw _),?_⟩
      rw [tk,List.filter_append,List.filter_cons,hpx,if_pos rfl,List.filter_nil,List.map_append]
      exact bO (Paired.map (fun _ _=>rb.mono (x2.r.trans (s4.trans s5))) pp) (.cons e5 .nil)
  · have e:i=xs.length:=by omega
    subst e
    rw [List.take_length] at pp
    exact .inl ⟨sstop (Nat.le_refl _),fun a ha=>q a ys H' R' E'.ext ha pp⟩
theorem aU {tg elt iter:Expr}{ifs:List Expr}{scope:Scope}{pos:Pos}{cl:List (Str×Addr)}{own fr:List Str}{ix:List Nat}{ra:Rep α}{rb:Rep β}{xs:List α}{p:α→Bool}{f:α→β}{bf:α→Ga→Ga}
    (S:cF X scope cl own fr ix) (hit:IV X tg iter Γ ra xs Γ1)
    (hb:∀(C:Addr) (s:Shared) (H:Hp) (ex:List Addr),BG (ax X scope cl C (own++fr) s H ex) tg ra bf) (hw:∀x,Wk (bf x (bK own ix Γ1)) (bK own ix Γ1))
    (ht:∀(C:Addr) (s:Shared) (H:Hp) (ex:List Addr) x,x∈xs→TF (ax X scope cl C (own++fr) s H ex) ifs (bf x (bK own ix Γ1)) (p x) (bf x (bK own ix Γ1)))
    (he:∀(C:Addr) (s:Shared) (H:Hp) (ex:List Addr) x,x∈xs→p x=true→EV (ax X scope cl C (own++fr) s H ex) elt (bf x (bK own ix Γ1)) rb (f x) (bf x (bK own ix Γ1)))
    (hc:autoParam (X.calm=true) Fc.ag) (hs:autoParam (∀x,foldedSetIterable iter X.env x=pure x) Fc.cJ):bb X (.ListComp elt [⟨tg,iter,ifs,0⟩] scope pos) Γ rb ((xs.filter p).map f) Γ1:=by
  intro σ H0 R0 H R E Q q
  obtain ⟨wi,hi,hit⟩:=hit
  refine eS (kP (g:=fun v σ H Q=>∀C s Hh ex,eC (ax X scope cl C (own++fr) s Hh ex) tg v σ H Q) (tc:=fun σ H Q=>∀C s Hh ex,fc (ax X scope cl C (own++fr) s Hh ex) ifs σ H Q) (te:=fun σ H Q=>∀C s Hh ex,c4 (ax X scope cl C (own++fr) s Hh ex) elt σ H Q) hc S hi
    (fun C s H ex=>⟨fun pins s1 σ H v u Q I r h=>h C s _ ex pins s1 u I r,fun pins s1 σ H Q I h=>h C s _ ex pins s1 I,fun pins s1 σ H Q I h=>h C s _ ex pins s1 I⟩) hs) ?_
  refine hit σ H0 R0 H R E _ fun J H1 R1 E1 s1 hz src=>iD E1 src hz hb hw ht he fun a vs H' R' xx ha pp=>?_
  have E2:=E1.grow xx
  exact q a vs _ R' (E2.grow (Ext.cO E2.sub ha _)) (s1.trans xx.r) ay (E2.sub.free ha) (E2.ext.h.free ha) (E2.off ha) pp (by
    rw [List.length_map];exact Nat.le_trans (List.length_filter_le _ _) hz)
theorem gp (i:Nat){y:Str}{py spos:Pos}{tg elt iter:Expr}{ifs:List Expr}{scope:Scope}{pos:Pos}{cl:List (Str×Addr)}{own fr:List Str}{ix:List Nat}{ra:Rep α}{rb:Rep β}{xs:List α}{p:α→Bool}{f:α→β}{bf:α→Ga→Ga}
    (S:cF X scope cl own fr ix) (hit:IV X tg iter Γ ra xs Γ1)
    (hb:∀(C:Addr) (s:Shared) (H:Hp) (ex:List Addr),BG (ax X scope cl C (own++fr) s H ex) tg ra bf) (hw:∀x,Wk (bf x (bK own ix Γ1)) (bK own ix Γ1))
    (ht:∀(C:Addr) (s:Shared) (H:Hp) (ex:List Addr) x,x∈xs→TF (ax X scope cl C (own++fr) s H ex) ifs (bf x (bK own ix Γ1)) (p x) (bf x (bK own ix Γ1)))
    (he:∀(C:Addr) (s:Shared) (H:Hp) (ex:List Addr) x,x∈xs→p x=true→EV (ax X scope cl C (own++fr) s H ex) elt (bf x (bK own ix Γ1)) rb (f x) (bf x (bK own ix Γ1)))
    (h:N (Γ1.set i (.mu rb ((xs.filter p).map f))))
    (hsw:autoParam (swapsWith (.ListComp elt [⟨tg,iter,ifs,0⟩] scope pos) (some (.Name y py)) spos.line X.env=pure true) Fc.ag)
    (hN:autoParam (X.N.Nodup) Fc.dO) (hi':X.N[i]?=some y:=by rfl) (hx:autoParam (Loc X.env.scope y) Fc.dh)
    (hc:autoParam (X.calm=true) Fc.ag) (hs:autoParam (∀x,foldedSetIterable iter X.env x=pure x) Fc.cJ) (hf:autoParam (X.fn y=true∨X.env.scope.names.lookup y=some .local) Fc.fe):
    W1 X (.Assign [.Name y py] (.ListComp elt [⟨tg,iter,ifs,0⟩] scope pos) spos) Γ N T:=fun σ H0 R0 H R E D dn dr=>by
  obtain ⟨wi,hi,hit⟩:=hit
  refine sS (gU (i:=i) (g:=fun v σ H Q=>∀C s Hh ex,eC (ax X scope cl C (own++fr) s Hh ex) tg v σ H Q) (tc:=fun σ H Q=>∀C s Hh ex,fc (ax X scope cl C (own++fr) s Hh ex) ifs σ H Q) (te:=fun σ H Q=>∀C s Hh ex,c4 (ax X scope cl C (own++fr) s Hh ex) elt σ H Q) hsw hN hi' hx hc S hi
    (fun C s H ex=>⟨fun pins s1 σ H v u Q I r h=>h C s _ ex pins s1 u I r,fun pins s1 σ H Q I h=>h C s _ ex pins s1 I,fun pins s1 σ H Q I h=>h C s _ ex pins s1 I⟩) hs hf) ?_
  refine hit σ H0 R0 H R E _ fun J H1 R1 E1 s1 hz src=>iD (Q:=fun v H'=>D.nx (σ.set i (some v)) H') E1 src hz hb hw ht he fun a vs H' R' xx ha pp=>?_
  have E2:=E1.grow xx
  exact dn _ _ R' _ ((E2.grow (Ext.cO E2.sub ha _)).pI (u:=.lst vs) (en:=.mu rb ((xs.filter p).map f)) i ⟨a,vs,rfl,ay,E2.sub.free ha,pp⟩ (E2.ext.h.free ha) fun j e _ q w=>E2.off ha j e q w) (s1.trans xx.r) h
end
section
variable {X:Cx}{Γ Γ1 Γ2 Γ3:Ga}{α β γ δ:Type}{N:Ga→Prop}{T:RT}
theorem oD {pins:List (Addr×Obj)}{σ:St}{H:Hp}{s:Shared}{h':Heap}{t':Nat}{fp:List Addr}(I:Inv X pins σ H s)(k:∀b o,b∉fp→s.heap.get? b=some o→h'.get? b=some o)(hf:∀b∈fp,gT X pins H b):Inv X pins σ H {s with heap:=h',toks:=t'}:=by
  have nit:∀b u,H b=some u→b∉fp:=fun b u e z=>by rw [(hf b z).1] at e;cases e
  refine I.step (g':=s.gens) (d':=s.drawn) (ch:=fp) (fun b hb=>⟨(hf b hb).2.2.2.1,(hf b hb).2.1,(hf b hb).2.2.2.2.1,(hf b hb).2.2.2.2.2⟩) (fun b o _ _ hc e _=>k b o hc e) (fun b o _ _ hc e _=>⟨o.slots,k b o hc e⟩) (fun _ _ _ _ n=>n)
    (fun b o hc e=>⟨o,k b o hc e⟩) (fun _ _ e=>e) (fun _ _ _ e=>e) (fun b ps e=>⟨#[],by rw [e];simp⟩) (fun m hm=>?_) (fun b u e=>?_) I.bare
  · obtain ⟨o,es,ep,ho,r⟩:=hm
    exact ⟨o,es,ep,k _ o (fun z=>(hf _ z).2.1 rfl) ho,r⟩
  · refine (I.hok b u e).ic (fun c v hc q=>k c v ?_ q) (fun _ q=>q) fun _ _ q=>q
    rcases hc with z | z
    · rw [z];exact nit b u e
    · exact nit c _ z
theorem adopt {pins:List (Addr×Obj)}{σ:St}{H:Hp}{s:Shared}{a:Addr}{o:HO}(I:Inv X pins σ H s)(hf:gT X pins H a)(hy:X.s₀.heap.objs.size≤a)(new:bT X.prog X.w (upd H a o) s.heap a o):Inv X pins σ (upd H a o) s:=by
  have ne:∀{b:Addr} {u:HO},H b=some u→b≠a:=fun e=>cf e hf.1
  have ne0:∀{b:Addr} {u:Obj},X.s₀.heap.get? b=some u→b≠a:=fun e z=>absurd (Nat.lt_of_lt_of_le (Heap.lt_size e) hy) (by rw [z];exact Nat.lt_irrefl _)
  refine ⟨I.ok,I.os,I.bare,⟨I.base.keep,I.base.slot,fun b u e n hx=>by rw [aD (ne0 e)];exact I.base.free b u e n hx,I.base.there,fun b xs e=>?_,fun b u v e=>?_,fun b ps e=>?_⟩,I.loc,I.cell,?_,fun x c e=>?_,fun p hp=>?_,fun b u e=>?_,I.len⟩
  · have q:=I.base.tups b xs e;rw [aD (ne q)];exact q
  · have q:=I.base.frzs b u v e;rw [aD (ne q)];exact q
  · obtain ⟨m,q⟩:=I.base.tbls b ps e;exact ⟨m,by rw [aD (ne q)];exact q⟩
  · rw [aD (Ne.symm hf.2.1)];exact I.free
  · rw [aD (hf.2.2.2.2.1 x c e)];exact I.freeC x c e
  · obtain ⟨e,n,r⟩:=I.pin p hp
    exact ⟨e,by rw [aD (hf.2.2.2.2.2 p hp)];exact n,r⟩
  · by_cases hb:b=a
    · subst hb;rw [ay] at e;cases e;exact new
    · rw [aD hb] at e
      exact (I.hok b u e).ic (fun c v _ q=>q) (fun c q=>by rw [aD (ne q)];exact q) fun c xs q=>by rw [aD (ne q)];exact q
noncomputable def Au (K:PySem.W.Frag)(a:Addr):It:=
  ⟨fun i H=>∃xs x,aX K H a xs∧xs[i]?=some x,fun i H v H'=>∃p x,H p=none∧v= .ref p∧H'=upd H p (.tup [.int i,x])∧∀xs,aX K H a xs→xs[i]?=some x,fun i H=>∃xs,aX K H a xs∧xs.length≤i⟩
theorem rd {P:Program}{w:World}{K:PySem.W.Frag}{es:List Expr}{k:Nat}{tp:Pos}(a e it:Addr)(hei:e≠it):Turn P w K (.Tuple es k tp) (Au K a) [e,it] e (fun i h=>(∃old,IsEnum h e it i old)∧h.IsListIter it a i) where
  mem:=by simp
  obj :=fun i h st b hb=>by
    obtain ⟨⟨old,he⟩,o,ho,hc,hd⟩:=st
    rcases List.mem_cons.mp hb with rfl | hb
    · exact ⟨_,he,fun v z=>by cases z⟩
    · have e2:b=it:=by simpa using hb
      subst e2
      exact ⟨o,ho,fun v z=>by rw [hd] at z;cases z⟩
  keep:=fun i h h' st kk=>⟨st.1.elim fun old he=>⟨old,kk e (by simp) _ he⟩,st.2.at fun o x=>kk it (by simp) o x⟩
  item := by
    intro X hP hw hK hc i pins s σ H E I hf st hg
    subst hP hw hK
    obtain ⟨⟨old,he⟩,hit⟩:=st
    obtain ⟨xs,x,hq,hx⟩:=hg
    obtain ⟨its,r,pl,hz⟩:=I.list hq
    obtain ⟨u,hu,rx⟩:=r.get hx
    have hn:H s.heap.objs.size=none:=I.hok.fresh (Nat.le_refl _)
    refine wpAny_pyNext_enum_item he hit pl.isList (x:=u) (by simpa using hu) hei fun h' ho hit' hT hsz hk=>?_
    refine ⟨_,rfl,?_⟩
    refine wpAny_letOwnedTupleGo_enum (s:={s with heap:=h',toks:=s.toks + 1}) ho fun h2 he2 hs2=>?_
    have hk2:∀b o,b∉[e,it]→s.heap.get? b=some o→h2.get? b=some o:=fun b o hb q=>by
      have hbe:b≠e:=fun z=>hb (by simp [z])
      exact hs2.extBut b o hbe (hk b o hbe (fun z=>hb (by simp [z])) q)
    have I1:Inv X pins σ H {s with heap:=h2,toks:=s.toks + 1}:=oD I hk2 hf
    have hel:e≠s.heap.objs.size:=Nat.ne_of_lt (Heap.lt_size he)
    have hT2:h2.get? s.heap.objs.size=some {cls:=.type "tuple",data:=.seq #[.int i s.toks,u]}:=(hs2.2 _ (Ne.symm hel)).trans hT
    have I2:Inv X pins σ (upd H s.heap.objs.size (.tup [.int i,x])) {s with heap:=h2,toks:=s.toks + 1}:=
      adopt I1 (I.kI (Nat.le_refl _) hn) (I.sz) ⟨by show 2≤sizeLine;decide,[.int i s.toks,u],.cons ⟨_,rfl⟩ (.cons rx .nil),⟨_,hT2,rfl,_,rfl⟩⟩
    refine ⟨.ref s.heap.objs.size,_,I2,rfl,⟨s.heap.objs.size,x,hn,rfl,rfl,fun ys hy=>?_⟩,⟨⟨u,by simpa using he2⟩,hit'.at fun o y=>(hs2.2 it (Ne.symm hei)).trans y⟩,fun b hb=>?_⟩
    · rw [I.l6 hy hq];exact hx
    · have hlt:b < s.heap.objs.size:=by
        rcases List.mem_cons.mp hb with rfl | hb
        · exact Heap.lt_size he
        · have e2:b=it:=by simpa using hb
          subst e2
          obtain ⟨o,ho,_⟩:=hit
          exact Heap.lt_size ho
      rw [aD (Nat.ne_of_lt hlt)]
      exact (hf b hb).1
  done:=by
    intro X hP hw hK hc i pins s σ H E I hf st hg
    subst hP hw hK
    obtain ⟨⟨old,he⟩,hit⟩:=st
    obtain ⟨xs,hq,hx⟩:=hg
    obtain ⟨its,r,pl,hz⟩:=I.list hq
    refine wpAny_pyNext_enum_end (I.ok.hd hc) he hit pl.isList (by have:=r.length;simp;omega) fun h' hk=>⟨rfl,?_⟩
    exact oD (t':=s.toks) I (fun b o hb q=>hk b o (fun z=>hb (by simp [z])) q) hf
  self:=fun _ _ _ _ _ st h=>st.1.elim fun old he=>wpAny_pyIter_enum he h
noncomputable def zR (K:PySem.W.Frag)(ta:TA):TI:=fun σ H R=>ta σ H fun vs H1=>∃a xs,vs=[.ref a]∧aX K H1 a xs∧R (Au K a) H1
theorem vd {a:Expr}{ta:TA}{p pos:Pos}{es:List Expr}{k:Nat}{tp:Pos}(hg:Gl X "enumerate")(hm:X.mg "enumerate"=none)(ha:PA X [a] ta)(hs:autoParam (starEach [a] X.env=[(false,eval a X.env)]) Fc.ag):PI X (.Tuple es k tp) (.Call (.Name "enumerate" p) [a] [] pos) (zR X.K ta):=by
  intro pins s σ H R I h
  refine Call_ (gD I hg hm boot_enumerate (PyProof.Rows.callWith_type1 (aM (ha pos pins s σ H _ I h) fun us s1 ⟨vs,H1,I1,r1,q1⟩=>?_) hs rfl))
  obtain ⟨l,xs,e,hq,q⟩:=q1
  subst e
  cases r1 with
  | cons r rr=>
    cases rr
    cases r
    obtain ⟨its,r',pl,hz⟩:=I1.list hq
    refine call_enumerate_list pl.isList fun h' he hit hsz hk=>?_
    refine wpAny_pyIter_enum he ?_
    have I2:Inv X pins σ H1 {s1 with heap:=h'}:=I1.kept (t':=s1.toks) hk
    have f0:H1 s1.heap.objs.size=none:=I1.hok.fresh (Nat.le_refl _)
    have f1:H1 (s1.heap.objs.size + 1)=none:=I1.hok.fresh (Nat.le_succ _)
    refine ⟨s1.heap.objs.size + 1,[s1.heap.objs.size + 1,s1.heap.objs.size],_,_,H1,rfl,I2,rd l (s1.heap.objs.size + 1) s1.heap.objs.size (Nat.ne_of_gt (Nat.lt_succ_self _)),⟨⟨.none,he⟩,hit⟩,fun b hb=>?_,q⟩
    rcases List.mem_cons.mp hb with rfl | hb
    · exact I1.kI (Nat.le_succ _) f1
    · have e2:b=s1.heap.objs.size:=by simpa using hb
      subst e2
      exact I1.kI (Nat.le_refl _) f0
noncomputable def nums (xs:List α):List (Int×α):=(xs.zipIdx).map fun p=>((p.2:Int),p.1)
theorem eO (xs:List α):(nums xs).length=xs.length:=by unfold nums;rw [List.length_map,List.length_zipIdx]
theorem iK {xs:List α}{i:Nat}{y:Int×α}(h:(nums xs)[i]?=some y):y.1=(i:Int)∧xs[i]?=some y.2:=by
  unfold nums at h
  rw [List.getElem?_map,List.getElem?_zipIdx] at h
  cases e:xs[i]? with
  | none=>rw [e] at h;cases h
  | some x=>rw [e] at h;cases h;exact ⟨by simp,rfl⟩
theorem kB {a:Expr}{p pos:Pos}{es:List Expr}{k:Nat}{tp:Pos}{r:Rep α}{xs:List α}(hm:X.mg "enumerate"=none)(ha:EV X a Γ (af r) xs Γ1)(hs:autoParam (starEach [a] X.env=[(false,eval a X.env)]) Fc.ag)(hg:autoParam (Gl X "enumerate") Fc.ag):
    IV X (.Tuple es k tp) (.Call (.Name "enumerate" p) [a] [] pos) Γ (aF ab r) (nums xs) Γ1:=by
  refine ⟨_,vd hg hm (ba aH bU hs) hs,fun σ H0 R0 H R E Rq q=>ha σ H0 R0 H R E _ fun v H1 R1 E1 s1 e1=>?_⟩
  obtain ⟨a,vs,rfl,hp,pp,z⟩:=e1
  refine ⟨a,vs,rfl,aX.of (E1.sub _ _ hp),q _ H1 R1 E1 s1 (by rw [eO];exact z) fun H' R' sR sH i=>⟨fun y hy=>?_,fun hi=>?_⟩⟩
  · have hq:aX X.K H' a vs:=aX.of (sH _ _ (sR _ _ hp))
    obtain ⟨e1,e2⟩:=iK hy
    obtain ⟨v,hv,hr⟩:=dZ pp e2
    refine ⟨⟨vs,v,hq,hv⟩,fun v' H2 hyl=>?_⟩
    obtain ⟨p,x,hpn,rfl,rfl,hy⟩:=hyl
    have:=hy vs hq
    rw [hv] at this
    cases this
    have s2:ak R' (upd R' p (.tup [.int i,v])):=ak.fresh (sH.free hpn) _
    exact ⟨upd R' p (.tup [.int i,v]),Ext.fresh sH hpn _,p,_,_,rfl,ay,by rw [e1];rfl,r.mono s2 (r.mono sR hr)⟩
  · exact ⟨vs,aX.of (sH _ _ (sR _ _ hp)),by rw [pp.length,← eO xs];exact hi⟩
theorem nJ:c6 X (.builtin "isinstance") (fun xs H Q=>∃x c t b,xs=[x,.ty c]∧dv X.K H x t∧PySem.W.kitOne X.K t (.type c)=some b∧Q (.bl b) H):=by
  intro pins s σ H xs us Q I r h
  obtain ⟨x,c,t,b,rfl,ty,e,q⟩:=h
  obtain ⟨u,u2,rfl,r1,r2⟩:=vals2 r
  cases (show u2=Value.type c from r2)
  exact qr I r1 ty e fun tk=>⟨.bl b,H,I.tok tk,rfl,q⟩
theorem dG {e:Expr}{y:Str}{p p2 pos:Pos}{r:Rep α}{x:α}{c:String}{t:Value}{b:Bool}(hm:X.mg "isinstance"=none)(hmy:X.mg y=none)(hvy:bootBuiltins y=some (.type c))(he:EV X e Γ r x Γ1)
    (ty:∀(R H:Hp) v,ak R H→r.R X.K R v x→dv X.K H v t) (ht:∀K:PySem.W.Frag,PySem.W.kitOne K t (.type c)=some b:=by intro;rfl)
    (hs:autoParam (starEach [e,.Name y p2] X.env=(false,eval e X.env)::starEach [.Name y p2] X.env) Fc.ag) (hg:autoParam (Gl X "isinstance") Fc.ag) (hgy:autoParam (Gl X y) Fc.ag) (hny:autoParam (y≠"__name__") Fc.aw) (hdy:autoParam ((y==("__debug__":Str))=false) Fc.aw):EV X (.Call (.Name "isinstance" p) [e,.Name y p2] [] pos) Γ aK b Γ1:=by
  intro σ H0 R0 H R E Q q
  refine eS (dk nJ hg hm PyProof.Rows.boot_isinstance (ba aH (ba (uO (v:=.ty c) hgy hmy hvy rfl hny hdy) bU rfl) hs) (by decide) (by decide) hs rfl) (he σ H0 R0 H R E _ fun v H1 R1 E1 s1 e1=>?_)
  exact ⟨v,c,t,b,rfl,ty R1 H1 v E1.sub e1,ht _,q _ H1 R1 E1 s1 rfl⟩
theorem ty_int {K:PySem.W.Frag}{x:Int}(R H:Hp)(v:V)(_:ak R H)(h:ab.R K R v x):dv K H v (.type "int"):=by cases h;exact .int _
theorem ty_list {K:PySem.W.Frag}{r:Rep α}{xs:List α}(R H:Hp)(v:V)(s:ak R H)(h:(af r).R K R v xs):dv K H v (.type "list"):=by obtain ⟨a,vs,rfl,e,_⟩:=h;exact .lst (s _ _ e)
theorem vp {K:PySem.W.Frag}{r:Rep α}{r':Rep β}{x:α×β}(R H:Hp)(v:V)(s:ak R H)(h:(aF r r').R K R v x):dv K H v (.type "tuple"):=by obtain ⟨a,_,_,rfl,e,_⟩:=h;exact .tup (s _ _ e)
theorem wA {K:PySem.W.Frag}{x:Row}(R H:Hp)(v:V)(s:ak R H)(h:aI.R K R v x):dv K H v (.type "tuple"):=by obtain ⟨a,rfl,e⟩:=h;exact .tup (s _ _ e)
structure fo (r:Rep α) [DecidableEq α] (n:Nat):Prop where
  inj:∀{K:PySem.W.Frag} {R:Hp} {v:V} {x y:α},r.R K R v x→r.R K R v y→x=y
  eq:∀{X:Cx} {pins:List (Addr×Obj)} {σ:St} {H:Hp} {s:Shared} {R:Hp} {A:Around} (I:Inv X pins σ H s) (sub:ak R H) {v u:V} {vv uu:Value} {x y:α},RelV v vv→RelV u uu→r.R X.K R v x→r.R X.K R u y→A.units + n < cLine→SeqAt.EqAt A s vv uu (decide (x=y))
theorem eq_int:fo ab 0:=by
  refine ⟨by rintro K R v x y h1 h2;cases h1;cases h2;rfl,?_⟩
  intro X pins σ H s R A I sub v u vv uu x y rv ru h1 h2 hu
  cases h1
  cases h2
  obtain ⟨t,rfl⟩:=rv
  obtain ⟨t',rfl⟩:=ru
  intro prog w E Q hq
  refine wpAny_eqBool_int ?_
  rw [Bool.beq_eq_decide_eq];exact hq
theorem in1_units (A:Around):A.in1.units=A.units + 1:=rfl
theorem qx {A:Around}{s:Shared}{r:Rep α} [DecidableEq α]{n:Nat}(e:fo r n){X:Cx}{pins:List (Addr×Obj)}{σ:St}{H R:Hp}(I:Inv X pins σ H s)(sub:ak R H)(hu:A.units + n < cLine):
    ∀{vs ws:List V} {us us':List Value} {xs ys:List α},Vals vs us→Vals ws us'→PySem.Paired (r.R X.K R) vs xs→PySem.Paired (r.R X.K R) ws ys→∀(j:Nat) (h1:j < us.toArray.size) (h2:j < us'.toArray.size),SeqAt.EqAt A s us.toArray[j] us'.toArray[j] (decide (xs[j]?=ys[j]?)):=by
  intro vs ws us us' xs ys hv hw px py j h1 h2
  have h1':j < us.length:=by simpa using h1
  have h2':j < us'.length:=by simpa using h2
  have l1:j < vs.length:=by rw [hv.length];exact h1'
  have l2:j < ws.length:=by rw [hw.length];exact h2'
  obtain ⟨u,e1,r1⟩:=hv.get (List.getElem?_eq_getElem l1)
  obtain ⟨u',e2,r2⟩:=hw.get (List.getElem?_eq_getElem l2)
  obtain ⟨x,e3,q1⟩:=gJ px (List.getElem?_eq_getElem l1)
  obtain ⟨y,e4,q2⟩:=gJ py (List.getElem?_eq_getElem l2)
  rw [List.getElem?_eq_getElem h1'] at e1
  rw [List.getElem?_eq_getElem h2'] at e2
  have e1:=Option.some.inj e1
  have e2:=Option.some.inj e2
  have key:=e.eq (A:=A) I sub r1 r2 q1 q2 hu
  have d:decide (xs[j]?=ys[j]?)=decide (x=y):=by rw [e3,e4];simp
  rw [d]
  simp only [List.getElem_toArray]
  rw [e1,e2]
  exact key
theorem all_eq [DecidableEq α]{xs ys:List α}(h:xs.length=ys.length):((List.range xs.length).all fun j=>decide (xs[j]?=ys[j]?))=decide (xs=ys):=by
  rw [Bool.eq_iff_iff,List.all_eq_true]
  simp only [List.mem_range,decide_eq_true_eq]
  constructor
  · intro hh
    refine List.ext_getElem? fun i=>?_
    by_cases hi:i < xs.length
    · exact hh i hi
    · have a1:xs[i]?=none:=List.getElem?_eq_none (by omega)
      have a2:ys[i]?=none:=List.getElem?_eq_none (by omega)
      rw [a1,a2]
  · rintro rfl j _;rfl
theorem ow {r:Rep α} [DecidableEq α]{n:Nat}(e:fo r n){X:Cx}{pins:List (Addr×Obj)}{σ:St}{H:Hp}{s:Shared}{R:Hp}{A:Around}(I:Inv X pins σ H s)(sub:ak R H){a b:Addr}{vs ws:List V}{xs ys:List α}(ha:R a=some (.lst vs))(hb:R b=some (.lst ws))(px:PySem.Paired (r.R X.K R) vs xs)(py:PySem.Paired (r.R X.K R) ws ys)(hu:A.units + (n + 1) < cLine):
    SeqAt.RcAt A s (.ref a) (.ref b) (decide (xs=ys))∧SeqAt.RcNeAt A s (.ref a) (.ref b) (!decide (xs=ys)):=by
  obtain ⟨us,hv,pl,_⟩:=I.list (aX.of (sub _ _ ha))
  obtain ⟨us',hw,pl',_⟩:=I.list (aX.of (sub _ _ hb))
  have lx:us.toArray.size=xs.length:=by rw [List.size_toArray,← hv.length,px.length]
  have ly:us'.toArray.size=ys.length:=by rw [List.size_toArray,← hw.length,py.length]
  by_cases hl:xs.length=ys.length
  · have he:=qx (A:=A.in1) e I sub (by rw [in1_units];omega) hv hw px py
    have r1:=SeqAt.RcAt.lists pl.isList pl'.isList (lx.trans (hl.trans ly.symm)) (by omega) he
    have r2:=SeqAt.RcNeAt.lists pl.isList pl'.isList (lx.trans (hl.trans ly.symm)) (by omega) he
    rw [lx,all_eq hl] at r1 r2
    exact ⟨r1,r2⟩
  · have hne:(us.toArray.size != us'.toArray.size)=true:=by rw [lx,ly];simpa using hl
    have d:decide (xs=ys)=false:=decide_eq_false fun z=>hl (by rw [z])
    rw [d]
    exact ⟨SeqAt.RcAt.lists_lengths pl.isList pl'.isList hne (by omega),SeqAt.RcNeAt.lists_lengths pl.isList pl'.isList hne (by omega)⟩
theorem vR {X:Cx}{pins:List (Addr×Obj)}{σ:St}{H:Hp}{s:Shared}{R:Hp}{A:Around}(I:Inv X pins σ H s)(sub:ak R H){a b:Addr}{vs ws:List V}{k:Nat→Bool}(ha:R a=some (.tup vs))(hb:R b=some (.tup ws))(hl:vs.length=ws.length)(hu:A.units < cLine)
    (he:∀(us us':List Value),Vals vs us→Vals ws us'→∀(j:Nat) (h1:j < us.toArray.size) (h2:j < us'.toArray.size),SeqAt.EqAt A.in1 s us.toArray[j] us'.toArray[j] (k j)):
    SeqAt.RcAt A s (.ref a) (.ref b) ((List.range vs.length).all k)∧SeqAt.RcNeAt A s (.ref a) (.ref b) (!(List.range vs.length).all k):=by
  obtain ⟨us,hv,pl,_⟩:=I.tuple (dc.of (sub _ _ ha))
  obtain ⟨us',hw,pl',_⟩:=I.tuple (dc.of (sub _ _ hb))
  have lx:us.toArray.size=vs.length:=by rw [List.size_toArray,← hv.length]
  have ly:us'.toArray.size=vs.length:=by rw [List.size_toArray,← hw.length,hl]
  have r1:=SeqAt.RcAt.tuples (A:=A) pl pl' hu (he us us' hv hw)
  have r2:=SeqAt.RcNeAt.tuples (A:=A) pl pl' hu (he us us' hv hw)
  rw [lx,ly,Nat.min_self] at r1 r2
  simp only [beq_self_eq_true,Bool.and_true] at r1 r2
  exact ⟨r1,r2⟩
theorem zd {r:Rep α} [DecidableEq α]{n:Nat}(e:fo r n)(hu:X.A.units + (n + 1) < cLine){xs ys:List α}:fT X .Eq (af r) (af r) xs ys (decide (xs=ys)):=
  ⟨fun v u H Q=>∃R,ak R H∧∃xs ys,(af r).R X.K R v xs∧(af r).R X.K R u ys∧Q (.bl (decide (xs=ys))) H,fun pins s σ H x y v u Q I rx ry ⟨R,sub,xs,ys,h1,h2,q⟩=>by
    obtain ⟨a,vs,rfl,ha,px,_⟩:=h1
    obtain ⟨b,ws,rfl,hb,py,_⟩:=h2
    cases rx
    cases ry
    exact (ow (A:=X.A) e I sub ha hb px py hu).1 _ _ _ _ ⟨.bl _,H,I,rfl,q⟩,fun R H v u Q s h1 h2 q=>⟨R,s,xs,ys,h1,h2,q⟩⟩
theorem tP {r:Rep α} [DecidableEq α]{n:Nat}(e:fo r n)(hu:X.A.units + (n + 1) < cLine){xs ys:List α}:fT X .NotEq (af r) (af r) xs ys (!decide (xs=ys)):=
  ⟨fun v u H Q=>∃R,ak R H∧∃xs ys,(af r).R X.K R v xs∧(af r).R X.K R u ys∧Q (.bl (!decide (xs=ys))) H,fun pins s σ H x y v u Q I rx ry ⟨R,sub,xs,ys,h1,h2,q⟩=>by
    obtain ⟨a,vs,rfl,ha,px,_⟩:=h1
    obtain ⟨b,ws,rfl,hb,py,_⟩:=h2
    cases rx
    cases ry
    exact (ow (A:=X.A) e I sub ha hb px py hu).2 _ _ _ _ ⟨.bl _,H,I,rfl,q⟩,fun R H v u Q s h1 h2 q=>⟨R,s,xs,ys,h1,h2,q⟩⟩
theorem kM:c6 X (.type "range") (fun xs H Q=>∃n:Int,xs=[.int n]∧∀p,H p=none→Q (.ref p) (upd H p (.rng 0 n))):=by
  intro pins s σ H xs us Q I r h
  obtain ⟨n,rfl,q⟩:=h
  obtain ⟨u,rfl,t,rfl⟩:=vals1 r
  refine call_range_1 ?_
  exact ⟨.ref s.heap.objs.size,_,I.laid (o:=.rng 0 n) (fun b o e=>Heap.get?_push_of_some _ e) (Nat.le_refl _) ⟨_,_,_,Heap.get?_push_size _ rfl⟩,rfl,q _ (I.hok.fresh (Nat.le_refl _))⟩
theorem lW (hc:X.calm=true):c6 X (.type "list") (fun xs H Q=>∃(p:Addr) (m n:Int),xs=[.ref p]∧H p=some (.rng m n)∧ -1000000≤m∧m≤1000000∧ -1000000≤n∧n≤1000000∧∀d,H d=none→Q (.ref d) (upd H d (.lst ((ups m (n - m).toNat).map V.int)))):=by
  intro pins s σ H xs us Q I r h
  obtain ⟨p,m,n,rfl,hp,m1,m2,n1,n2,q⟩:=h
  obtain ⟨u,rfl,rx⟩:=vals1 r
  cases rx
  obtain ⟨t,t2,t3,ho⟩:=I.hok p _ hp
  have hsz:Builtin.Range.rangeSize m n 1=(((n - m).toNat:Nat):Int):=by rw [rangeSize_one];split<;>omega
  refine call_list_range (I.ok.hd hc) ho (small_one (by omega) (by omega) (by omega) (by omega)) hsz (by omega) fun h' tk acc c' hk hS hacc=>?_
  have vals :Vals ((ups m (n - m).toNat).map V.int) acc.toList:=by
    have key:∀(k:Nat) (its:List Value) (lo:Int),its.length=k→(∀(j:Nat) v,its[j]?=some v→∃t,v= .int (lo + (j:Int) * 1) t)→Vals ((ups lo k).map V.int) its:=by
      intro k
      induction k with
      | zero=>intro its lo hl _;cases its with
        | nil=>exact .nil
        | cons _ _=>cases hl
      | succ k ih=>
        intro its lo hl hv
        cases its with
        | nil=>cases hl
        | cons v r=>
          have e:ups lo (k + 1)=lo::ups (lo + 1) k:=by
            unfold ups
            rw [List.range_succ_eq_map,List.map_cons,List.map_map]
            congr 1
            · simp
            · apply List.map_congr_left;intro a _;simp;omega
          rw [e,List.map_cons]
          obtain ⟨t,e0⟩:=hv 0 v rfl
          refine .cons ⟨t,by rw [e0];simp⟩ (ih r (lo + 1) (by simpa using hl) fun j v hj=>?_)
          obtain ⟨t,ej⟩:=hv (j + 1) v (by simpa using hj)
          exact ⟨t,by rw [ej];congr 1;push_cast;omega⟩
    refine key _ _ m (by rw [Array.length_toList];exact hacc.1) fun j v hj=>hacc.2 j v (by simpa using hj)
  exact ⟨.ref _,_,I.laid (a:=s.heap.objs.size) (o:=.lst ((ups m (n - m).toNat).map V.int)) hk (Nat.le_refl _) ⟨by rw [List.length_map,az];exact Nat.le_trans (show (n - m).toNat≤2000000 by omega) (by decide),acc.toList,c',vals,by rw [hS]⟩,rfl,q _ (I.hok.fresh (Nat.le_refl _))⟩
end
noncomputable def kG (scope:Scope)(env:Env):List (Str×Addr):=(scope.names.filterMap fun p=>if p.2== .free then (env.cells.lookup p.1).map (fun c=>(p.1,c)) else none).reverse
theorem ju {env:Env}:∀(names:List (Str×NameKind)) (acc:List (Str×Addr)),(∀y∈names,y.2= .free→∃c,env.cells.lookup y.1=some c)→
    (forIn names acc fun (x:Str×NameKind) (r:List (Str×Addr))=>if (x.2==NameKind.free)=true then do let a ← cellOf env x.1;pure (ForInStep.yield ((x.1,a)::r)) else pure (ForInStep.yield r):Sem (List (Str×Addr)))
      =pure ((names.filterMap fun p=>if p.2== .free then (env.cells.lookup p.1).map (fun c=>(p.1,c)) else none).reverse++acc)
  | [],acc,_=>rfl
  | (n,k)::r,acc,h=>by
    have ih:=ju (env:=env) r
    rw [List.forIn_cons,List.filterMap_cons]
    cases hk:(k==NameKind.free) with
    | false=>
      simp only [hk,Bool.false_eq_true,if_false]
      rw [pure_bind]
      exact ih acc fun y hy=>h y (List.mem_cons_of_mem _ hy)
    | true=>
      obtain ⟨c,hc⟩:=h (n,k) List.mem_cons_self (eq_of_beq hk)
      have hcell:cellOf env n=pure c:=by unfold cellOf;rw [hc]
      simp only [hk,if_true,hc,Option.map_some,hcell]
      rw [pure_bind,pure_bind]
      show forIn r ((n,c)::acc) _=_
      rw [ih ((n,c)::acc) fun y hy=>h y (List.mem_cons_of_mem _ hy)]
      simp
theorem o9 {X:Cx}{scope:Scope}{own fr:List Str}{ix:List Nat}(hk:scope.kind= .function)(hn:∀y∈scope.names,y.2≠ .cell)(hl:∀y∈scope.names,y.2= .local→scope.names.lookup y.1=some .local)
    (hc:∀x,X.env.scope.names.lookup x=some .cell→∃c,X.env.cells.lookup x=some c) (hf:∀y∈scope.names,y.2= .free→X.env.scope.names.lookup y.1=some .cell)
    (hfr:∀x∈fr,scope.names.lookup x=some .free) (hlen:fr.length=ix.length) (hat:∀(k i:Nat) (x:Str),ix[k]?=some i→fr[k]?=some x→X.N[i]?=some x):cF X scope (kG scope X.env) own fr ix:=by
  have free:∀y∈scope.names,y.2= .free→∃c,X.env.cells.lookup y.1=some c:=fun y hy e=>hc _ (hf y hy e)
  refine ⟨?_,fun x c e=>?_,hk,hn,hl,fun x e=>?_,hfr,hlen,fun k i x e1 e2=>⟨hat k i x e1 e2,hf (x,.free) (PySem.mem_of_lookup (hfr x (List.mem_of_getElem? e2))) rfl⟩⟩
  · have:=ju (env:=X.env) scope.names [] free
    rw [List.append_nil] at this
    have e:closureFor scope X.env=((forIn scope.names [] fun (x:Str×NameKind) (r:List (Str×Addr))=>if (x.2==NameKind.free)=true then do let a ← cellOf X.env x.1;pure (ForInStep.yield ((x.1,a)::r)) else pure (ForInStep.yield r):Sem (List (Str×Addr))) >>=fun cs=>pure cs):=rfl
    rw [e,this,pure_bind]
    rfl
  · have m:=PySem.mem_of_lookup e
    unfold kG at m
    obtain ⟨p,_,hp⟩:=List.mem_filterMap.mp (List.mem_reverse.mp m)
    split at hp
    · cases q:X.env.cells.lookup p.1 with
      | none=>rw [q] at hp;cases hp
      | some c'=>rw [q] at hp;cases hp;exact q
    · cases hp
  · have m:=PySem.mem_of_lookup e
    obtain ⟨c,hcc⟩:=free _ m rfl
    have m2:(x,c)∈kG scope X.env:=by
      unfold kG
      refine List.mem_reverse.mpr (List.mem_filterMap.mpr ⟨(x,.free),m,?_⟩)
      simp [hcc]
    cases q:(kG scope X.env).lookup x with
    | some c'=>exact ⟨c',rfl⟩
    | none=>
      rw [List.lookup_eq_none_iff] at q
      exact absurd (q _ m2) (by simp)
noncomputable def rN (scope so:Scope)(N0 fr:List Str)(ix:List Nat):Bool:=
  decide (scope.kind= .function)&&scope.names.all (fun y=>decide (y.2≠ .cell)&&(decide (y.2≠ .local) ||decide (scope.names.lookup y.1=some .local))&&(decide (y.2≠ .free) ||decide (so.names.lookup y.1=some .cell)))
    &&fr.all (fun x=>decide (scope.names.lookup x=some .free))&&decide (fr.length=ix.length)&&(List.range ix.length).all fun k=>match ix[k]?,fr[k]? with | some i,some x=>decide (N0[i]?=some x) | _,_=>true
theorem aJ {X:Cx}{scope so:Scope}{N0 own fr:List Str}{ix:List Nat}(hso:X.env.scope=so)(hN0:X.N=N0)(hc:∀x,X.env.scope.names.lookup x=some .cell→∃c,X.env.cells.lookup x=some c)(h:rN scope so N0 fr ix=true):cF X scope (kG scope X.env) own fr ix:=by
  unfold rN at h
  simp only [Bool.and_eq_true,Bool.or_eq_true,decide_eq_true_eq,List.all_eq_true] at h
  obtain ⟨⟨⟨⟨h1,h2⟩,h3⟩,h4⟩,h5⟩:=h
  refine o9 h1 (fun y hy=>(h2 y hy).1.1) (fun y hy e=>(h2 y hy).1.2.resolve_left fun z=>z e) hc (fun y hy e=>by rw [hso];exact (h2 y hy).2.resolve_left fun z=>z e) h3 h4 fun k i x e1 e2=>?_
  have hk:k < ix.length:=(List.getElem?_eq_some_iff.mp e1).1
  have:=h5 k (List.mem_range.mpr hk)
  rw [e1,e2] at this
  rw [hN0]
  simpa using this
section
variable {X:Cx}{Γ Γ1 Γ2 Γ3:Ga}{α β γ δ:Type}{N:Ga→Prop}{T:RT}
theorem kQ (i:Nat){S:bS}{x y:Str}{k:Nat}{e:Expr}{es:List Expr}{p p1 p2 pos:Pos}{ps:List Pk}{r:Rep α}{Pd:α→Prop}(C:aA X.prog X.w X.K X.mg X.base x k (aG S X.K))(hr:bN k X.A)(ha:HA X (e::es) Γ ps Γ1)(hS:S X.K ps (bP X.K r Pd))(h:∀z,Pd z→N (Γ1.set i (.im r z)))
    (hg:autoParam (Gl X x) Fc.ag) (hdb:autoParam ((x==("__debug__":Str))=false) Fc.aw) (he:autoParam (starEach (e::es) X.env=(false,eval e X.env)::starEach es X.env) Fc.ag) (hpl:autoParam ((backTo p2 (starEach es X.env)).any (·.1)=false) Fc.ag)
    (hN:autoParam (X.N.Nodup) Fc.dO) (hi:autoParam (X.N[i]?=some y) Fc.ag) (hx:autoParam (Loc X.env.scope y) Fc.dh)
    (hs:autoParam (swapsWith (.Call (.Name x p) (e::es) [] p2) (some (.Name y p1)) pos.line X.env=pure false) Fc.ag) (hf:autoParam (X.fn y=true∨X.env.scope.names.lookup y=some .local) Fc.fe):
    W1 X (.Assign [.Name y p1] (.Call (.Name x p) (e::es) [] p2) pos) Γ N T:=fun σ H0 R0 H R E D dn dr=>
  sS (fP hN hi hx aH hs hf) (c5 C hr ha hS E (fun H1 R1 v H' R' E1 s1 xx t=>by
    obtain ⟨z,e1,hz⟩:=t
    exact dn _ H' R' _ ((E1.grow xx).set i e1) (s1.trans xx.r) (h z hz)) hg hdb he hpl)
theorem yq {tg iter:Expr}{w:Row}(h:EV X iter Γ aI w Γ1):IV X tg iter Γ ab [w.1,w.2.1,w.2.2.1,w.2.2.2] Γ1:=by
  refine ⟨_,wY aH,fun σ H0 R0 H R E Rq q=>h σ H0 R0 H R E _ fun v H1 R1 E1 s1 e1=>?_⟩
  obtain ⟨a,rfl,ha⟩:=e1
  have hq0:∀H' R':Hp,ak R1 R'→ak R' H'→dc X.K H' a [.int w.1,.int w.2.1,.int w.2.2.1,.int w.2.2.2]:=fun H' R' sR sH=>dc.of (sH _ _ (sR _ _ ha))
  refine ⟨a,rfl,⟨_,hq0 H1 R1 (ak.refl _) E1.sub⟩,q _ H1 R1 E1 s1 (by show 4≤sizeLine;decide) fun H' R' sR sH i=>⟨fun x hx=>?_,fun hi=>⟨_,hq0 H' R' sR sH,hi⟩⟩⟩
  have e2:([.int w.1,.int w.2.1,.int w.2.2.1,.int w.2.2.2]:List V)[i]?=some (.int x):=by
    have:=congrArg (Option.map V.int) hx
    rw [← List.getElem?_map] at this
    exact this
  refine ⟨⟨_,_,hq0 H' R' sR sH,e2⟩,fun v H2 hy=>?_⟩
  obtain ⟨rfl,hy⟩:=hy
  have:=hy _ (hq0 _ R' sR sH)
  rw [e2] at this
  cases this
  exact ⟨R',Ext.refl sH,rfl⟩
theorem oB {a:Expr}{p pos:Pos}{r:Rep α}{x:α}{n:Nat}(hm:X.mg "len"=none)(ha:EV X a Γ r x Γ1)(ht:∀(R:Hp) v,r.R X.K R v x→∃q vs,v= .ref q∧R q=some (.tup vs)∧vs.length=n)(hs:autoParam (starEach [a] X.env=[(false,eval a X.env)]) Fc.ag)(hg:autoParam (Gl X "len") Fc.ag):EV X (.Call (.Name "len" p) [a] [] pos) Γ ab (n:Int) Γ1:=by
  intro σ H0 R0 H R E Q q
  refine eS (dk dF hg hm PySem.boot_len (ba aH bU hs) (by decide) (by decide) hs) (ha σ H0 R0 H R E _ fun v H1 R1 E1 s1 e1=>?_)
  obtain ⟨p,vs,rfl,hp,hl⟩:=ht R1 v e1
  refine ⟨p,vs,rfl,.inr (dc.of (E1.sub _ _ hp)),?_⟩
  rw [hl]
  exact q _ H1 R1 E1 s1 rfl
theorem uU {K:PySem.W.Frag}{r:Rep α}{r':Rep β}{x:α×β}(R:Hp)(v:V)(h:(aF r r').R K R v x):∃q vs,v= .ref q∧R q=some (.tup vs)∧vs.length=2:=by
  obtain ⟨a,v1,v2,rfl,ha,_⟩:=h
  exact ⟨a,_,rfl,ha,rfl⟩
theorem yx {K:PySem.W.Frag}{x:Row}(R:Hp)(v:V)(h:aI.R K R v x):∃q vs,v= .ref q∧R q=some (.tup vs)∧vs.length=4:=by
  obtain ⟨a,rfl,ha⟩:=h
  exact ⟨a,_,rfl,ha,rfl⟩
end
inductive Reach (es:List (Int×Int)) (s:Int):Int→Prop
  | base:Reach es s s
  | step {a b:Int}:Reach es s a→(a,b)∈es→Reach es s b
theorem Reach.sub {es:List (Int×Int)}{s:Int}{P:Int→Prop}(h0:P s)(hc:∀a b,P a→(a,b)∈es→P b):∀{k:Int},Reach es s k→P k
  | _,.base=>h0
  | _,.step r m=>hc _ _ (Reach.sub h0 hc r) m
section
variable {X:Cx}{Γ Γ1 Γ2 Γ3:Ga}{α β γ δ:Type}{N:Ga→Prop}{T:RT}
theorem uG:c8 X (binaryOp .Mult) (rI IntMulOk fun i j=>.int (i * j)):=pT fun _ _ _ _ _ _ _ hc q=>mul_int q hc
theorem gy {a b:Expr}{pos:Pos}{x y:Int}(ha:EV X a Γ ab x Γ1)(hb:EV X b Γ1 ab y Γ2)(h:IntMulOk x y):EV X (.BinOp a .Mult b pos) Γ ab (x * y) Γ2:=gX uG ha hb fun R v u H Q e1 e2 q=>⟨x,y,e1,e2,h,q _ rfl⟩
noncomputable def mI (a:Addr)(r:Rep α)(xs:List α):g6 where
  fp:=[a]
  R:=fun K H R v=>v= .ref a∧∃vs,H a=some (.lst vs)∧PySem.Paired (r.R K R) vs xs
  loc:=fun hH hR ⟨e,vs,h,p⟩=>⟨e,vs,(hH a (List.mem_singleton.mpr rfl)).trans h,Paired.map (fun _ _=>r.mono hR) p⟩
  has:=fun ⟨e,vs,h,p⟩ b hb=>by rw [List.mem_singleton.mp hb,h];exact Option.some_ne_none _
theorem vA {K:PySem.W.Frag}{H R:Hp}{a:Addr}{r:Rep α}{xs:List α}{vs:List V}(h:H a=some (.lst vs))(hR:R a=none)(p:PySem.Paired (r.R K R) vs xs):(Ent.ob (mI a r xs)).ok K H R (some (.ref a)):=
  ⟨⟨_,rfl,rfl,vs,h,p⟩,fun b hb=>by rw [List.mem_singleton.mp hb];exact hR⟩
theorem og {K:PySem.W.Frag}{H R:Hp}{a:Addr}{r:Rep α}{xs:List α}{o:Option V}(h:(Ent.ob (mI a r xs)).ok K H R o):o=some (.ref a)∧(∃vs,H a=some (.lst vs)∧PySem.Paired (r.R K R) vs xs)∧R a=none:=by
  obtain ⟨⟨v,rfl,rfl,q⟩,n⟩:=h
  exact ⟨rfl,q,n a (List.mem_singleton.mpr rfl)⟩
theorem WS.box (i:Nat){sts:List Stmt}{r:Rep α}{xs:List α}(hΓ:Γ[i]?=some (.mu r xs))(h:∀a,WS X sts (Γ.set i (.ob (mI a r xs))) N T):WS X sts Γ N T:=fun σ H0 R0 H R E D dn dr=>by
  obtain ⟨a,vs,ea,ha,hR,pp⟩:=E.ent i _ hΓ
  exact h a σ H0 R0 H R (E.tell hΓ (by rw [ea];exact vA ha hR pp) fun b w=>by
    rw [show b=a from List.mem_singleton.mp w];exact cQ.mpr ea) D dn dr
theorem aj.iJ {K:PySem.W.Frag}{σ:St}{H0 R0 H R:Hp}(E:aj K σ H0 R0 H R Γ){i:Nat}{e0 en:Ent}(hi:Γ[i]?=some e0)(ho:en.ok K H R (σ[i]?).join)(hsub:∀b∈en.fp (σ[i]?).join,H0 b=none∧∀(j:Nat) (e:Ent),j≠i→Γ[j]?=some e→b∉e.fp (σ[j]?).join):aj K σ H0 R0 H R (Γ.set i en):=by
  refine ⟨E.ext,fun j e q=>?_,fun j e b q w=>?_,fun j k e e' b q q' w w'=>?_,by rw [List.length_set];exact E.len⟩
  · rcases set_at q with ⟨rfl,rfl,_⟩ | ⟨hj,q1⟩
    · exact ho
    · exact E.ent j e q1
  · rcases set_at q with ⟨rfl,rfl,_⟩ | ⟨hj,q1⟩
    · exact (hsub b w).1
    · exact E.nw j e b q1 w
  · rcases set_at q with ⟨rfl,rfl,_⟩ | ⟨hj,q1⟩
    · rcases set_at q' with ⟨rfl,rfl,_⟩ | ⟨hk,q1'⟩
      · rfl
      · exact absurd w' ((hsub b w).2 k e' hk q1')
    · rcases set_at q' with ⟨rfl,rfl,_⟩ | ⟨hk,q1'⟩
      · exact absurd w ((hsub b w').2 j e hj q1)
      · exact E.ds _ _ _ _ b q1 q1' w w'
variable {P:Program}{w:World}{K:PySem.W.Frag}{mg:Str→Option Value}{base:Heap}
end
noncomputable def cc {α:Type}(k:Nat)(y:α)(xs:List α):List α:=xs.take k++y::xs.drop k
theorem m8 {α:Type}{k:Nat}{y:α}{xs:List α}:(cc k y xs).length=xs.length + 1:=by
  unfold cc;rw [List.length_append,List.length_cons,List.length_take,List.length_drop];omega
section
variable {X:Cx}{Γ Γ1 Γ2 Γ3:Ga}{α β γ δ:Type}{N:Ga→Prop}{T:RT}
noncomputable def u3:V→List V→Hp→VK→Prop:=fun x vs H Q=>∃l xs i y,x= .ref l∧vs=[.int i,y]∧H l=some (.lst xs)∧0≤i∧i≤(xs.length:Int)∧xs.length < sizeLine∧Q .non (upd H l (.lst (cc i.toNat y xs)))
theorem qG:ug X "list.insert" u3:=by
  intro pins s σ H x vs v us Q I rx rv h
  obtain ⟨l,xs,i,y,rfl,rfl,hH,h0,h1,hz,q⟩:=h
  cases rx
  obtain ⟨u1,u2,rfl,⟨t,rfl⟩,r2⟩:=vals2 rv
  obtain ⟨z,its,n,r,hl,e⟩:=I.h7 hH
  have hfit:Builtin.List.listFitsIndex i=true:=fitsIndex_both (by omega) (by
    have:sizeLine < 2 ^ 63:=by decide
    omega)
  refine call_meets PySem.F.slot_list_insert ⟨_,e,rfl⟩ PySem.F.entry_list_insert (PySem.F.args_list_insert_3 _ _ _) (PySem.AutoSeq1.list_insert_list_int_val_1 l _ n i t u2 (by simp [hfit]) (by rw [List.size_toArray];omega)) ⟨e,?_⟩
  refine ⟨.non,_,I.oR (its':=cc i.toNat u2 its) hH e ?_ ?_ ?_,rfl,q⟩
  · have hk:(if i < 0 then (i + ((its.toArray.size:Nat):Int)).toNat else min i.toNat its.toArray.size)=i.toNat:=by
      rw [if_neg (by omega),List.size_toArray];omega
    dsimp only
    rw [hk]
    unfold cc
    apply Array.ext'
    simp
    exact List.take_of_length_le (by rw [List.length_drop];exact Nat.le_refl _)
  · unfold cc;exact (r.take _).append (.cons r2 (r.drop _))
  · rw [m8];omega
noncomputable def gZ (r:Row):List V:=[.int r.1,.int r.2.1,.int r.2.2.1,.int r.2.2.2]
noncomputable def sv:Rep Addr:=⟨fun _ _ v a=>v= .ref a,fun _ h=>h⟩
noncomputable def fW:Rep Row:=⟨fun _ H v r=>∃b,v= .ref b∧H b=some (.lst (gZ r)),fun s ⟨b,e,h⟩=>⟨b,e,s _ _ h⟩⟩
noncomputable def bQ (H:Hp)(as:List Addr)(rs:List Row):Prop:=as.length=rs.length∧∀(i:Nat) (b:Addr) (r:Row),as[i]?=some b→rs[i]?=some r→H b=some (.lst (gZ r))
theorem bQ.row {H:Hp}{as:List Addr}{rs:List Row}(h:bQ H as rs){b:Addr}(hb:b∈as):∃r,H b=some (.lst (gZ r)):=by
  obtain ⟨i,hi,rfl⟩:=List.mem_iff_getElem.mp hb
  exact ⟨_,h.2 i _ _ (List.getElem?_eq_getElem hi) (List.getElem?_eq_getElem (by rw [← h.1];exact hi))⟩
theorem bQ.loc {H H':Hp}{as:List Addr}{rs:List Row}(h:bQ H as rs)(e:∀a∈as,H' a=H a):bQ H' as rs:=
  ⟨h.1,fun i b r h1 h2=>(e b (List.mem_of_getElem? h1)).trans (h.2 i b r h1 h2)⟩
theorem bQ.put {H:Hp}{as:List Addr}{rs:List Row}(h:bQ H as rs)(nd:as.Nodup){j:Nat}{b:Addr}{r:Row}(hb:as[j]?=some b):bQ (upd H b (.lst (gZ r))) as (rs.set j r):=by
  refine ⟨by rw [List.length_set];exact h.1,fun i c q h1 h2=>?_⟩
  by_cases hij:i=j
  · subst hij
    rw [hb] at h1;cases h1
    have hl:i < rs.length:=by rw [← h.1];exact (List.getElem?_eq_some_iff.mp hb).1
    rw [List.getElem?_set_self hl] at h2;cases h2
    exact ay
  · rw [List.getElem?_set_ne (Ne.symm hij)] at h2
    have:c≠b:=fun z=>by
      subst z
      have l1:=(List.getElem?_eq_some_iff.mp h1)
      have l2:=(List.getElem?_eq_some_iff.mp hb)
      exact hij ((List.getElem_inj (h₀:=l1.1) (h₁:=l2.1) nd).mp (l1.2.trans l2.2.symm))
    rw [aD this];exact h.2 i c q h1 h2
noncomputable def bG (a:Addr)(as:List Addr)(rs:List Row):g6 where
  fp:=a::as
  R:=fun K H R v=>v= .ref a∧H a=some (.lst (as.map .ref))∧bQ H as rs∧(a::as).Nodup
  loc:=fun hH hR ⟨e,h1,h2,h3⟩=>⟨e,(hH a List.mem_cons_self).trans h1,h2.loc fun b hb=>hH b (List.mem_cons_of_mem _ hb),h3⟩
  has :=fun ⟨e,h1,h2,h3⟩ b hb=>by
    rcases List.mem_cons.mp hb with rfl | hb
    · rw [h1];exact Option.some_ne_none _
    · obtain ⟨r,hr⟩:=h2.row hb
      rw [hr];exact Option.some_ne_none _
noncomputable def mR (a:Addr)(as:List Addr)(rs:List Row):g6 where
  fp:=as
  R:=fun K H R v=>v= .ref a∧R a=some (.lst (as.map .ref))∧bQ H as rs∧as.Nodup
  loc:=fun hH hR ⟨e,h1,h2,h3⟩=>⟨e,hR _ _ h1,h2.loc fun b hb=>hH b hb,h3⟩
  has:=fun ⟨e,h1,h2,h3⟩ b hb=>by
    obtain ⟨r,hr⟩:=h2.row hb
    rw [hr];exact Option.some_ne_none _
structure mF (B B':g6) (b:Addr) (r r':Row):Prop where
  mem:b∈B.fp
  fp:B'.fp=B.fp
  get:∀{K:PySem.W.Frag} {H R:Hp} {v:V},B.R K H R v→H b=some (.lst (gZ r))
  set:∀{K:PySem.W.Frag} {H R:Hp} {v:V},B.R K H R v→B'.R K (upd H b (.lst (gZ r'))) R v
theorem iN {a:Addr}{as:List Addr}{rs:List Row}{j:Nat}{b:Addr}{r r':Row}(hb:as[j]?=some b)(hr:rs[j]?=some r):mF (bG a as rs) (bG a as (rs.set j r')) b r r' where
  mem:=List.mem_cons_of_mem _ (List.mem_of_getElem? hb)
  fp:=rfl
  get:=fun h=>h.2.2.1.2 j b r hb hr
  set:=fun ⟨e,h1,h2,h3⟩=>by
    obtain ⟨n1,n2⟩:=List.nodup_cons.mp h3
    exact ⟨e,by rw [aD (show a≠b from fun z=>n1 (z▸List.mem_of_getElem? hb))];exact h1,h2.put n2 hb,h3⟩
theorem rS (i:Nat){o:Expr}{c:Int}{j:Nat}{p1 pos:Pos}{B B':g6}{b:Addr}{r r':Row}{y:Int}(ho:EV X o Γ sv b Γ1)(hΓ1:Γ1[i]?=some (.ob B))(hB:mF B B' b r r')(hy:cI (gZ r) c=some (.int y)):EV X (.Subscript o (.Constant (.int c) j p1) pos) Γ ab y Γ1:=by
  intro σ H0 R0 H R E Q q
  refine eS (fm dX aH dm (fun _ _=>rfl)) (ho σ H0 R0 H R E _ fun v H1 R1 E1 s1 e1=>?_)
  cases e1
  obtain ⟨⟨v,ev,hv⟩,_⟩:=E1.ent i _ hΓ1
  exact ⟨b,_,c,_,rfl,rfl,aX.of (hB.get hv),hy,q _ H1 R1 E1 s1 rfl⟩
theorem mf (i:Nat){o e:Expr}{k:Nat}{p1 p2 pos:Pos}{B B':g6}{b:Addr}{r:Row}{y:Int}(he:EV X e Γ ab y Γ1)(ho:EV X o Γ1 sv b Γ2)(hΓ2:Γ2[i]?=some (.ob B))(hB:mF B B' b r (r.1,r.2.1,r.2.2.1,y))(h:N (Γ2.set i (.ob B')))
    (ha:autoParam (∀v,assign (.Subscript o (.Constant (.int 3) k p1) p2) X.env v=(do
      let ov ← holding [v] (eval o X.env)
      let iv ← holding [v,ov] (eval (.Constant (.int 3) k p1) X.env)
      standAt p2
      holding [v,ov,iv] (setItem ov iv v)
      release [v,ov,iv] [])) Fc.cJ)
    (hs:autoParam (swapsWithSole [.Subscript o (.Constant (.int 3) k p1) p2] e pos.line X.env=pure false) Fc.ag) (hw:autoParam (swappedStores [.Subscript o (.Constant (.int 3) k p1) p2] e X.env=pure none) Fc.ag) (h1:autoParam ((assignEach [.Subscript o (.Constant (.int 3) k p1) p2] X.env).map (·.2)=[assign (.Subscript o (.Constant (.int 3) k p1) p2) X.env]) Fc.ag):
    W1 X (.Assign [.Subscript o (.Constant (.int 3) k p1) p2] e pos) Γ N T:=fun σ H0 R0 H R E D dn dr=>by
  refine sS (fO aH (j5 aH dm set_list ha) hs hw h1) (he σ H0 R0 H R E _ fun v H1 R1 E1 s1 e1=>ho σ H0 R0 H1 R1 E1 _ fun u H2 R2 E2 s2 e2=>?_)
  cases e2
  cases e1
  obtain ⟨⟨v,ev,hv⟩,hn⟩:=E2.ent i _ hΓ2
  refine ⟨b,_,3,3,rfl,rfl,hB.get hv,rfl,?_⟩
  exact dn σ _ R2 _ (E2.nj (u:=.lst (gZ (r.1,r.2.1,r.2.2.1,y))) (en:=.ob B') hΓ2 hB.mem ⟨⟨v,ev,hB.set hv⟩,by rw [hB.fp];exact hn⟩ fun b' w=>.inl (by rw [Ent.fp,hB.fp] at w;exact w)) (s1.trans s2) h
theorem WS.uS (i:Nat){sts:List Stmt}{r:Rep α}(hΓ:Γ[i]?=some (.mu r []))(h:∀a,WS X sts (Γ.set i (.ob (bG a [] []))) N T):WS X sts Γ N T:=fun σ H0 R0 H R E D dn dr=>by
  obtain ⟨a,vs,ea,ha,hR,pp⟩:=E.ent i _ hΓ
  cases pp
  refine h a σ H0 R0 H R (E.tell hΓ ⟨⟨.ref a,ea,rfl,ha,⟨rfl,fun i b r h1=>by simp at h1⟩,by simp⟩,fun b hb=>?_⟩ fun b w=>?_) D dn dr
  · rw [show b=a by simpa [bG] using hb];exact hR
  · rw [show b=a by simpa [Ent.fp,bG] using w];exact cQ.mpr ea
theorem pd (i:Nat){x:Str}{p1 p pos:Pos}{a:Addr}{as:List Addr}{rs:List Row}(hm:X.mg "len"=none)(hΓ:Γ[i]?=some (.ob (bG a as rs)))(hN:autoParam (X.N[i]?=some x) Fc.ag)(hv:autoParam (cv X.env.scope x) Fc.bW)
    (hd:autoParam ((x==("__debug__":Str))=false) Fc.aw) (hcd:autoParam ((x==("__classdict__":Str))=false) Fc.aw) (hg:autoParam (Gl X "len") Fc.ag):EV X (.Call (.Name "len" p) [.Name x p1] [] pos) Γ ab (rs.length:Int) Γ:=by
  intro σ H0 R0 H R E Q q
  obtain ⟨⟨v,ea,rfl,ha,hr,_⟩,hR⟩:=E.ent i _ hΓ
  refine eS (dk dF hg hm PySem.boot_len (ba (a9 hN hv hd hcd) bU rfl) (by decide) (by decide) rfl) ⟨.ref a,at_of ea,a,_,rfl,.inl (aX.of ha),?_⟩
  rw [List.length_map,hr.1]
  exact q _ H R E (ak.refl _) rfl
theorem aj.qM {K:PySem.W.Frag}{σ:St}{H0 R0 H:Hp}:∀(as:List Addr) {R:Hp},aj K σ H0 R0 H R Γ→(∀b∈as,H b≠none∧H0 b=none∧Off b σ Γ)→∃R',aj K σ H0 R0 H R' Γ∧ak R R'∧∀b∈as,R' b=H b
  | [],R,E,_=>⟨R,E,ak.refl _,fun b hb=>by cases hb⟩
  | b ::as,R,E,h=>by
    obtain ⟨h1,h2,h3⟩:=h b List.mem_cons_self
    obtain ⟨u,hu⟩:∃u,H b=some u:=by cases q:H b with
      | none=>exact absurd q h1
      | some u=>exact ⟨u,rfl⟩
    have key:∃R1,aj K σ H0 R0 H R1 Γ∧ak R R1∧R1 b=some u:=by
      cases q:R b with
      | none=>exact ⟨_,E.jS hu q h2 h3,ak.fresh q _,ay⟩
      | some u'=>
        have:=E.sub b u' q
        rw [hu] at this
        cases this
        exact ⟨R,E,ak.refl _,q⟩
    obtain ⟨R1,E1,s1,r1⟩:=key
    obtain ⟨R2,E2,s2,r2⟩:=aj.qM as E1 fun c hc=>h c (List.mem_cons_of_mem _ hc)
    refine ⟨R2,E2,s1.trans s2,fun c hc=>?_⟩
    rcases List.mem_cons.mp hc with rfl | hc
    · rw [s2 _ _ r1,hu]
    · exact r2 c hc
theorem WS.outer (i:Nat){sts:List Stmt}{a:Addr}{as:List Addr}{rs:List Row}(hΓ:Γ[i]?=some (.ob (bG a as rs)))(h:WS X sts (Γ.set i (.ob (mR a as rs))) N T):WS X sts Γ N T:=fun σ H0 R0 H R E D dn dr=>by
  obtain ⟨⟨v,ea,rfl,ha,hr,nd⟩,hR⟩:=E.ent i _ hΓ
  obtain ⟨n1,n2⟩:=List.nodup_cons.mp nd
  have hl:i < Γ.length:=(List.getElem?_eq_some_iff.mp hΓ).1
  have apart:∀(j:Nat) (e:Ent),j≠i→Γ[j]?=some e→∀b∈a::as,b∉e.fp (σ[j]?).join:=fun j e hj qj b hb w=>hj (E.ds j i e _ b qj hΓ w hb)
  have E1:aj X.K σ H0 R0 H R (Γ.set i .no):=E.tell hΓ trivial fun b w=>by cases w
  have E2:=E1.jS ha (hR a List.mem_cons_self) (E.nw i _ a hΓ List.mem_cons_self) fun j e qj w=>by
    rcases set_at qj with ⟨rfl,rfl,_⟩ | ⟨hj,q1⟩
    · cases w
    · exact apart j e hj q1 a List.mem_cons_self w
  have s2:ak R (upd R a (.lst (as.map .ref))):=ak.fresh (hR a List.mem_cons_self) _
  have E3:=E2.iJ (i:=i) (e0:=.no) (en:=.ob (mR a as rs)) (List.getElem?_set_self hl) ⟨⟨.ref a,ea,rfl,ay,hr,n2⟩,fun b hb=>by
    rw [aD (show b≠a from fun z=>n1 (z▸hb))];exact hR b (List.mem_cons_of_mem _ hb)⟩ fun b w=>⟨E.nw i _ b hΓ (List.mem_cons_of_mem _ w),fun j e hj qj=>apart j e hj (by rwa [List.getElem?_set_ne (Ne.symm hj)] at qj) b (List.mem_cons_of_mem _ w)⟩
  rw [List.set_set] at E3
  exact h σ H0 R0 H _ E3 D (fun σ2 H2 R2 Γ2 E2 s2'=>dn σ2 H2 R2 Γ2 E2 (s2.trans s2')) dr
theorem gf {K:PySem.W.Frag}{H:Hp}:∀{as:List Addr} {rs:List Row},bQ H as rs→PySem.Paired (fW.R K H) (as.map .ref) rs
  | [],[],_=>.nil
  | [],_::_,h=>absurd h.1 (by simp)
  | _::_,[],h=>absurd h.1 (by simp)
  | a::as,r::rs,h=>.cons ⟨a,rfl,h.2 0 a r rfl rfl⟩ (gf ⟨by simpa using h.1,fun i b q h1 h2=>h.2 (i + 1) b q (by simpa using h1) (by simpa using h2)⟩)
theorem WS.u9 (i:Nat){sts:List Stmt}{a:Addr}{as:List Addr}{rs:List Row}(hΓ:Γ[i]?=some (.ob (mR a as rs)))(hz:rs.length≤sizeLine)(h:WS X sts (Γ.set i (.im (af fW) rs)) N T):WS X sts Γ N T:=fun σ H0 R0 H R E D dn dr=>by
  obtain ⟨⟨v,ea,rfl,ha,hr,nd⟩,hR⟩:=E.ent i _ hΓ
  have hl:i < Γ.length:=(List.getElem?_eq_some_iff.mp hΓ).1
  have E1:aj X.K σ H0 R0 H R (Γ.set i .no):=E.tell hΓ trivial fun b w=>by cases w
  obtain ⟨R',E2,s',rr⟩:=E1.qM as fun b hb=>⟨(Ent.cP (E.ent i _ hΓ) hb).1,E.nw i _ b hΓ hb,fun j e qj w=>by
    rcases set_at qj with ⟨rfl,rfl,_⟩ | ⟨hj,q1⟩
    · cases w
    · exact hj (E.ds j i e _ b q1 hΓ w hb)⟩
  have hr':bQ R' as rs:=hr.loc rr
  have E3:=E2.iJ (i:=i) (e0:=.no) (en:=.im (af fW) rs) (List.getElem?_set_self hl) ⟨.ref a,ea,a,_,rfl,s' _ _ ha,gf hr',hz⟩ fun b w=>by cases w
  rw [List.set_set] at E3
  exact h σ H0 R0 H _ E3 D (fun σ2 H2 R2 Γ2 E2 s2'=>dn σ2 H2 R2 Γ2 E2 (s'.trans s2')) dr
noncomputable def j9:Ent→Ent
  | .im r x=>.im r x
  | _=>.no
theorem aj.frz {K:PySem.W.Frag}{σ:St}{H0 R0 H R:Hp}(E:aj K σ H0 R0 H R Γ):aj K σ H H H H (Γ.map j9):=by
  have noown:∀(i:Nat) (e:Ent) (o:Option V),(Γ.map j9)[i]?=some e→e.fp o=[]:=fun i e o q=>by
    rw [List.getElem?_map] at q
    cases h:Γ[i]? with
    | none=>rw [h] at q;cases q
    | some e'=>rw [h] at q;cases q;cases e'<;>rfl
  refine ⟨Ext.refl (ak.refl _),fun i e q=>?_,fun i e a q w=>absurd w (by rw [noown i e _ q];exact List.not_mem_nil),fun i j e e' a q _ w=>absurd w (by rw [noown i e _ q];exact List.not_mem_nil),by rw [List.length_map];exact E.len⟩
  rw [List.getElem?_map] at q
  cases h:Γ[i]? with
  | none=>rw [h] at q;cases q
  | some e'=>
    rw [h] at q;cases q
    have:=E.ent i e' h
    cases e' with
    | im r x=>obtain ⟨v,e,hr⟩:=this;exact ⟨v,e,r.mono E.sub hr⟩
    | no=>trivial
    | mu r x=>trivial
    | di x=>trivial
    | ob x=>trivial
theorem u4 (i:Nat){Γf:Ga}(hF:∀(σ:St) (H0 R0 H R:Hp),aj X.K σ H0 R0 H R Γ→aj X.K σ H H H H Γf){y:Str}{py spos:Pos}{tg elt iter:Expr}{ifs:List Expr}{scope:Scope}{pos:Pos}{cl:List (Str×Addr)}{own fr:List Str}{ix:List Nat}{ra:Rep α}{rb:Rep β}{xs:List α}{p:α→Bool}{f:α→β}{bf:α→Ga→Ga}
    (flat:∀(K:PySem.W.Frag) (H H':Hp) v y,rb.R K H v y→rb.R K H' v y)
    (S:cF X scope cl own fr ix) (hit:IV X tg iter Γf ra xs Γf)
    (hb:∀(C:Addr) (s:Shared) (H:Hp) (ex:List Addr),BG (ax X scope cl C (own++fr) s H ex) tg ra bf) (hw:∀x,Wk (bf x (bK own ix Γf)) (bK own ix Γf))
    (ht:∀(C:Addr) (s:Shared) (H:Hp) (ex:List Addr) x,x∈xs→TF (ax X scope cl C (own++fr) s H ex) ifs (bf x (bK own ix Γf)) (p x) (bf x (bK own ix Γf)))
    (he:∀(C:Addr) (s:Shared) (H:Hp) (ex:List Addr) x,x∈xs→p x=true→EV (ax X scope cl C (own++fr) s H ex) elt (bf x (bK own ix Γf)) rb (f x) (bf x (bK own ix Γf)))
    (h:N (Γ.set i (.mu rb ((xs.filter p).map f))))
    (hsw:autoParam (swapsWith (.ListComp elt [⟨tg,iter,ifs,0⟩] scope pos) (some (.Name y py)) spos.line X.env=pure true) Fc.ag)
    (hN:autoParam (X.N.Nodup) Fc.dO) (hi':X.N[i]?=some y:=by rfl) (hx:autoParam (Loc X.env.scope y) Fc.dh)
    (hc:autoParam (X.calm=true) Fc.ag) (hs:autoParam (∀x,foldedSetIterable iter X.env x=pure x) Fc.cJ) (hf:autoParam (X.fn y=true∨X.env.scope.names.lookup y=some .local) Fc.fe):
    W1 X (.Assign [.Name y py] (.ListComp elt [⟨tg,iter,ifs,0⟩] scope pos) spos) Γ N T:=fun σ H0 R0 H R E D dn dr=>by
  obtain ⟨wi,hi,hit⟩:=hit
  refine sS (gU (i:=i) (g:=fun v σ H Q=>∀C s Hh ex,eC (ax X scope cl C (own++fr) s Hh ex) tg v σ H Q) (tc:=fun σ H Q=>∀C s Hh ex,fc (ax X scope cl C (own++fr) s Hh ex) ifs σ H Q) (te:=fun σ H Q=>∀C s Hh ex,c4 (ax X scope cl C (own++fr) s Hh ex) elt σ H Q) hsw hN hi' hx hc S hi
    (fun C s H ex=>⟨fun pins s1 σ H v u Q I r h=>h C s _ ex pins s1 u I r,fun pins s1 σ H Q I h=>h C s _ ex pins s1 I,fun pins s1 σ H Q I h=>h C s _ ex pins s1 I⟩) hs hf) ?_
  refine hit σ H H H H (hF σ H0 R0 H R E) _ fun J H1 R1 E1 s1 hz src=>iD (Q:=fun v H'=>D.nx (σ.set i (some v)) H') E1 src hz hb hw ht he fun a vs H' R' xx ha pp=>?_
  have sH:ak H H':=E1.ext.h.trans xx.h
  have E2:=E.grow (H':=H') (R':=R) ⟨sH,ak.refl _,E.sub.trans sH,fun _ _=>rfl⟩
  exact dn _ _ R _ ((E2.grow (Ext.cO E2.sub ha _)).pI (u:=.lst vs) (en:=.mu rb ((xs.filter p).map f)) i ⟨a,vs,rfl,ay,E2.sub.free ha,Paired.map (fun _ _=>flat X.K R' R _ _) pp⟩ (E2.ext.h.free ha) fun j e _ q w=>E2.off ha j e q w) (ak.refl _) h
theorem qH {a:Expr}{p pos:Pos}{r:Row}(hm:X.mg "tuple"=none)(ha:EV X a Γ fW r Γ1)(hs:autoParam (starEach [a] X.env=[(false,eval a X.env)]) Fc.ag)(hg:autoParam (Gl X "tuple") Fc.ag):EV X (.Call (.Name "tuple" p) [a] [] pos) Γ aI r Γ1:=by
  intro σ H0 R0 H R E Q q
  refine eS (eW lI hg hm PyProof.Rows.boot_tuple (ba aH bU hs) (by decide) (by decide) hs) (ha σ H0 R0 H R E _ fun v H1 R1 E1 s1 e1=>?_)
  obtain ⟨b,rfl,hb⟩:=e1
  refine ⟨b,_,rfl,.inl ⟨aX.of (E1.sub _ _ hb),fun l hl=>?_⟩⟩
  exact q _ _ (upd R1 l _) (E1.grow (Ext.fresh E1.sub hl _)) (s1.trans (ak.fresh (E1.sub.free hl) _)) ⟨l,rfl,ay⟩
end
variable {P:Program}{w:World}{K:PySem.W.Frag}{mg:Str→Option Value}{base:Heap}
theorem xu {S:bS}{x qual:Str}{st:Stmt}{f:Addr}{fd:FuncData}{N ps:List Str}{k:Nat}(F:bL K x qual st f fd)(Sc:aE N ps (ah st))(len:∀qs T,S K qs T→qs.length=ps.length)
    (hbody:∀(cdv:Value) (A:Around) (outer:List Env) (s:Shared) (H:Hp) (E:XK) (qs:List Pk) (T:RT),bN k (A.deeper (envOfC qual (ah st) s.heap.objs.size f cdv))→S K qs T→
      WS (ef eo P w K mg base N qual (ah st) f cdv A outer s H E).g7 (cq st) (du qs N.length) (fun _=>False) T):dR P w K mg base eo (k + 1) f fd ps (aG S K):=by
  refine F.ok Sc (fun vs H Q E h=>?_) (fun cdv A outer s H vs Q E hr h=>?_)
  · obtain ⟨R,qs,T,_,p,hS,_⟩:=h
    rw [p.length];exact len qs T hS
  · obtain ⟨R,qs,T,sR,p,hS,q⟩:=h
    have hl:qs.length≤N.length:=by
      rw [len qs T hS]
      have:=congrArg List.length Sc.pre
      rw [List.length_take] at this
      omega
    exact ⟨_,fH,hbody cdv A outer s H E qs T hr hS (L2.start N vs) H R H R (eV sR p hl) {nx:=fun _ H'=>Q .non H',rt:=Q} (fun _ _ _ _ _ _ f=>f.elim) fun v H' R' xx t=>q v H' R' xx t⟩
noncomputable def Def (K:PySem.W.Frag)(mg:Str→Option Value)(x:Str)(st:Stmt)(ps:List Str):Prop:=∃f fd,bL K x x st f fd∧mg x=some (.ref f)∧Binds K fd ps []
theorem aW {h:Heap}{x:Str}{st:Stmt}{ps:List Str}{f:Addr}{oc:Value}{od an:Option Addr}{osl:Array (Option Value)}{kV doc pm cdv ct:Value}(KX:K.In h)(G:h.Ns mainGlobals mg)
    (a:PySem.W.nsIn K mainGlobals x=some (some (.ref f))) (l:K.lookup f=some ⟨oc,od,.func (PySem.W.fnOf x x (dY st) (cq st) (ah st) .none kV doc pm an cdv ct),osl⟩) (c:PySem.W.codeIn K cdv x=true) (k:PySem.W.keepIn K (.ref f)=true)
    (b:∀(kV doc pm:Value) (an:Option Addr) (cdv ct:Value) (us:List Value),us.length=ps.length→bindArgs (PySem.W.fnOf x x (dY st) (cq st) (ah st) .none kV doc pm an cdv ct) ⟨us,[]⟩=pure (ps.zip us)):Def K mg x st ps:=
  ⟨f,_,mL l c k,PySem.W.mg_of KX G a,(mL l c k).binds b⟩
open PySem.Builtin.Int (intBits)
theorem nF {ns:List Int}(h:PySem.W.WData.layableAll [.list (ns.map .int)]=true):∀n∈ns,intBits n≤2 ^ 20:=fun n hn=>by
  have h1:=PySem.W.layableW_arg h _ (List.mem_singleton.mpr rfl)
  have h2:=PySem.W.layableW_item h1 (.int n) (List.mem_map.mpr ⟨n,hn,rfl⟩)
  exact PySem.PyData.bits_of_layable h2
end Fc
namespace Att
open PySem PySem.W PySem.Calls PyProof.Rows
open PySem.Builtin.Int (intBits)
theorem l7 {l:OpenLaw}{n:Nat}{q:Program}{loose:List Str}{XP:(Str→Option Value)→Heap→Prop}{YP:World→Heap→Prop}{d:DefRec}
    (hn:l.most=some n) (hdf:d.params.defaults=[])
    (call:∀(w:World) (s₀ s₁:Shared) (mg mb:Str→Option Value) (fa:Addr) (o:Obj) (pm cd doc:Value) (a:Addr) (vs:List Value) (ns:List Int),
      Ground q loose [] XP w s₀ mg mb s₁.heap→YP w s₁.heap→
      s₁.heap.get? fa=some o→o.data= .func (docDef d.name d.params d.body d.scope pm cd doc)→s₁.heap.CodeRec cd d.name→mg d.name=some (.ref fa)→
      s₁.heap.get? a=some {cls:=.type "list",data:=.seq vs.toArray}→IntsAre vs ns→ns.length≤n→(∀m∈ns,intBits m≤2 ^ 20)→s₁.gens= #[]→
      codeAny (model l.prog w) callerA (.call (.ref fa) ⟨[.ref a],[]⟩) (fun r s'=>r= .ok (.ret (.bool true))∧OldK s₁.heap s'.heap∧s'.os=s₁.os∧AllBare s'.gens) s₁):
    WalkO q loose XP YP l.row.toRowW d [] (fun f vs=>PySem.call f vs):=by
  intro w s₀ s₁ mg mb G Y fa o pm cd doc dV kV ho hd hcd hD hmg hg args vals as hpre hlay hrd hwl hlo
  obtain rfl:dV= .none:=Dflts.none hD hdf
  obtain rfl:kV= .none:=Dflts.noKw hD
  obtain ⟨a,vs,ns,rfl,rfl,hobj,hints,hlen⟩:=pZ hn hpre hwl
  refine enter_call (codeAny_mono (call w s₀ s₁ mg mb fa o pm cd doc a vs ns G Y ho (fd_plain hd) hcd hmg hobj hints hlen (Fc.nF hlay) hg) fun r s' hq=>?_)
  obtain ⟨rfl,h2,h3,h4⟩:=hq
  exact ⟨.inl ⟨.bool true,.bool true,[],rfl,fun _=>rfl,.bool true,qv l _,fun _=>⟨List.Pairwise.nil,fun _ hm=>(nomatch hm)⟩⟩,h2,h3,h4⟩
end Att
namespace L2
open PySem PySem.Spec PyProof.Rows
open PySem.Builtin.Int (intBits)
theorem sZ {l:PySem.W.OpenLaw}{n k:Nat}{q:Program}{loose:List Str}{XP:(Str→Option Value)→Heap→Prop}{YP:World→Heap→Prop}{d:DefRec}{K:Params→PySem.W.Frag}{CX:World→g9}{sp:World→Sp}{x:Str}
    (hn:l.most=some n) (hn2:n≤sizeLine) (hdf:d.params.defaults=[]) (hr:bN k callerA)
    (hY:∀(w:World) (h:Heap),YP w h→(K w.params).In h)
    (F:∀(w:World) (mg:Str→Option Value) (fa:Addr) (h:Heap),(K w.params).In h→h.Ns mainGlobals mg→mg d.name=some (.ref fa)→
      ∃ fd:FuncData,(∀(s:Shared) (u:Value),BindsTo s fd ⟨[u],[]⟩ [(x,u)])∧
        ∀base:Heap,(K w.params).In base→base.Ns mainGlobals mg→dR l.prog w (K w.params) mg base (CX w) k fa fd [x] (sp w))
    (hsp:∀(w:World) (H:Hp) (a:Addr) (ns:List Int),ns.length≤n→(∀m∈ns,intBits m≤2 ^ 20)→tD H→aX (K w.params) H a (ns.map V.int)→sp w [.ref a] H (fun v _=>v= .bl true) fun _ _ _=>False)
    (hCX:∀(w:World) (H:Hp) (s:Shared) (e:Value) (s':Shared),CX w [] H s (fun _ _ _=>False) e s'→False):
    PySem.W.WalkO q loose XP YP l.row.toRowW d [] (fun f vs=>PySem.call f vs):=by
  refine Att.l7 hn hdf fun w s₀ s₁ mg mb fa o pm cd doc a vs ns G Y ho hd hcd hmg hobj hints hlen hbits hg=>?_
  have KX:=hY w _ Y
  obtain ⟨fd,hb,hF⟩:=F w mg fa _ KX G.T.g hmg
  exact tF KX G.T.g G.T.b G.T.builtins G.T.nolimit hg hobj hints (Nat.le_trans hlen hn2) hr hF hb (fun H hO hS=>hsp w H a ns hlen hbits hO hS) fun H e s'=>hCX w H s₁ e s'
end L2
namespace Fc
open PySem PySem.Spec L2
open PyProof.Rows hiding St
section
variable {X:Cx}{Γ Γ1:Ga}
end
section
variable {P:Program}{w:World}{K:PySem.W.Frag}{mg:Str→Option Value}{base:Heap}
end
section
variable {X:Cx}{pins:List (Addr×Obj)}{σ:St}{H:Hp}{s:Shared}{e:Addr}{o:Obj}
end
end Fc
namespace Fc
open PySem PySem.Spec PySem.W PySem.Calls PySem.Builtin.ObjectAttr PySem.Builtin.Getset_descriptor L2
open PyProof.Rows hiding St
section
variable {K:Frag}{D x:Addr}{prog:Program}{w:World}{A:Around}{E:Value→Shared→Prop}{s:Shared}
end
section
variable {X:Cx}{Γ Γ1:Ga}{ea D:Addr}{oe:Obj}
end
end Fc
namespace K1
open PySem
noncomputable abbrev top (i:Nat):Stmt:=PySem.Challenge.pw_fewcounters_k45_whole_parts_by_themselve.main.body.getD i (.Pass ⟨0,0,0,0⟩)
noncomputable abbrev nB:Nat:=14
noncomputable abbrev ni:Nat:=15
noncomputable abbrev rJ:Nat:=16
noncomputable abbrev jQ:Nat:=17
noncomputable abbrev jT:Nat:=18
noncomputable abbrev i4:Nat:=19
noncomputable abbrev jL:Nat:=20
noncomputable abbrev mw:Nat:=21
noncomputable abbrev jX:Nat:=22
noncomputable abbrev pB:Nat:=23
noncomputable abbrev nE:Nat:=24
noncomputable abbrev pO:Nat:=25
noncomputable abbrev p6:Nat:=26
noncomputable abbrev jN:Nat:=27
noncomputable abbrev rQ:Nat:=28
noncomputable abbrev nH:Nat:=30
noncomputable abbrev lZ:Nat:=31
noncomputable abbrev lK:Nat:=32
noncomputable abbrev vq:Nat:=33
noncomputable abbrev oQ:Nat:=34
noncomputable abbrev qm:Nat:=35
noncomputable abbrev nq:Nat:=36
noncomputable abbrev mx:Nat:=37
noncomputable abbrev i9:Nat:=38
noncomputable abbrev rF:Nat:=39
noncomputable abbrev pK:Nat:=40
noncomputable abbrev rP:Nat:=41
noncomputable abbrev lO:Nat:=44
noncomputable abbrev m7:Nat:=45
noncomputable abbrev lN:Nat:=46
noncomputable abbrev l5:Nat:=47
noncomputable abbrev kN:Nat:=48
noncomputable abbrev nL:Nat:=49
noncomputable abbrev mJ:Nat:=51
noncomputable abbrev pz:Nat:=52
noncomputable abbrev ny:Nat:=54
noncomputable abbrev lM:Nat:=55
noncomputable abbrev jG:Nat:=56
noncomputable abbrev yd:Nat:=57
end K1
namespace K1
open PySem L2 Fc
open PySem.Spec hiding Row
open PyProof.Rows hiding St
structure bX (mg:Str→Option Value):Prop where
  mostParts:∃t,mg "MOST_PARTS"=some (.int 4 t)
  leastPlaces:∃t,mg "LEAST_PLACES"=some (.int 2 t)
  mostPlaces:∃t,mg "MOST_PLACES"=some (.int 16 t)
  mostRows:∃t,mg "MOST_ROWS"=some (.int 60 t)
  firstPart:∃t,mg "FIRST_PART"=some (.int 0 t)
  begin_:∃t,mg "BEGIN"=some (.int 0 t)
  end_:∃t,mg "END"=some (.int 1 t)
  noCall:∃t,mg "NO_CALL"=some (.int (-1) t)
  len:mg "len"=none
  all:mg "all"=none
  any:mg "any"=none
  range:mg "range"=none
  enumerate:mg "enumerate"=none
  isinstance:mg "isinstance"=none
  int:mg "int"=none
  bool:mg "bool"=none
  list:mg "list"=none
  tuple:mg "tuple"=none
  min:mg "min"=none
  max:mg "max"=none
  sorted:mg "sorted"=none
  sum:mg "sum"=none
  zip:mg "zip"=none
  reversed:mg "reversed"=none
theorem boot_bool:bootBuiltins "bool"=some (.type "bool"):=by decide +kernel
section
variable {P:Program}{w:World}{K:PySem.W.Frag}{mg:Str→Option Value}{base:Heap}{f:Addr}{fd:FuncData}
theorem cj {xs:List Int}{i:Int}(h0:0≤i)(h1:i < xs.length):cI xs i=some (xs.getD i.toNat 0):=by
  rw [dD h0 h1,List.getElem?_eq_getElem (by omega),List.getD_eq_getElem?_getD,List.getElem?_eq_getElem (by omega)];rfl
noncomputable abbrev uB:Stmt:=top nB
theorem ya:aE ["value"] ["value"] (ah uB):=⟨rfl,rfl,rfl,by decide +kernel,rfl,by decide +kernel,by decide +kernel⟩
noncomputable def qX:bS:=fun K ps T=>∃x:Int,ps=[⟨ab,x⟩]∧T=bP K aK (· =true)
theorem zU (M:bX mg)(F:bL K "is_whole" "is_whole" uB f fd)(hm:mg "is_whole"=some (.ref f))(hb:Binds K fd ["value"] []):aA P w K mg base "is_whole" 1 (aG qX K):=by
  have nd:=ya.nd
  refine bJ F ya hm hb (fun qs T ⟨x,e,_⟩=>by rw [e];rfl) (fun cdv A outer s H E qs T hr hS=>?_)
  obtain ⟨x,rfl,rfl⟩:=hS
  exact ar (bH (d8 (dG M.isinstance M.int PyProof.Rows.boot_int (aa 0 rfl) ty_int) (fun _=>ei (ql (dG M.isinstance M.bool boot_bool (aa 0 rfl) ty_int)))) rfl)
noncomputable abbrev oo:Stmt:=top ni
theorem vT:aE ["values"] ["values"] (ah oo):=⟨rfl,rfl,rfl,by decide +kernel,rfl,by decide +kernel,by decide +kernel⟩
noncomputable def xj:bS:=fun K ps T=>((∃ns:List Int,ps=[⟨af ab,ns⟩])∨(∃r:Row,ps=[⟨aI,r⟩]))∧T=bP K aK (· =true)
theorem all_true {α:Type}(xs:List α):((xs.filter fun _=>true).map fun _=>true).all id=true:=by
  rw [List.all_eq_true];intro b hb
  obtain ⟨_,_,rfl⟩:=List.mem_map.mp hb;rfl
theorem zF (M:bX mg)(CI:aA P w K mg base "is_whole" 1 (aG qX K))(F:bL K "are_whole" "are_whole" oo f fd)(hm:mg "are_whole"=some (.ref f))(hb:Binds K fd ["values"] []):aA P w K mg base "are_whole" 2 (aG xj K):=by
  have nd:=vT.nd
  have ndc:List.Nodup [("value":Str)]:=by decide
  refine bJ F vT hm hb (fun qs T ⟨e,_⟩=>by rcases e with ⟨_,e⟩ | ⟨_,e⟩<;>(rw [e];rfl)) (fun cdv A outer s H E qs T hr hS=>?_)
  obtain ⟨⟨ns,rfl⟩ | ⟨r,rfl⟩,rfl⟩:=hS
  · exact ar (bH (dC M.all (bb.im (aU (own:=["value"]) (fr:=[]) (ix:=[]) (p:=fun _=>true) (f:=fun _=>true) (aJ (so:=ah oo) (N0:=["values"]) rfl rfl (fun x h=>aC h) (by decide +kernel)) (aN (aa 0 rfl))
      (fun C s H ex=>aB 0) (fun x=>⟨.inr rfl,trivial⟩) (fun C s H ex x hx=>br) (fun C s H ex x hx _=>aP CI hr (ae (aa 0 rfl) ao) ⟨_,rfl,rfl⟩)))) (all_true ns))
  · exact ar (bH (dC M.all (bb.im (aU (own:=["value"]) (fr:=[]) (ix:=[]) (p:=fun _=>true) (f:=fun _=>true) (aJ (so:=ah oo) (N0:=["values"]) rfl rfl (fun x h=>aC h) (by decide +kernel)) (yq (aa 0 rfl))
      (fun C s H ex=>aB 0) (fun x=>⟨.inr rfl,trivial⟩) (fun C s H ex x hx=>br) (fun C s H ex x hx _=>aP CI hr (ae (aa 0 rfl) ao) ⟨_,rfl,rfl⟩)))) (all_true _))
end
section
variable {P:Program}{w:World}{K:PySem.W.Frag}{mg:Str→Option Value}{base:Heap}{f:Addr}{fd:FuncData}
noncomputable abbrev tM:Stmt:=top jT
theorem yw:aE ["row"] ["row"] (ah tM):=⟨rfl,rfl,rfl,by decide +kernel,rfl,by decide +kernel,by decide +kernel⟩
noncomputable def An:bS:=fun K ps T=>∃r:Row,ps=[⟨aI,r⟩]∧T=bP K aK (· =true)
theorem zL (M:bX mg)(CA:aA P w K mg base "are_whole" 2 (aG xj K))(F:bL K "has_row_form" "has_row_form" tM f fd)(hm:mg "has_row_form"=some (.ref f))(hb:Binds K fd ["row"] []):aA P w K mg base "has_row_form" 3 (aG An K):=by
  have nd:=yw.nd
  refine bJ F yw hm hb (fun qs T ⟨x,e,_⟩=>by rw [e];rfl) (fun cdv A outer s H E qs T hr hS=>?_)
  obtain ⟨r,rfl,rfl⟩:=hS
  exact ar (bH (d8 (dG M.isinstance M.tuple PyProof.Rows.boot_tuple (aa 0 rfl) wA) (fun _=>d8 (dP dA (oB M.len (aa 0 rfl) yx) au) (fun _=>ei (aP CA hr (ae (aa 0 rfl) ao) ⟨.inr ⟨_,rfl⟩,rfl⟩)))) rfl)
noncomputable abbrev rA:Stmt:=top jQ
theorem yh:aE ["web","places","rows"] ["web"] (ah rA):=⟨rfl,rfl,rfl,by decide +kernel,rfl,by decide +kernel,by decide +kernel⟩
noncomputable def AK:bS:=fun K ps T=>∃v:av,ps=[⟨cg,v⟩]∧T=bP K aK (· =true)
theorem yQ (M:bX mg)(CA:aA P w K mg base "are_whole" 2 (aG xj K))(CR:aA P w K mg base "has_row_form" 3 (aG An K))(F:bL K "has_web_form" "has_web_form" rA f fd)(hm:mg "has_web_form"=some (.ref f))(hb:Binds K fd ["web"] []):aA P w K mg base "has_web_form" 4 (aG AK K):=by
  have nd:=yh.nd
  have ndc:List.Nodup [("row":Str)]:=by decide
  refine bJ F yh hm hb (fun qs T ⟨x,e,_⟩=>by rw [e];rfl) (fun cdv A outer s H E qs T hr hS=>?_)
  obtain ⟨v,rfl,rfl⟩:=hS
  refine ai (bY (TW.tv (gK (bZ (bR (dG M.isinstance M.tuple PyProof.Rows.boot_tuple (aa 0 rfl) (vp (r:=af ab) (r':=af aI))))) (fun _=>fD (bD mn (oB M.len (aa 0 rfl) (uU (r:=af ab) (r':=af aI))) au)))) (fun h=>absurd h (by decide)) (fun _=>bB ?_))
  refine ai (aZ 1 (cY (r:=af ab) (r':=af aI) (aa 0 rfl)) (ai (aZ 2 (bc (r:=af ab) (r':=af aI) (aa 0 rfl)) ?_)))
  refine ai (bY (TW.tv (gK (bZ (bR (dG M.isinstance M.list PyProof.Rows.boot_list (aa 1 rfl) ty_list))) (fun _=>fD (bZ (bR (dG M.isinstance M.list PyProof.Rows.boot_list (aa 2 rfl) ty_list)))))) (fun h=>absurd h (by decide)) (fun _=>bB ?_))
  exact ar (bH (d8 (aP (CA.mono (by decide:2≤3)) hr (ae (aa 1 rfl) ao) ⟨.inl ⟨_,rfl⟩,rfl⟩) (fun _=>ei (dC M.all (bb.im (aU (own:=["row"]) (fr:=[]) (ix:=[]) (p:=fun _=>true) (f:=fun _=>true) (aJ (so:=ah rA) (N0:=["web","places","rows"]) rfl rfl (fun x h=>aC h) (by decide +kernel)) (aN (aa 2 rfl))
      (fun C s H ex=>aB 0) (fun x=>⟨.inr rfl,trivial⟩) (fun C s H ex x hx=>br) (fun C s H ex x hx _=>aP CR hr (ae (aa 0 rfl) ao) ⟨_,rfl,rfl⟩)))))) (by rw [all_true];rfl))
noncomputable abbrev rR:Stmt:=top i4
theorem wI:aE ["web","places","rows"] ["web"] (ah rR):=⟨rfl,rfl,rfl,by decide +kernel,rfl,by decide +kernel,by decide +kernel⟩
noncomputable def fU (v:av):Bool:=
  if !(decide ((1:Int)≤(v.1.length:Int))&&decide ((v.1.length:Int)≤4)) || !(decide ((1:Int)≤(v.2.length:Int))&&decide ((v.2.length:Int)≤60)) then false
  else ((v.1.filter fun _=>true).map fun n=>decide ((2:Int)≤n)&&decide (n≤16)).all id
noncomputable def AO:bS:=fun K ps T=>∃v:av,ps=[⟨cg,v⟩]∧T=bP K aK (· =fU v)
theorem z3 (M:bX mg)(F:bL K "has_web_sizes" "has_web_sizes" rR f fd)(hm:mg "has_web_sizes"=some (.ref f))(hb:Binds K fd ["web"] []):aA P w K mg base "has_web_sizes" 1 (aG AO K):=by
  have nd:=wI.nd
  have ndc:List.Nodup [("size":Str)]:=by decide
  obtain ⟨t1,h1⟩:=M.mostParts
  obtain ⟨t2,h2⟩:=M.mostRows
  obtain ⟨t3,h3⟩:=M.leastPlaces
  obtain ⟨t4,h4⟩:=M.mostPlaces
  refine bJ F wI hm hb (fun qs T ⟨x,e,_⟩=>by rw [e];rfl) (fun cdv A outer s H E qs T hr hS=>?_)
  obtain ⟨v,rfl,rfl⟩:=hS
  refine ai (aZ 1 (cY (r:=af ab) (r':=af aI) (aa 0 rfl)) (ai (aZ 2 (bc (r:=af ab) (r':=af aI) (aa 0 rfl)) ?_)))
  refine ai (bY (TW.tv (gK (bZ (fG eL eL au (cN M.len (aa 1 rfl)) (cA h1))) (fun _=>fD (bZ (fG eL eL au (cN M.len (aa 2 rfl)) (cA h2)))))) (fun h=>?_) (fun h=>bB ?_))
  · exact ar (bH dt (by rw [fU,if_pos h]))
  · exact ar (bH (dC M.all (bb.im (aU (own:=["size"]) (fr:=[]) (ix:=[]) (p:=fun _=>true) (f:=fun n=>decide ((2:Int)≤n)&&decide (n≤16)) (aJ (so:=ah rR) (N0:=["web","places","rows"]) rfl rfl (fun x h=>aC h) (by decide +kernel)) (aN (aa 1 rfl))
      (fun C s H ex=>aB 0) (fun x=>⟨.inr rfl,trivial⟩) (fun C s H ex x hx=>br) (fun C s H ex x hx _=>fN eL eL (cA h3) (aa 0 rfl) (cA h4))))) (by rw [fU,if_neg (by rw [h];decide)]))
noncomputable abbrev tY:Stmt:=top jL
theorem vU:aE ["places","row","part"] ["places","row"] (ah tY):=⟨rfl,rfl,rfl,by decide +kernel,rfl,by decide +kernel,by decide +kernel⟩
noncomputable def fk (ns:List Int)(r:Row):Bool:=
  if !(decide (0≤r.1)&&decide (r.1 < (ns.length:Int))) then false
  else if !(decide (0≤r.2.1)&&decide (r.2.1 < ns.getD r.1.toNat 0)) || !(decide (0≤r.2.2.1)&&decide (r.2.2.1 < ns.getD r.1.toNat 0)) then false
  else (!decide (r.2.1=1))&&(decide (r.2.2.2= -1) ||(decide (r.1 < r.2.2.2)&&decide (r.2.2.2 < (ns.length:Int))))
noncomputable def Ar:bS:=fun K ps T=>∃ns r,ps=[⟨af ab,ns⟩,⟨aI,r⟩]∧T=bP K aK (· =fk ns r)
theorem zh (M:bX mg)(F:bL K "leads_within" "leads_within" tY f fd)(hm:mg "leads_within"=some (.ref f))(hb:Binds K fd ["places","row"] []):aA P w K mg base "leads_within" 1 (aG Ar K):=by
  have nd:=vU.nd
  obtain ⟨t1,hEND⟩:=M.end_
  obtain ⟨t2,hNC⟩:=M.noCall
  refine bJ F vU hm hb (fun qs T ⟨ns,r,e,_⟩=>by rw [e];rfl) (fun cdv A outer s H E qs T hr hS=>?_)
  obtain ⟨ns,r,rfl,rfl⟩:=hS
  refine ai (aZ 2 (dW (aa 1 rfl)) ?_)
  refine ai (bY (bZ (fG eL dM au (aa 2 rfl) (cN M.len (aa 0 rfl)))) (fun h=>?_) (fun h=>?_))
  · exact ar (bH dt (by rw [fk,if_pos h]))
  refine bB ?_
  have h':0≤r.1∧r.1 < (ns.length:Int):=by simpa using h
  have hix:cI ns r.1=some (ns.getD r.1.toNat 0):=cj h'.1 h'.2
  refine ai (bY (TW.tv (gK (bZ (fG eL dM au (c9 (aa 1 rfl)) (aQ (aa 0 rfl) (aa 2 rfl) hix))) (fun _=>fD (bZ (fG eL dM au (cS (aa 1 rfl)) (aQ (aa 0 rfl) (aa 2 rfl) hix)))))) (fun h2=>?_) (fun h2=>?_))
  · exact ar (bH dt (by rw [fk,if_neg (by rw [h];decide),if_pos h2]))
  refine bB (ar (bH (d8 (dP mn (c9 (aa 1 rfl)) (cA hEND)) (fun _=>ei (yI (dP dA (kJ (aa 1 rfl)) (cA hNC)) (fun _=>ei (fN dM dM (aa 2 rfl) (kJ (aa 1 rfl)) (cN M.len (aa 0 rfl))))))) ?_))
  rw [fk,if_neg (by rw [h];decide),if_neg (by rw [h2];decide)]
noncomputable abbrev qc:Stmt:=top mw
theorem yk:aE ["rows","part"] ["rows","part"] (ah qc):=⟨rfl,rfl,rfl,by decide +kernel,rfl,by decide +kernel,by decide +kernel⟩
noncomputable def called (rs:List Row)(p:Int):Bool:=((rs.filter fun _=>true).map fun r=>decide (r.2.2.2=p)).any id
noncomputable def Av:bS:=fun K ps T=>∃(rs:List Row) (p:Int),ps=[⟨af aI,rs⟩,⟨ab,p⟩]∧T=bP K aK (· =called rs p)
theorem zJ (M:bX mg)(F:bL K "is_called" "is_called" qc f fd)(hm:mg "is_called"=some (.ref f))(hb:Binds K fd ["rows","part"] []):aA P w K mg base "is_called" 1 (aG Av K):=by
  have nd:=yk.nd
  have ndc:List.Nodup [("row":Str),"part"]:=by decide
  refine bJ F yk hm hb (fun qs T ⟨_,_,e,_⟩=>by rw [e];rfl) (fun cdv A outer s H E qs T hr hS=>?_)
  obtain ⟨rs,p,rfl,rfl⟩:=hS
  exact ar (bH (qt M.any (bb.im (aU (own:=["row"]) (fr:=["part"]) (ix:=[1]) (p:=fun _=>true) (f:=fun r=>decide (r.2.2.2=p)) (aJ (so:=ah qc) (N0:=["rows","part"]) rfl rfl (fun x h=>aC h) (by decide +kernel)) (aN (aa 0 rfl))
      (fun C s H ex=>aB 0) (fun x=>⟨.inr rfl,.inl rfl,trivial⟩) (fun C s H ex x hx=>br) (fun C s H ex x hx _=>dP dA (kJ (aa 0 rfl)) (aa 1 rfl))))) rfl)
end
end K1
namespace Fc
open PySem PySem.Spec L2
open PyProof.Rows hiding St
section
variable {X:Cx}{Γ Γ1 Γ2 Γ3:Ga}{α β γ δ:Type}{N:Ga→Prop}{T:RT}
theorem EV.rep {e:Expr}{r:Rep α}{x:α}{r':Rep β}{y:β}(h:EV X e Γ r x Γ1)(c:∀(R:Hp) v,r.R X.K R v x→r'.R X.K R v y):EV X e Γ r' y Γ1:=fun σ H0 R0 H R E Q q=>h σ H0 R0 H R E Q fun v H' R' E' s' e'=>q v H' R' E' s' (c R' v e')
end
section
variable {X:Cx}{Γ Γ1 Γ2 Γ3:Ga}{α β γ δ:Type}{N:Ga→Prop}{T:RT}
theorem paired_ints {K:PySem.W.Frag}{R:Hp}:∀ys:List Int,PySem.Paired (ab.R K R) (ys.map V.int) ys
  | []=>.nil
  | _::r=>.cons rfl (paired_ints r)
theorem lL {a:Expr}{p1 p2 pos pos2:Pos}{n:Int}(hml:X.mg "list"=none)(hmr:X.mg "range"=none)(ha:EV X a Γ ab n Γ1)(hn: -1000000≤n∧n≤1000000)(hs:autoParam (starEach [a] X.env=[(false,eval a X.env)]) Fc.ag)
    (hs2:autoParam (starEach [.Call (.Name "range" p2) [a] [] pos2] X.env=[(false,eval (.Call (.Name "range" p2) [a] [] pos2) X.env)]) Fc.ag) (hc:autoParam (X.calm=true) Fc.ag) (hg:autoParam (Gl X "list") Fc.ag) (hgr:autoParam (Gl X "range") Fc.ag):bb X (.Call (.Name "list" p1) [.Call (.Name "range" p2) [a] [] pos2] [] pos) Γ ab (ups 0 n.toNat) Γ1:=by
  intro σ H0 R0 H R E Q q
  refine eS (eW (lW hc) hg hml PyProof.Rows.boot_list (ba (eW kM hgr hmr boot_range (ba aH bU hs) (by decide) (by decide) hs) bU hs2) (by decide) (by decide) hs2) (ha σ H0 R0 H R E _ fun v H1 R1 E1 s1 e1=>⟨n,by rw [show v=V.int n from e1],fun p hp=>?_⟩)
  refine ⟨p,0,n,rfl,ay,by decide,by decide,hn.1,hn.2,fun d hd=>?_⟩
  have E2:=E1.grow (Ext.cO E1.sub hp (.rng 0 n))
  rw [Int.sub_zero]
  exact q d _ _ R1 (E2.grow (Ext.cO E2.sub hd _)) s1 ay (E2.sub.free hd) (E2.ext.h.free hd) (E2.off hd) (paired_ints _) (by rw [az];exact Nat.le_trans (show n.toNat≤1000000 by omega) (by decide))
end
end Fc
namespace K1
open PySem L2 Fc
open PySem.Spec hiding Row
open PyProof.Rows hiding St
open PySem.Builtin.Int (intBits)
theorem lB {a b:Int}{m:Nat}(hb:0 < b)(ha:intBits a≤m):intBits (a / b)≤m:=by
  rw [← Int.fdiv_eq_ediv_of_nonneg a (Int.le_of_lt hb)];exact bits_fdiv ha
theorem h8 {x y:Int}(h0:0≤x)(h1:x < 4294967296):IntMulOk x y:=.of_left (intBits_le_64 (by omega) (by omega))
theorem eX {n:Nat}{i:Int}(h0:0≤i)(h1:i < n):fg n i=some i.toNat:=by unfold fg;rw [if_pos h0,if_pos h1]
noncomputable abbrev i7:Rep (Int×Int):=aF ab ab
theorem aL {n:Nat}{k:Int}:k∈ups 0 n↔0≤k∧k < n:=by
  unfold ups
  rw [List.mem_map]
  constructor
  · rintro ⟨j,hj,rfl⟩
    have:=List.mem_range.mp hj
    omega
  · rintro ⟨h0,h1⟩
    exact ⟨k.toNat,List.mem_range.mpr (by omega),by omega⟩
theorem jd (n:Nat):(ups 0 n).Pairwise (· < ·):=by
  unfold ups
  rw [List.pairwise_map]
  exact List.pairwise_lt_range.imp fun h=>by omega
theorem eR (n:Nat):(ups 0 n).Nodup:=(jd n).imp fun h=>by omega
theorem bo {n:Nat}(h:n≤1000000):n≤sizeLine:=Nat.le_trans h (by decide)
theorem bV {α:Type}{xs:List α}{i:Int}(d:α)(h0:0≤i)(h1:i < xs.length):cI xs i=some (xs.getD i.toNat d):=by
  rw [dD h0 h1,List.getElem?_eq_getElem (by omega),List.getD_eq_getElem?_getD,List.getElem?_eq_getElem (by omega)];rfl
theorem rep0 (n:Nat):(List.replicate n [(0:Int)]).flatten=List.replicate n 0:=by
  induction n with
  | zero=>rfl
  | succ n ih=>rw [List.replicate_succ,List.flatten_cons,ih,List.replicate_succ];rfl
end K1
namespace Fc
open PySem PySem.Spec L2
open PyProof.Rows hiding St
section
variable {X:Cx}{Γ Γ1 Γ2 Γ3:Ga}{α β γ δ:Type}{N:Ga→Prop}{T:RT}
theorem iV (xs:Array (Int×Tok)):∀n:Nat,preSum (numAt xs) n=((xs.toList.map (·.1)).take n).sum
  | 0=>rfl
  | n + 1=>by
    have e:preSum (numAt xs) (n + 1)=preSum (numAt xs) n + numAt xs n:=rfl
    rw [e,iV xs n,PySem.sum_take_succ,numAt_eq]
theorem qw (hc:X.calm=true):c6 X (.builtin "sum") (fun xs H Q=>∃(p:Addr) (ns:List Int),xs=[.ref p]∧aX X.K H p (ns.map V.int)∧Q (.int ns.sum) H):=by
  intro pins s σ H xs us Q I r h
  obtain ⟨p,ns,rfl,hq,q⟩:=h
  obtain ⟨u,rfl,rx⟩:=vals1 r
  cases rx
  obtain ⟨its,r',pl,hz⟩:=I.list hq
  have hi:=intsAre_of r'
  have hl:=pl.isList
  obtain ⟨xs,e⟩:=hi.allInts.items
  have hns:ns=xs.toList.map (·.1):=by rw [← hi.numsOf,← nums_intItems,← e]
  rw [e] at hl
  refine call_sum_walkG (iter_intList hl fun s₂ e st hfp hlI=>?_)
  subst e
  refine ⟨_,_,_,_,_,_,numAt xs,rfl,Walks.list (A:=X.A.in1) (I.ok.hd hc) _ p hlI (intItems xs),st,hfp,(fun _ _=>intItems_at),fun h' tk t' hk=>?_⟩
  have es:preSum (numAt xs) (intItems xs).size=ns.sum:=by
    rw [iV,hns,List.take_of_length_le]
    simp [intItems]
  rw [es]
  exact ⟨.int _,H,I.kept (old_kept hk),⟨t',rfl⟩,q⟩
theorem jR {a:Expr}{p pos:Pos}{ns:List Int}(hm:X.mg "sum"=none)(ha:EV X a Γ (af ab) ns Γ1)(hs:autoParam (starEach [a] X.env=[(false,eval a X.env)]) Fc.ag)(hc:autoParam (X.calm=true) Fc.ag)(hg:autoParam (Gl X "sum") Fc.ag):EV X (.Call (.Name "sum" p) [a] [] pos) Γ ab ns.sum Γ1:=
  lP (qw hc) hm PyProof.Rows.boot_sum ha (fun R H v Q s ⟨p,vs,e,hp,pp,_⟩ q=>⟨p,ns,by rw [e],by rw [← d2 pp];exact aX.of (s _ _ hp),q _ rfl⟩) hs hg
theorem uH {r:Rep α}{r':Rep β} [DecidableEq α] [DecidableEq β]{n m:Nat}(e:fo r n)(e':fo r' m){X:Cx}{pins:List (Addr×Obj)}{σ:St}{H:Hp}{s:Shared}{R:Hp}{A:Around}(I:Inv X pins σ H s)(sub:ak R H){a b:Addr}{v1 v2 w1 w2:V}{x y:α×β}(ha:R a=some (.tup [v1,v2]))(hb:R b=some (.tup [w1,w2]))
    (p1:r.R X.K R v1 x.1) (p2:r'.R X.K R v2 x.2) (q1:r.R X.K R w1 y.1) (q2:r'.R X.K R w2 y.2) (hu:A.units + (n + 1) < cLine) (hu':A.units + (m + 1) < cLine):
    SeqAt.RcAt A s (.ref a) (.ref b) (decide (x=y))∧SeqAt.RcNeAt A s (.ref a) (.ref b) (!decide (x=y)):=by
  have key:=vR (A:=A) (k:=fun j=>if j=0 then decide (x.1=y.1) else decide (x.2=y.2)) I sub ha hb rfl (by omega) fun us us' hv hw j h1 h2=>by
    cases hv with
    | cons a1 t=>cases t with
      | cons a2 t=>cases t;cases hw with
        | cons b1 t=>cases t with
          | cons b2 t=>
            cases t
            match j,h1 with
            | 0,_=>exact e.eq (A:=A.in1) I sub a1 b1 p1 q1 (by rw [in1_units];omega)
            | 1,_=>exact e'.eq (A:=A.in1) I sub a2 b2 p2 q2 (by rw [in1_units];omega)
            | j + 2,h=>exact absurd h (by simp)
  have d:(List.range [v1,v2].length).all (fun j=>if j=0 then decide (x.1=y.1) else decide (x.2=y.2))=decide (x=y):=by
    obtain ⟨x1,x2⟩:=x
    obtain ⟨y1,y2⟩:=y
    simp [List.range_succ,Bool.eq_iff_iff]
  rw [d] at key
  exact key
theorem uk {r:Rep α}{r':Rep β} [DecidableEq α] [DecidableEq β]{n m:Nat}(e:fo r n)(e':fo r' m)(hu:X.A.units + (n + 1) < cLine)(hu':X.A.units + (m + 1) < cLine){x y:α×β}:fT X .Eq (aF r r') (aF r r') x y (decide (x=y)):=
  ⟨fun v u H Q=>∃R,ak R H∧(aF r r').R X.K R v x∧(aF r r').R X.K R u y∧Q (.bl (decide (x=y))) H,fun pins s σ H v1 u1 v u Q I rx ry ⟨R,sub,h1,h2,q⟩=>by
    obtain ⟨a,v1,v2,rfl,ha,p1,p2⟩:=h1
    obtain ⟨b,w1,w2,rfl,hb,q1,q2⟩:=h2
    cases rx
    cases ry
    exact (uH (A:=X.A) e e' I sub ha hb p1 p2 q1 q2 hu hu').1 _ _ _ _ ⟨.bl _,H,I,rfl,q⟩,fun R H v u Q s h1 h2 q=>⟨R,s,h1,h2,q⟩⟩
theorem sN {a:Expr}{p2 pos p4:Pos}{k:Nat}{w:Row}(ha:EV X a Γ aI w Γ):EV X (.Subscript a (.Slice none (some (.Constant (.int 2) k p4)) none p2) pos) Γ (aF ab ab) (w.1,w.2.1) Γ:=by
  intro σ H0 R0 H R E Q q
  refine eS (lV vV aH nT (ou dm)) (ha σ H0 R0 H R E _ fun v H1 R1 E1 s1 e1=>?_)
  obtain ⟨p,rfl,hp⟩:=e1
  refine ⟨_,rfl,p,_,rfl,dc.of (E1.sub _ _ hp),?_,fun d hd=>?_⟩
  · exact fun z=>absurd z.2 (by show¬(HT.sIx 4 4 (some 2)=4);decide)
  · have s2:ak R1 (upd R1 d (.tup [V.int w.1,V.int w.2.1])):=ak.fresh (E1.sub.free hd) _
    exact q _ _ (upd R1 d (.tup [V.int w.1,V.int w.2.1])) (E1.grow (Ext.fresh E1.sub hd _)) (s1.trans s2) ⟨d,_,_,rfl,ay,rfl,rfl⟩
noncomputable def cC (F:List (Int×Int)):List (Int×V):=F.map fun p=>(p.1,.int p.2)
noncomputable def bq (F:List (Int×Int))(k:Int):Option Int:=(F.find? fun p=>decide (p.1=k)).map (·.2)
noncomputable def e9 (F:List (Int×Int))(k v:Int):List (Int×Int):=if (bq F k).isSome then F.map (fun p=>if p.1=k then (p.1,v) else p) else F++[(k,v)]
theorem fM:∀(F:List (Int×Int)) (k:Int),cy (cB (cC F)) (Sum.inl k:Key)=(bq F k).map V.int
  | [],_=>rfl
  | p ::r,k=>by
    have ih:=fM r k
    by_cases e:p.1=k
    · have e':(Sum.inl p.1:Key)=Sum.inl k:=by rw [e]
      have h1:cy (cB (cC (p::r))) (Sum.inl k:Key)=some (.int p.2):=cK (p:=((Sum.inl p.1:Key),V.int p.2)) e'
      rw [h1]
      unfold bq
      rw [List.find?_cons,decide_eq_true e];rfl
    · have e':¬(Sum.inl p.1:Key)=Sum.inl k:=fun z=>e (Sum.inl.inj z)
      have h1:cy (cB (cC (p::r))) (Sum.inl k:Key)=cy (cB (cC r)) (Sum.inl k:Key):=cL (p:=((Sum.inl p.1:Key),V.int p.2)) e'
      rw [h1,ih]
      unfold bq
      rw [List.find?_cons,decide_eq_false e]
theorem p8 (F:List (Int×Int))(k v:Int):putK (cB (cC F)) (Sum.inl k:Key) (.int v)=cB (cC (e9 F k v)):=by
  unfold putK e9
  rw [dU,fM]
  have e:((bq F k).map V.int).isSome=(bq F k).isSome:=by cases bq F k<;>rfl
  rw [e]
  split
  · unfold cB cC
    simp only [List.map_map]
    apply List.map_congr_left
    intro p _
    simp only [Function.comp]
    by_cases h:p.1=k
    · rw [if_pos (by rw [h]),if_pos h]
    · rw [if_neg (fun z=>h (Sum.inl.inj z)),if_neg h]
  · unfold cB cC
    rw [List.map_append,List.map_append];rfl
theorem eB (F:List (Int×Int))(k:Int):dN (cC F) k=(bq F k).isSome:=by
  rw [← gz,fM];cases bq F k<;>rfl
noncomputable def ip:Rep (List (Int×Int)):=⟨fun _ H v F=>∃a,v= .ref a∧H a=some (.dK (cB (cC F))),fun s ⟨a,e,q⟩=>⟨a,e,s _ _ q⟩⟩
theorem ir {a b:Expr}{pos:Pos}{F:List (Int×Int)}{k y:Int}(hu:X.A.units + 1 < cLine)(ha:EV X a Γ ip F Γ1)(hb:EV X b Γ1 ab k Γ2)(h:bq F k=some y)(hs:autoParam (pk b) Fc.l9):EV X (.Subscript a b pos) Γ ab y Γ2:=by
  intro σ H0 R0 H R E Q q
  refine eS (n8 hu aH aH hs) (ha σ H0 R0 H R E _ fun v H1 R1 E1 s1 e1=>hb σ H0 R0 H1 R1 E1 _ fun u H2 R2 E2 s2 e2=>?_)
  obtain ⟨p,rfl,hp⟩:=ip.mono s2 e1
  cases e2
  have g:=dQ.k (k:=Sum.inl k) (E2.sub _ _ hp)
  rw [fM,h] at g
  exact ⟨p,_,rfl,g,q _ H2 R2 E2 (s1.trans s2) rfl⟩
theorem lX (i:Nat){x:Str}{ke ve:Expr}{p1 p2 pos:Pos}{k v:Int}{F:List (Int×Int)}(hu:X.A.units + 1 < cLine)(hk:EV X ke Γ ab k Γ)(hv':EV X ve Γ ab v Γ)(hΓ:Γ[i]?=some (.di (cC F)))(hz:F.length < sizeLine)(h:N (Γ.set i (.di (cC (e9 F k v)))))
    (hN:autoParam (X.N[i]?=some x) Fc.ag) (hvi:autoParam (cv X.env.scope x) Fc.bW)
    (hd:autoParam ((x==("__debug__":Str))=false) Fc.aw) (hcd:autoParam ((x==("__classdict__":Str))=false) Fc.aw)
    (hs:autoParam (swapsWith ve (some (.Subscript (.Name x p1) ke p2)) pos.line X.env=pure false) Fc.ag):W1 X (.Assign [.Subscript (.Name x p1) ke p2] ve pos) Γ N T:=fun σ H0 R0 H R E D dn dr=>by
  refine sS (n6 hu (a9 hN hvi hd hcd) aH aH hs) (hv' σ H0 R0 H R E _ fun u0 H0' R0' E0 s0 e0=>?_)
  obtain ⟨a,ea,ha,hR⟩:=E0.ent i _ hΓ
  refine ⟨.ref a,at_of ea,hk σ H0 R0 H0' R0' E0 _ fun u H1 R1 E1 s1 e1=>?_⟩
  obtain ⟨a',ea',ha',hR'⟩:=E1.ent i _ hΓ
  rw [ea] at ea';cases ea'
  cases e1
  cases e0
  refine ⟨a,_,rfl,kH.k (k:=Sum.inl k) ha' (by unfold cB cC;rw [List.length_map,List.length_map];exact hz),?_⟩
  rw [p8]
  exact dn σ _ R1 _ (E1.upd (en:=.di (cC (e9 F k v))) hΓ rfl ea hR' ⟨a,rfl,ay,hR'⟩) (s0.trans s1) h
theorem nX (i:Nat){x:Str}{p1 pos:Pos}{P:List (Int×Int)→Prop}{F:List (Int×Int)}(hΓ:Γ[i]?=some (.di (cC F)))(h:P F)(hN:autoParam (X.N[i]?=some x) Fc.ag)(hv:autoParam (cv X.env.scope x) Fc.bW)
    (hd:autoParam ((x==("__debug__":Str))=false) Fc.aw) (hcd:autoParam ((x==("__classdict__":Str))=false) Fc.aw):W1 X (.Return (some (.Name x p1)) pos) Γ N (bP X.K ip P):=fun σ H0 R0 H R E D dn dr=>by
  obtain ⟨a,ea,ha,hR⟩:=E.ent i _ hΓ
  have h0:H0 a=none:=E.new i _ a hΓ rfl ea
  refine sS (dB (a9 hN hv hd hcd)) ⟨.ref a,at_of ea,dr _ H (upd R a (.dK (cB (cC F)))) ⟨E.ext.h,E.ext.r.trans (ak.fresh hR _),fun b o qb=>?_,fun b hb=>?_⟩ ⟨F,⟨a,rfl,ay⟩,h⟩⟩
  · by_cases hb:b=a
    · subst hb;rw [ay] at qb;cases qb;exact ha
    · rw [aD hb] at qb;exact E.ext.s b o qb
  · rw [aD (show b≠a from fun e=>hb (by rw [e];exact h0))];exact E.ext.old b hb
theorem aj.xJ {K:PySem.W.Frag}{σ:St}{H0 R0 H R H' R':Hp}{Γf:Ga}(E:aj K σ H0 R0 H R Γ)(E':aj K σ H H H' R' Γf):aj K σ H0 R0 H' R Γ:=
  E.grow ⟨E'.ext.h,ak.refl _,E.sub.trans E'.ext.h,fun _ _=>rfl⟩
theorem TV.frz {Γf:Ga}(hF:∀(σ:St) (H0 R0 H R:Hp),aj X.K σ H0 R0 H R Γ→aj X.K σ H H H H Γf){e:Expr}{b:Bool}(h:TV X e Γf b Γf):TV X e Γ b Γ:=fun σ H0 R0 H R E Q q=>
  h σ H H H H (hF σ H0 R0 H R E) Q fun H' R' E' s'=>q H' R (E.xJ E') (ak.refl _)
theorem EV.frz {Γf:Ga}(hF:∀(σ:St) (H0 R0 H R:Hp),aj X.K σ H0 R0 H R Γ→aj X.K σ H H H H Γf){e:Expr}{r:Rep α}{y:α}(flat:∀(K:PySem.W.Frag) (H H':Hp) v y,r.R K H v y→r.R K H' v y)(h:EV X e Γf r y Γf):EV X e Γ r y Γ:=fun σ H0 R0 H R E Q q=>
  h σ H H H H (hF σ H0 R0 H R E) Q fun v H' R' E' s' e'=>q v H' R (E.xJ E') (ak.refl _) (flat X.K R' R v y e')
noncomputable def kD:Rep Unit:=⟨fun _ _ v _=>v= .non,fun _ h=>h⟩
theorem fv {S:bS}{x:Str}{k:Nat}{e:Expr}{es:List Expr}{p p2 pos:Pos}{ps:List Pk}{Pd:Unit→Prop}(C:aA X.prog X.w X.K X.mg X.base x k (aG S X.K))(hr:bN k X.A)(ha:HA X (e::es) Γ ps Γ1)(hS:S X.K ps (bP X.K kD Pd))(h:N Γ1)
    (hg:autoParam (Gl X x) Fc.ag) (hdb:autoParam ((x==("__debug__":Str))=false) Fc.aw) (he:autoParam (starEach (e::es) X.env=(false,eval e X.env)::starEach es X.env) Fc.ag) (hpl:autoParam ((backTo p2 (starEach es X.env)).any (·.1)=false) Fc.ag)
    (hsw:autoParam (swapsWith (.Call (.Name x p) (e::es) [] p2) none pos.line X.env=pure false) Fc.ag):W1 X (.Expr (.Call (.Name x p) (e::es) [] p2) pos) Γ N T:=fun σ H0 R0 H R E D dn dr=>
  sS (fz aH hsw) (c5 C hr ha hS E (fun H1 R1 v H' R' E1 s1 xx t=>dn σ H' R' _ (E1.grow xx) (s1.trans xx.r) h) hg hdb he hpl)
end
section
variable {P:Program}{w:World}{K:PySem.W.Frag}{mg:Str→Option Value}{base:Heap}{α:Type}
theorem nk {S:bS}{x qual:Str}{st:Stmt}{f:Addr}{fd:FuncData}{N ps:List Str}{k:Nat}(F:bL K x qual st f fd)(Sc:aE N ps (ah st))(hm:mg x=some (.ref f))(hb:Binds K fd ps [])(len:∀qs T,S K qs T→qs.length=ps.length)
    (hbody:∀(cdv:Value) (A:Around) (outer:List Env) (s:Shared) (H:Hp) (E:XK) (qs:List Pk) (T:RT),bN k (A.deeper (envOfC qual (ah st) s.heap.objs.size f cdv))→S K qs T→(∀H0 H' R',T H0 .non H' R')∧
      WS (ef eo P w K mg base N qual (ah st) f cdv A outer s H E).g7 (cq st) (du qs N.length) (fun _=>True) T):aA P w K mg base x (k + 1) (aG S K):=by
  refine ⟨f,fd,ps,?_,hm,F.kp,hb⟩
  refine F.ok Sc (fun vs H Q E h=>?_) (fun cdv A outer s H vs Q E hr h=>?_)
  · obtain ⟨R,qs,T,_,p,hS,_⟩:=h
    rw [p.length];exact len qs T hS
  · obtain ⟨R,qs,T,sR,p,hS,q⟩:=h
    have hl:qs.length≤N.length:=by
      rw [len qs T hS]
      have:=congrArg List.length Sc.pre
      rw [List.length_take] at this
      omega
    obtain ⟨h1,h2⟩:=hbody cdv A outer s H E qs T hr hS
    exact ⟨_,fH,h2 (L2.start N vs) H R H R (eV sR p hl) {nx:=fun _ H'=>Q .non H',rt:=Q} (fun σ' H' R' Γ' E' _ _=>q .non H' R' E'.ext (h1 _ _ _)) fun v H' R' xx t=>q v H' R' xx t⟩
end
section
variable {X:Cx}{Γ Γ1 Γ2 Γ3:Ga}{α β γ δ:Type}{N:Ga→Prop}{T:RT}
theorem yJ (i:Nat){x:Str}{pos:Pos}{r:Rep α}{xs:List α}(hΓ:Γ[i]?=some (.im (af r) xs))(hN:autoParam (X.N[i]?=some x) Fc.ag)(hv:autoParam (cv X.env.scope x) Fc.bW)
    (hd:autoParam ((x==("__debug__":Str))=false) Fc.aw) (hcd:autoParam ((x==("__classdict__":Str))=false) Fc.aw)
    (he:autoParam (∀whole,isTrue (.Name x pos) X.env whole=(do let v ← whole;standAt (Expr.Name x pos).pos;holding [v] (truthy v))) Fc.cJ):TV X (.Name x pos) Γ (!xs.isEmpty) Γ:=by
  intro σ H0 R0 H R E Q q
  obtain ⟨v,ea,a,vs,rfl,ha,pp,_⟩:=E.ent i _ hΓ
  refine tS (nc (a9 hN hv hd hcd) he) ⟨.ref a,at_of ea, !xs.isEmpty,.inl ⟨vs,aX.of (E.sub _ _ ha),?_⟩,q H R E (ak.refl _)⟩
  cases pp<;>rfl
theorem wD {i:Nat}{r:Rep α}{xs:List α}(hΓ:Γ[i]?=some (.mu r xs))(hz:xs.length≤sizeLine)(σ:St)(H0 R0 H R:Hp)(E:aj X.K σ H0 R0 H R Γ):aj X.K σ H H H H ((Γ.map j9).set i (.im (af r) xs)):=by
  obtain ⟨a,vs,ea,ha,hR,pp⟩:=E.ent i _ hΓ
  exact E.frz.iJ (i:=i) (e0:=.no) (by rw [List.getElem?_map,hΓ];rfl) ⟨.ref a,ea,a,vs,rfl,ha,Paired.map (fun _ _=>r.mono E.sub) pp,hz⟩ fun b w=>by cases w
theorem vb (i:Nat){x:Str}{p1 pos:Pos}{r:Rep α}{xs:List α}{P:List α→Prop}(hΓ:Γ[i]?=some (.mu r xs))(hz:xs.length≤sizeLine)(h:P xs)(hN:autoParam (X.N[i]?=some x) Fc.ag)(hv:autoParam (cv X.env.scope x) Fc.bW)
    (hd:autoParam ((x==("__debug__":Str))=false) Fc.aw) (hcd:autoParam ((x==("__classdict__":Str))=false) Fc.aw):W1 X (.Return (some (.Name x p1)) pos) Γ N (hU X.K r P):=fun σ H0 R0 H R E D dn dr=>by
  obtain ⟨a,vs,ea,ha,hR,pp⟩:=E.ent i _ hΓ
  exact sS (dB (a9 hN hv hd hcd)) ⟨.ref a,at_of ea,dr _ H R E.ext ⟨a,vs,xs,rfl,E.new i _ a hΓ rfl ea,ha,hR,pp,hz,h⟩⟩
end
section
variable {X:Cx}{Γ Γ1 Γ2 Γ3:Ga}{α β γ δ:Type}{N:Ga→Prop}{T:RT}
end
section
variable {X:Cx}{Γ Γ1 Γ2 Γ3:Ga}{α β γ δ:Type}{N:Ga→Prop}{T:RT}
end
end Fc
namespace K1
open PySem L2 Fc
open PySem.Spec hiding Row
open PyProof.Rows hiding St
open PySem.Builtin.Int (intBits)
theorem fR {α:Type} [DecidableEq α]:∀{xs ys:List α},xs.Nodup→(∀x∈xs,x∈ys)→xs.length≤ys.length
  | [],_,_,_=>Nat.zero_le _
  | x::xs,ys,h,hs=>by
    obtain ⟨h1,h2⟩:=List.nodup_cons.mp h
    have hx:x∈ys:=hs x List.mem_cons_self
    have:=fR (xs:=xs) (ys:=ys.erase x) h2 fun y hy=>(List.mem_erase_of_ne (show y≠x from fun e=>h1 (e▸hy))).mpr (hs y (List.mem_cons_of_mem _ hy))
    rw [List.length_erase_of_mem hx] at this
    have:=List.length_pos_of_mem hx
    rw [List.length_cons]
    omega
theorem rC {α:Type} [DecidableEq α]{xs ys:List α}(h:xs.Nodup)(h':ys.Nodup)(e:∀x,x∈xs↔x∈ys):xs.length=ys.length:=
  Nat.le_antisymm (fR h fun x hx=>(e x).mp hx) (fR h' fun x hx=>(e x).mpr hx)
noncomputable def iX (ks:List Int):List (Int×V):=ks.map fun k=>(k,.bl true)
theorem kF (ks:List Int)(k:Int):dN (iX ks) k=decide (k∈ks):=by
  unfold dN iX
  rw [List.any_map,Bool.eq_iff_iff,List.any_eq_true]
  simp
structure mU (es:List (Int×Int)) (s:Int) (ks ws:List Int):Prop where
  nd:ks.Nodup
  re:∀k∈ks,Reach es s k
  st:s∈ks
  wt:∀k∈ws,k∈ks
  bd:∀k∈ks,k∈s::es.map (·.2)
theorem mU.le {es:List (Int×Int)}{s:Int}{ks ws:List Int}(h:mU es s ks ws):ks.length≤es.length + 1:=by
  have:=fR h.nd h.bd
  simpa using this
section
variable {P:Program}{w:World}{K:PySem.W.Frag}{mg:Str→Option Value}{base:Heap}{f:Addr}{fd:FuncData}
noncomputable abbrev uw:Stmt:=top pB
noncomputable abbrev nRE:List Str:=["leads","start","found","waiting","place","lead"]
theorem yB:aE nRE ["leads","start"] (ah uw):=⟨rfl,rfl,rfl,by decide +kernel,rfl,by decide +kernel,by decide +kernel⟩
noncomputable def wM:bS:=fun K ps T=>∃(es:List (Int×Int)) (s:Int),ps=[⟨af i7,es⟩,⟨ab,s⟩]∧es.length≤100000∧T=bP K kc fun kvs=>(kvs.map (·.1)).Nodup∧∀k,k∈kvs.map (·.1)↔Reach es s k
theorem yL    (F:bL K "reached" "reached" uw f fd)(hm:mg "reached"=some (.ref f))(hb:Binds K fd ["leads","start"] []):aA P w K mg base "reached" 1 (aG wM K):=by
  have nd:=yB.nd
  refine bJ F yB hm hb (fun qs T ⟨_,_,e,_⟩=>by rw [e];rfl) (fun cdv A outer s H E qs T hr hS=>?_)
  obtain ⟨es,s0,rfl,hlen,rfl⟩:=hS
  have hu:=yK hr
  change WS _ _ [.im (af i7) es,.im ab s0,.no,.no,.no,.no] _ _
  refine ai (iI 2 (oT 1 rfl) oN (ai (dq 3 (bh (aO (aa 1 rfl) bF) (by show 1≤sizeLine;decide)) ?_)))
  refine ai (gr (fun m Γ=>∃ks ws v4 v5,Γ=[.im (af i7) es,.im ab s0,.di (iX ks),.mu ab ws,v4,v5]∧mU es s0 ks ws∧m=2 * (es.length + 1 - ks.length) + ws.length∧m≤2 * es.length + 1∧∀k∈ks,k∉ws→∀b,(k,b)∈es→b∈ks) (m0:=2 * (es.length + 1 - 1) + 1)
    ⟨[s0],[s0],.no,.no,rfl,⟨by simp,fun k hk=>by rw [List.mem_singleton.mp hk];exact .base,List.mem_singleton.mpr rfl,fun k hk=>hk,fun k hk=>by rw [List.mem_singleton.mp hk];exact List.mem_cons_self⟩,rfl,Nat.le_refl _,fun k hk hn=>absurd hk hn⟩ ?_)
  rintro m Γ ⟨ks,ws,v4,v5,rfl,hI,rfl,hmb,hcl⟩
  refine ⟨!ws.isEmpty,_,wN 3 rfl,fun hne=>?_,fun he=>?_⟩
  · have hws:ws≠[]:=by intro e;rw [e] at hne;exact absurd hne (by decide)
    have hpos:0 < ws.length:=List.length_pos_iff.mpr hws
    obtain ⟨p,hp⟩:∃p,ws[ws.length - 1]?=some p:=⟨_,List.getElem?_eq_getElem (by omega)⟩
    have hpm:p∈ws:=List.mem_of_getElem? hp
    have hsplit:ws=ws.dropLast++[p]:=by
      have e:=List.dropLast_concat_getLast hws
      rw [List.getLast_eq_getElem,] at e
      rw [List.getElem?_eq_getElem (by omega)] at hp
      rw [Option.some.inj hp] at e
      exact e.symm
    have hdl:ws.dropLast.length=ws.length - 1:=List.length_dropLast
    refine ai (aZ 4 (yp 3 rfl hp) ?_)
    refine ar (cZ (r:=i7) (fun i Γ=>∃ks1 ws1 v5,Γ=[.im (af i7) es,.im ab s0,.di (iX ks1),.mu ab ws1,.im ab p,v5]∧mU es s0 ks1 ws1∧p∈ks1∧2 * (es.length + 1 - ks1.length) + ws1.length < 2 * (es.length + 1 - ks.length) + ws.length∧(∀k∈ks1,k∉ws1→k≠p→∀b,(k,b)∈es→b∈ks1)∧∀(j:Nat) b,j < i→es[j]?=some (p,b)→b∈ks1)
      (aN (aa 0 rfl)) (aB 5) ⟨ks,ws.dropLast,v5,rfl,⟨hI.nd,hI.re,hI.st,fun k hk=>hI.wt k (List.dropLast_subset _ hk),hI.bd⟩,hI.wt p hpm,by omega,fun k hk hn hkp=>hcl k hk fun hw=>?_,fun j b hj=>absurd hj (Nat.not_lt_zero _)⟩ ?_ ?_)
    · rw [hsplit] at hw
      rcases List.mem_append.mp hw with q | q
      · exact hn q
      · exact hkp (List.mem_singleton.mp q)
    · rintro i t Γ ht ⟨ks1,ws1,u5,rfl,hJ,hp1,hme,hc1,hc2⟩
      have htm:t∈es:=List.mem_of_getElem? ht
      refine ar (bY (TW.tv (iF (bD dA (cY (aa 5 rfl)) (aa 4 rfl)) (fun _=>iO (iG 2 true hu (bc (aa 5 rfl)) rfl)))) (fun h=>?_) (fun h=>bB ?_))
      · rw [Bool.and_eq_true] at h
        have h1:t.1=p:=of_decide_eq_true h.1
        have h2:t.2∉ks1:=by
          have:=h.2
          rw [if_pos rfl,kF] at this
          simpa using this
        have hJ':mU es s0 (ks1++[t.2]) (ws1++[t.2]):=by
          refine ⟨fB hJ.nd h2,fun k hk=>?_,List.mem_append_left _ hJ.st,fun k hk=>?_,fun k hk=>?_⟩
          · rcases List.mem_append.mp hk with q | q
            · exact hJ.re k q
            · rw [List.mem_singleton.mp q]
              exact .step (hJ.re p hp1) (by rw [← h1];exact htm)
          · rcases List.mem_append.mp hk with q | q
            · exact List.mem_append_left _ (hJ.wt k q)
            · exact List.mem_append_right _ q
          · rcases List.mem_append.mp hk with q | q
            · exact hJ.bd k q
            · rw [List.mem_singleton.mp q]
              exact List.mem_cons_of_mem _ (List.mem_map.mpr ⟨t,htm,rfl⟩)
        have hle:=hJ'.le
        have hle1:=hJ.le
        rw [List.length_append,List.length_singleton] at hle
        refine ai (pX 2 hu (bc (aa 5 rfl)) oN rfl (by rw [kF];exact decide_eq_false h2) (by unfold iX;rw [List.length_map];exact Nat.lt_of_le_of_lt (show ks1.length≤100001 by omega) (by decide)) ?_)
        have ed:iX ks1++[(t.2,V.bl true)]=iX (ks1++[t.2]):=by unfold iX;rw [List.map_append];rfl
        rw [ed]
        have hwl:ws1.length≤400000:=by
          omega
        refine ar (eK 3 (bc (aa 5 rfl)) rfl rfl (Nat.lt_of_le_of_lt hwl (by decide)) ?_)
        refine ⟨ks1++[t.2],ws1++[t.2],_,rfl,hJ',List.mem_append_left _ hp1,?_,fun k hk hn hkp b hb=>?_,fun j b hj hjb=>?_⟩
        · rw [List.length_append,List.length_append,List.length_singleton];omega
        · rcases List.mem_append.mp hk with q | q
          · exact List.mem_append_left _ (hc1 k q (fun z=>hn (List.mem_append_left _ z)) hkp b hb)
          · exact absurd (List.mem_append_right _ q) hn
        · rcases Nat.lt_or_ge j i with q | q
          · exact List.mem_append_left _ (hc2 j b q hjb)
          · have:j=i:=by omega
            subst this
            rw [ht] at hjb
            cases hjb
            exact List.mem_append_right _ (List.mem_singleton.mpr rfl)
      · refine ⟨ks1,ws1,_,rfl,hJ,hp1,hme,hc1,fun j b hj hjb=>?_⟩
        rcases Nat.lt_or_ge j i with q | q
        · exact hc2 j b q hjb
        · have:j=i:=by omega
          subst this
          rw [ht] at hjb
          cases hjb
          have h':=h
          rw [Bool.and_eq_false_iff] at h'
          rcases h' with z | z
          · exact absurd rfl (of_decide_eq_false z)
          · rw [if_pos rfl,kF] at z
            simpa using z
    · rintro Γ ⟨ks1,ws1,u5,rfl,hJ,hp1,hme,hc1,hc2⟩
      refine ⟨_,hme,ks1,ws1,_,_,rfl,hJ,rfl,by omega,fun k hk hn b hb=>?_⟩
      by_cases hkp:k=p
      · subst hkp
        obtain ⟨j,hj⟩:=List.mem_iff_getElem?.mp hb
        exact hc2 j b (List.getElem?_eq_some_iff.mp hj).1 hj
      · exact hc1 k hk hn hkp b hb
  · have hws:ws=[]:=by
      cases ws with
      | nil=>rfl
      | cons _ _=>simp at he
    subst hws
    refine ar (wC 2 rfl ?_)
    have em:(iX ks).map (·.1)=ks:=by unfold iX;rw [List.map_map];exact List.map_id ks
    rw [em]
    exact ⟨hI.nd,fun k=>⟨hI.re k,fun hk=>Reach.sub (P:=fun k=>k∈ks) hI.st (fun a b ha hab=>hcl a ha (by simp) b hab) hk⟩⟩
open Classical in
noncomputable def gm (es:List (Int×Int))(s n:Int):Bool:=decide (∃ks:List Int,ks.Nodup∧(∀k,k∈ks↔Reach es s k)∧(ks.length:Int)=n)
open Classical in
theorem lG {es:List (Int×Int)}{s n:Int}{ks:List Int}(h:ks.Nodup)(e:∀k,k∈ks↔Reach es s k):decide ((ks.length:Int)=n)=gm es s n:=by
  unfold gm
  by_cases hn:(ks.length:Int)=n
  · rw [decide_eq_true hn,decide_eq_true];exact ⟨ks,h,e,hn⟩
  · rw [decide_eq_false hn,decide_eq_false]
    rintro ⟨ks',h',e',hn'⟩
    exact hn (by rw [← hn',rC h h' fun k=>(e k).trans (e' k).symm])
noncomputable def fwd (rs:List Row)(p:Int):List (Int×Int):=(rs.filter fun r=>decide (r.1=p)).map fun r=>(r.2.1,r.2.2.1)
noncomputable def bwd (rs:List Row)(p:Int):List (Int×Int):=(rs.filter fun r=>decide (r.1=p)).map fun r=>(r.2.2.1,r.2.1)
noncomputable def nu (rs:List Row)(p n:Int):Bool:=gm (fwd rs p) 0 n&&gm (bwd rs p) 1 n
noncomputable abbrev nV:Stmt:=top jX
noncomputable abbrev vX:List Str:=["rows","part","size","ahead","behind"]
theorem x3:aE vX ["rows","part","size"] (ah nV):=⟨rfl,rfl,rfl,by decide +kernel,rfl,by decide +kernel,by decide +kernel⟩
noncomputable def As:bS:=fun K ps T=>∃(rs:List Row) (p n:Int),ps=[⟨af aI,rs⟩,⟨ab,p⟩,⟨ab,n⟩]∧rs.length≤1000∧T=bP K aK (· =nu rs p n)
theorem zl (M:bX mg)(CR:aA P w K mg base "reached" 1 (aG wM K))(F:bL K "lies_on_ways" "lies_on_ways" nV f fd)(hm:mg "lies_on_ways"=some (.ref f))(hb:Binds K fd ["rows","part","size"] []):aA P w K mg base "lies_on_ways" 2 (aG As K):=by
  have nd:=x3.nd
  have ndc:List.Nodup [("row":Str),"part"]:=by decide
  obtain ⟨t1,hB⟩:=M.begin_
  obtain ⟨t2,hE⟩:=M.end_
  refine bJ F x3 hm hb (fun qs T ⟨_,_,_,e,_⟩=>by rw [e];rfl) (fun cdv A outer s H E qs T hr hS=>?_)
  obtain ⟨rs,p,n,rfl,hl,rfl⟩:=hS
  change WS _ _ [.im (af aI) rs,.im ab p,.im ab n,.no,.no] _ _
  have lf:∀g:Row→Int×Int,((rs.filter fun r=>decide (r.1=p)).map g).length≤100000:=fun g=>by
    rw [List.length_map]
    have:=List.length_filter_le (fun r:Row=>decide (r.1=p)) rs
    omega
  refine ai (kQ 3 CR hr (ae (bb.im (aU (own:=["row"]) (fr:=["part"]) (ix:=[1]) (p:=fun r=>decide (r.1=p)) (f:=fun r=>(r.2.1,r.2.2.1)) (aJ (so:=ah nV) (N0:=vX) rfl rfl (fun x h=>aC h) (by decide +kernel)) (aN (aa 0 rfl))
      (fun C s H ex=>aB 0) (fun x=>⟨.inr rfl,.inl rfl,trivial⟩) (fun C s H ex x hx=>d5 (bD dA (dW (aa 0 rfl)) (aa 1 rfl))) (fun C s H ex x hx _=>da (ae (c9 (aa 0 rfl)) (ae (cS (aa 0 rfl)) ao))))) (ae (cA hB) ao)) ⟨_,_,rfl,lf _,rfl⟩ ?_)
  rintro kv1 ⟨n1,e1⟩
  refine ai (kQ 4 CR hr (ae (bb.im (aU (own:=["row"]) (fr:=["part"]) (ix:=[1]) (p:=fun r=>decide (r.1=p)) (f:=fun r=>(r.2.2.1,r.2.1)) (aJ (so:=ah nV) (N0:=vX) rfl rfl (fun x h=>aC h) (by decide +kernel)) (aN (aa 0 rfl))
      (fun C s H ex=>aB 0) (fun x=>⟨.inr rfl,.inl rfl,trivial⟩) (fun C s H ex x hx=>d5 (bD dA (dW (aa 0 rfl)) (aa 1 rfl))) (fun C s H ex x hx _=>da (ae (cS (aa 0 rfl)) (ae (c9 (aa 0 rfl)) ao))))) (ae (cA hE) ao)) ⟨_,_,rfl,lf _,rfl⟩ ?_)
  rintro kv2 ⟨n2,e2⟩
  refine ar (bH (d8 (dP dA (kL M.len (aa 3 rfl)) (aa 2 rfl)) (fun _=>ei (dP dA (kL M.len (aa 4 rfl)) (aa 2 rfl)))) ?_)
  have q1:=lG (n:=n) n1 e1
  have q2:=lG (n:=n) n2 e2
  rw [List.length_map] at q1 q2
  show (decide ((kv1.length:Int)=n)&&decide ((kv2.length:Int)=n))=nu rs p n
  rw [q1,q2];rfl
noncomputable abbrev l4:Stmt:=top rJ
noncomputable abbrev tU:List Str:=["web","places","rows"]
theorem wV:aE tU ["web"] (ah l4):=⟨rfl,rfl,rfl,by decide +kernel,rfl,by decide +kernel,by decide +kernel⟩
noncomputable def jn (v:av):Bool:=
  if !fU v then false
  else if !((v.2.filter fun _=>true).map (fk v.1)).all id then false
  else if !(((ups (0 + 1) ((v.1.length:Int) - (0 + 1)).toNat).filter fun _=>true).map (called v.2)).all id then false
  else (((nums v.1).filter fun _=>true).map fun x=>nu v.2 x.1 x.2).all id
noncomputable def AM:bS:=fun K ps T=>∃v:av,ps=[⟨cg,v⟩]∧v.1.length≤1000∧v.2.length≤1000∧T=bP K aK (· =jn v)
theorem zi (M:bX mg)(C1:aA P w K mg base "has_web_form" 4 (aG AK K))(C2:aA P w K mg base "has_web_sizes" 1 (aG AO K))(C3:aA P w K mg base "leads_within" 1 (aG Ar K))(C4:aA P w K mg base "is_called" 1 (aG Av K))(C5:aA P w K mg base "lies_on_ways" 2 (aG As K))(F:bL K "is_web" "is_web" l4 f fd)(hm:mg "is_web"=some (.ref f))(hb:Binds K fd ["web"] []):aA P w K mg base "is_web" 5 (aG AM K):=by
  have nd:=wV.nd
  have C2:=C2.mono (show 1≤4 by decide)
  have C3:=C3.mono (show 1≤4 by decide)
  have C4:=C4.mono (show 1≤4 by decide)
  have C5:=C5.mono (show 2≤4 by decide)
  have nd1:List.Nodup [("row":Str),"places"]:=by decide
  have nd2:List.Nodup [("part":Str),"rows"]:=by decide
  have nd3:List.Nodup [("part":Str),"size","rows"]:=by decide
  obtain ⟨t1,hFP⟩:=M.firstPart
  refine bJ F wV hm hb (fun qs T ⟨_,e,_⟩=>by rw [e];rfl) (fun cdv A outer s H E qs T hr hS=>?_)
  obtain ⟨v,rfl,l1,l2,rfl⟩:=hS
  change WS _ _ [.im cg v,.no,.no] _ _
  refine ai (bY (TW.tv (gK (bZ (bR (aP C1 hr (ae (aa 0 rfl) ao) ⟨v,rfl,rfl⟩))) (fun _=>fD (bZ (bR (aP C2 hr (ae (aa 0 rfl) ao) ⟨v,rfl,rfl⟩)))))) (fun h=>?_) (fun h=>bB ?_))
  · have h:(!fU v)=true:=by simpa using h
    exact ar (bH dt (by rw [jn,if_pos h]))
  have h1:(!fU v)=false:=by simpa using h
  refine ai (aZ 1 (cY (r:=af ab) (r':=af aI) (aa 0 rfl)) (ai (aZ 2 (bc (r:=af ab) (r':=af aI) (aa 0 rfl)) ?_)))
  refine ai (bY (bZ (bR (dC M.all (bb.im (aU (own:=["row"]) (fr:=["places"]) (ix:=[1]) (p:=fun _=>true) (f:=fk v.1) (aJ (so:=ah l4) (N0:=tU) rfl rfl (fun x h=>aC h) (by decide +kernel)) (aN (aa 2 rfl))
      (fun C s H ex=>aB 0) (fun x=>⟨.inr rfl,.inl rfl,trivial⟩) (fun C s H ex x hx=>br) (fun C s H ex x hx _=>aP C3 hr (ae (aa 1 rfl) (ae (aa 0 rfl) ao)) ⟨_,_,rfl,rfl⟩)))))) (fun h=>?_) (fun h=>bB ?_))
  · exact ar (bH dt (by rw [jn,if_neg (by rw [h1];decide),if_pos h]))
  have h2:=h
  refine ai (bY (bZ (bR (dC M.all (bb.im (aU (own:=["part"]) (fr:=["rows"]) (ix:=[2]) (p:=fun _=>true) (f:=called v.2) (aJ (so:=ah l4) (N0:=tU) rfl rfl (fun x h=>aC h) (by decide +kernel)) (kR M.range (cM (cA hFP) au) (cN M.len (aa 1 rfl)) ⟨by decide,by decide,by omega,by omega⟩)
      (fun C s H ex=>aB 0) (fun x=>⟨.inr rfl,.inl rfl,trivial⟩) (fun C s H ex x hx=>br) (fun C s H ex x hx _=>aP C4 hr (ae (aa 1 rfl) (ae (aa 0 rfl) ao)) ⟨_,_,rfl,rfl⟩)))))) (fun h=>?_) (fun h=>bB ?_))
  · exact ar (bH dt (by rw [jn,if_neg (by rw [h1];decide),if_neg (by rw [h2];decide),if_pos h]))
  have h3:=h
  refine ar (bH (dC M.all (bb.im (aU (own:=["part","size"]) (fr:=["rows"]) (ix:=[2]) (p:=fun _=>true) (f:=fun x=>nu v.2 x.1 x.2) (aJ (so:=ah l4) (N0:=tU) rfl rfl (fun x h=>aC h) (by decide +kernel)) (kB M.enumerate (aa 1 rfl))
      (fun C s H ex=>gH 0 1) (fun x=>⟨.inr rfl,.inr rfl,.inl rfl,trivial⟩) (fun C s H ex x hx=>br) (fun C s H ex x hx _=>aP C5 hr (ae (aa 2 rfl) (ae (aa 0 rfl) (ae (aa 1 rfl) ao))) ⟨_,_,_,rfl,l2,rfl⟩)))) ?_)
  rw [jn,if_neg (by rw [h1];decide),if_neg (by rw [h2];decide),if_neg (by rw [h3];decide)]
end
end K1
namespace Fc
open PySem PySem.Spec L2
open PyProof.Rows hiding St
section
variable {X:Cx}{Γ Γ1 Γ2 Γ3:Ga}{α β γ δ:Type}{N:Ga→Prop}{T:RT}
noncomputable def dw (H:Hp)(l:List Addr):Hp:=fun b=>if b∈l then none else H b
theorem gk {H:Hp}{l:List Addr}{b:Addr}(h:b∈l):dw H l b=none:=if_pos h
theorem dj {H:Hp}{l:List Addr}{b:Addr}(h:b∉l):dw H l b=H b:=if_neg h
theorem ji {H:Hp}{l:List Addr}:ak (dw H l) H:=fun b o q=>by
  by_cases h:b∈l
  · rw [gk h] at q;cases q
  · rwa [dj h] at q
theorem aj.uo {K:PySem.W.Frag}{σ:St}{H0 R0 H R H' R':Hp}{i:Nat}{B B':g6}(E:aj K σ H0 R0 H R Γ)(hΓ:Γ[i]?=some (.ob B))(x:Ext (dw H B.fp) R H' R')(ho:(Ent.ob B').ok K H' R' (σ[i]?).join)(hfp:∀b∈B'.fp,b∈B.fp):aj K σ H0 R0 H' R' (Γ.set i (.ob B')):=by
  have h0:∀b∈B.fp,H0 b=none:=fun b hb=>E.nw i _ b hΓ hb
  have out:∀{b:Addr},H0 b≠none→b∉B.fp:=fun h e=>h (h0 _ e)
  have apart:∀(j:Nat) (e:Ent),j≠i→Γ[j]?=some e→∀b∈e.fp (σ[j]?).join,b∉B.fp:=fun j e hj qj b hb w=>hj (E.ds j i e _ b qj hΓ hb w)
  refine ⟨⟨fun b o q=>?_,E.ext.r.trans x.r,x.s,fun b hb=>?_⟩,fun j e q=>?_,fun j e b q w=>?_,fun j k e e' b q q' w w'=>?_,by rw [List.length_set];exact E.len⟩
  · exact x.h b o (by rw [dj (out (by rw [q];exact Option.some_ne_none _))];exact E.ext.h b o q)
  · refine (x.old b ?_).trans (E.ext.old b hb)
    rw [dj (out hb)];exact ak.some E.ext.h hb
  · rcases set_at q with ⟨rfl,rfl,_⟩ | ⟨hj,q1⟩
    · exact ho
    · have h1:=E.ent j e q1
      refine h1.loc (fun b hb=>?_) x.r fun b hb=>?_
      · cases e2:H b with
        | none=>exact absurd e2 (Ent.cP h1 hb).1
        | some u=>exact x.h b u (by rw [dj (apart j e hj q1 b hb)];exact e2)
      · exact (x.old b (by rw [dj (apart j e hj q1 b hb)];exact (Ent.cP h1 hb).1)).trans (Ent.cP h1 hb).2
  · rcases set_at q with ⟨rfl,rfl,_⟩ | ⟨hj,q1⟩
    · exact h0 b (hfp b w)
    · exact E.nw j e b q1 w
  · rcases set_at q with ⟨rfl,rfl,_⟩ | ⟨hj,q1⟩
    · rcases set_at q' with ⟨rfl,rfl,_⟩ | ⟨hk,q1'⟩
      · rfl
      · exact absurd (hfp b w) (apart k e' hk q1' b w')
    · rcases set_at q' with ⟨rfl,rfl,_⟩ | ⟨hk,q1'⟩
      · exact absurd (hfp b w') (apart j e hj q1 b w)
      · exact E.ds _ _ _ _ b q1 q1' w w'
structure ee (P:Type):Type 1 where
  bx:Addr→Addr→P→g6
  fp:∀a b s,(bx a b s).fp=[a,b]
  at_:∀{K H R v a b s},(bx a b s).R K H R v→v= .ref a
noncomputable abbrev jH (P:Type):=PySem.W.Frag→P→List Pk→(P→RT)→Prop
noncomputable def e7 {P:Type}(B:ee P)(S:jH P)(K:PySem.W.Frag):Sp:=fun vs H Q _=>∃R a b s vs' ps T,vs= .ref a::vs'∧ak R H∧(R a=none∧R b=none)∧(B.bx a b s).R K H R (.ref a)∧fX K R vs' ps∧S K s ps T∧
  ∀v H' R' s',Ext (dw H [a,b]) R H' R'→(B.bx a b s').R K H' R' (.ref a)→(R' a=none∧R' b=none)→T s' (dw H [a,b]) v H' R'→Q v H'
theorem dg {P:Type}{B:ee P}{K:PySem.W.Frag}{H R:Hp}{a b:Addr}{s:P}{o:Option V}(h:(Ent.ob (B.bx a b s)).ok K H R o):o=some (.ref a)∧(B.bx a b s).R K H R (.ref a)∧R a=none∧R b=none:=by
  obtain ⟨⟨v,e,hv⟩,hR⟩:=h
  have:=B.at_ hv
  subst this
  exact ⟨e,hv,hR a (by rw [B.fp];simp),hR b (by rw [B.fp];simp)⟩
theorem fV {P:Type}{B:ee P}{K:PySem.W.Frag}{H R:Hp}{a b:Addr}{s:P}(h:(B.bx a b s).R K H R (.ref a))(h1:R a=none)(h2:R b=none):(Ent.ob (B.bx a b s)).ok K H R (some (.ref a)):=
  ⟨⟨_,rfl,h⟩,fun c hc=>by
    rw [B.fp] at hc
    rcases List.mem_cons.mp hc with rfl | hc
    · exact h1
    · rw [List.mem_singleton.mp hc];exact h2⟩
theorem k5 {P:Type}{B:ee P}{S:jH P}{x y:Str}{k:Nat}{es:List Expr}{p p1 pos:Pos}{ps:List Pk}{a b:Addr}{s0 s:P}{TM:P→RT}{Q:VK}{σ:St}{H0 R0 H R:Hp}(i:Nat)(C:aA X.prog X.w X.K X.mg X.base x k (e7 B S X.K))(hr:bN k X.A)(ha:HA X es Γ ps Γ1)(hΓ:Γ[i]?=some (.ob (B.bx a b s0)))(hΓ1:Γ1[i]?=some (.ob (B.bx a b s)))(hS:S X.K s ps TM)(E:aj X.K σ H0 R0 H R Γ)
    (q:∀H1 R1 v H' R' s',aj X.K σ H0 R0 H1 R1 Γ1→ak R R1→Ext (dw H1 [a,b]) R1 H' R'→aj X.K σ H0 R0 H' R' (Γ1.set i (.ob (B.bx a b s')))→TM s' (dw H1 [a,b]) v H' R'→Q v H')
    (hg:Gl X x) (hdb:(x==("__debug__":Str))=false) (he:starEach (.Name y p1::es) X.env=(false,eval (.Name y p1) X.env)::starEach es X.env) (hpl:(backTo pos (starEach es X.env)).any (·.1)=false)
    (hN:X.N[i]?=some y) (hv:cv X.env.scope y) (hd:(y==("__debug__":Str))=false) (hcd:(y==("__classdict__":Str))=false):c4 X (.Call (.Name x p) (.Name y p1::es) [] pos) σ H Q:=by
  obtain ⟨f,fd,pn,F,hm,hk,hb⟩:=C.ex
  obtain ⟨ea,_,_⟩:=dg (E.ent i _ hΓ)
  refine eS (kE F hr hg hm hk hb .nil oH (ba (a9 hN hv hd hcd) jz he) hdb he hpl) ⟨.ref a,at_of ea,ha σ H0 R0 H R E _ fun us H1 R1 E1 s1 p1=>?_⟩
  obtain ⟨ea1,hB,hRa,hRb⟩:=dg (E1.ent i _ hΓ1)
  refine ⟨R1,a,b,s,us,ps,TM,by rw [List.append_nil],E1.sub,⟨hRa,hRb⟩,hB,p1,hS,fun v H' R' s' xx hB' hR' t=>q H1 R1 v H' R' s' E1 s1 xx ?_ t⟩
  refine E1.uo hΓ1 (by rw [B.fp];exact xx) (by rw [ea1];exact fV hB' hR'.1 hR'.2) fun c hc=>?_
  rw [B.fp] at hc ⊢;exact hc
theorem bE (i:Nat){P:Type}{B:ee P}{S:jH P}{x y:Str}{k:Nat}{es:List Expr}{p p1 pos:Pos}{ps:List Pk}{a b:Addr}{s0 s st:P}{rr:Rep β}{z:β}(C:aA X.prog X.w X.K X.mg X.base x k (e7 B S X.K))(hr:bN k X.A)(ha:HA X es Γ ps Γ1)(hΓ:Γ[i]?=some (.ob (B.bx a b s0)))(hΓ1:Γ1[i]?=some (.ob (B.bx a b s)))(hS:S X.K s ps (fun s'=>bP X.K rr fun w=>s'=st∧w=z))
    (hg:autoParam (Gl X x) Fc.ag) (hdb:autoParam ((x==("__debug__":Str))=false) Fc.aw) (he:autoParam (starEach (.Name y p1::es) X.env=(false,eval (.Name y p1) X.env)::starEach es X.env) Fc.ag) (hpl:autoParam ((backTo pos (starEach es X.env)).any (·.1)=false) Fc.ag)
    (hN:autoParam (X.N[i]?=some y) Fc.ag) (hv:autoParam (cv X.env.scope y) Fc.bW) (hd:autoParam ((y==("__debug__":Str))=false) Fc.aw) (hcd:autoParam ((y==("__classdict__":Str))=false) Fc.aw):
    EV X (.Call (.Name x p) (.Name y p1::es) [] pos) Γ rr z (Γ1.set i (.ob (B.bx a b st))):=fun σ H0 R0 H R E Q q=>
  k5 i C hr ha hΓ hΓ1 hS E (fun H1 R1 v H' R' s' _ s1 xx E' t=>by
    obtain ⟨w,e1,rfl,rfl⟩:=t
    exact q v H' R' E' (s1.trans xx.r) e1) hg hdb he hpl hN hv hd hcd
theorem mh {tg:Expr}(i:Nat){P:Type}{B:ee P}{S:jH P}{x y:Str}{k:Nat}{es:List Expr}{p p1 p2 pos:Pos}{ps:List Pk}{a b:Addr}{s0 s:P}{rr:Rep β}{Pd:P→β→Prop}{bf:β→Ga→Ga}(C:aA X.prog X.w X.K X.mg X.base x k (e7 B S X.K))(hr:bN k X.A)(ha:HA X es Γ ps Γ1)(hΓ:Γ[i]?=some (.ob (B.bx a b s0)))(hΓ1:Γ1[i]?=some (.ob (B.bx a b s)))(hS:S X.K s ps (fun s'=>bP X.K rr (Pd s')))(hb:BG X tg rr bf)(h:∀s' z,Pd s' z→N (bf z (Γ1.set i (.ob (B.bx a b s')))))
    (hg:autoParam (Gl X x) Fc.ag) (hdb:autoParam ((x==("__debug__":Str))=false) Fc.aw) (he:autoParam (starEach (.Name y p1::es) X.env=(false,eval (.Name y p1) X.env)::starEach es X.env) Fc.ag) (hpl:autoParam ((backTo p2 (starEach es X.env)).any (·.1)=false) Fc.ag)
    (hN:autoParam (X.N[i]?=some y) Fc.ag) (hv:autoParam (cv X.env.scope y) Fc.bW) (hd:autoParam ((y==("__debug__":Str))=false) Fc.aw) (hcd:autoParam ((y==("__classdict__":Str))=false) Fc.aw)
    (hs:autoParam (swapsWithSole [tg] (.Call (.Name x p) (.Name y p1::es) [] p2) pos.line X.env=pure false) Fc.ag) (hw:autoParam (swappedStores [tg] (.Call (.Name x p) (.Name y p1::es) [] p2) X.env=pure none) Fc.ag) (h1:autoParam ((assignEach [tg] X.env).map (·.2)=[assign tg X.env]) Fc.ag):
    W1 X (.Assign [tg] (.Call (.Name x p) (.Name y p1::es) [] p2) pos) Γ N T:=fun σ H0 R0 H R E D dn dr=>
  sS (fO aH tR hs hw h1) (k5 i C hr ha hΓ hΓ1 hS E (fun H1 R1 v H' R' s' _ s1 xx E' t=>by
    obtain ⟨w,e1,hz⟩:=t
    exact hb σ H0 R0 H' R' _ v w E' e1 _ fun σ2 E2=>dn σ2 H' R' _ E2 (s1.trans xx.r) (h s' w hz)) hg hdb he hpl hN hv hd hcd)
noncomputable def ub (K:PySem.W.Frag){P:Type}(B:ee P)(a b:Addr)(T:P→RT):RT:=fun H0 v H' R'=>∃s',(B.bx a b s').R K H' R' (.ref a)∧(R' a=none∧R' b=none)∧T s' H0 v H' R'
theorem iA (i:Nat){P:Type}{B:ee P}{e:Expr}{pos:Pos}{a b:Addr}{s:P}{rr:Rep β}{y:β}{Pd:P→β→Prop}(he:EV X e Γ rr y Γ1)(hΓ1:Γ1[i]?=some (.ob (B.bx a b s)))(h:Pd s y):W1 X (.Return (some e) pos) Γ N (ub X.K B a b fun s'=>bP X.K rr (Pd s')):=fun σ H0 R0 H R E D dn dr=>
  sS (dB aH) (he σ H0 R0 H R E _ fun v H1 R1 E1 s1 e1=>by
    obtain ⟨ea,hB,hR⟩:=dg (E1.ent i _ hΓ1)
    exact dr v H1 R1 E1.ext ⟨s,hB,hR,y,e1,h⟩)
theorem pw {P:Type}{B:ee P}{K:PySem.W.Frag}{R H:Hp}{a b:Addr}{st:P}{vs:List V}{ps:List Pk}{N:List Str}(s:ak R H)(hR:R a=none∧R b=none)(hB:(B.bx a b st).R K H R (.ref a))(p:fX K R vs ps)(hl:ps.length + 1≤N.length):
    aj K (L2.start N (.ref a::vs)) (dw H [a,b]) R H R (.ob (B.bx a b st)::du ps (N.length - 1)):=by
  obtain ⟨n0,N',rfl⟩:∃n0 N',N=n0::N':=by cases N with
    | nil=>exact absurd hl (by simp)
    | cons n N'=>exact ⟨n,N',rfl⟩
  have hl':ps.length≤N'.length:=by simpa using hl
  have E0:=eV (N:=N') s p hl'
  have es:L2.start (n0::N') (.ref a::vs)=some (.ref a)::L2.start N' vs:=by unfold L2.start;simp
  rw [es]
  have noown:∀(i:Nat) (e:Ent) (o:Option V),(du ps N'.length)[i]?=some e→e.fp o=[]:=fun i e o q=>by
    unfold du at q
    rcases List.mem_append.mp (List.mem_of_getElem? q) with z | z
    · obtain ⟨p,_,rfl⟩:=List.mem_map.mp z;rfl
    · obtain ⟨_,rfl⟩:=List.mem_replicate.mp z;rfl
  refine ⟨⟨ji,ak.refl _,s,fun _ _=>rfl⟩,fun i e q=>?_,fun i e c q w=>?_,fun i j e e' c q q' w w'=>?_,?_⟩
  · cases i with
    | zero=>simp at q;subst q;exact fV hB hR.1 hR.2
    | succ i=>simp at q;simpa using E0.ent i e q
  · cases i with
    | zero=>
      simp at q;subst q
      have w:c∈(B.bx a b st).fp:=w
      rw [B.fp] at w
      exact gk w
    | succ i=>simp at q;rw [noown i e _ q] at w;cases w
  · cases i with
    | succ i=>simp at q;rw [noown i e _ q] at w;cases w
    | zero=>
      cases j with
      | zero=>rfl
      | succ j=>simp at q';rw [noown j e' _ q'] at w';cases w'
  · have:=E0.len
    simp [this]
variable {P:Program}{w:World}{K:PySem.W.Frag}{mg:Str→Option Value}{base:Heap}
theorem kg {Q0:Type}{B:ee Q0}{S:jH Q0}{x qual:Str}{st:Stmt}{f:Addr}{fd:FuncData}{N ps:List Str}{k:Nat}(F:bL K x qual st f fd)(Sc:aE N ps (ah st))(hm:mg x=some (.ref f))(hb:Binds K fd ps [])(len:∀s qs T,S K s qs T→qs.length + 1=ps.length)
    (hbody:∀(cdv:Value) (A:Around) (outer:List Env) (s:Shared) (H:Hp) (E:XK) (a b:Addr) (u:Q0) (qs:List Pk) (T:Q0→RT),bN k (A.deeper (envOfC qual (ah st) s.heap.objs.size f cdv))→S K u qs T→
      WS (ef eo P w K mg base N qual (ah st) f cdv A outer s H E).g7 (cq st) (.ob (B.bx a b u)::du qs (N.length - 1)) (fun Γ=>∃u',Γ[0]?=some (.ob (B.bx a b u'))∧∀H0 H' R',T u' H0 .non H' R') (ub K B a b T)):aA P w K mg base x (k + 1) (e7 B S K):=by
  refine ⟨f,fd,ps,?_,hm,F.kp,hb⟩
  refine F.ok Sc (fun vs H Q E h=>?_) (fun cdv A outer s H vs Q E hr h=>?_)
  · obtain ⟨R,a,b,u,vs',qs,T,rfl,_,_,_,p,hS,_⟩:=h
    rw [List.length_cons,p.length];exact len u qs T hS
  · obtain ⟨R,a,b,u,vs',qs,T,rfl,sR,hR,hB,p,hS,q⟩:=h
    have hl:qs.length + 1≤N.length:=by
      rw [len u qs T hS]
      have:=congrArg List.length Sc.pre
      rw [List.length_take] at this
      omega
    refine ⟨_,fH,hbody cdv A outer s H E a b u qs T hr hS (L2.start N (.ref a::vs')) (dw H [a,b]) R H R (pw sR hR hB p hl) {nx:=fun _ H'=>Q .non H',rt:=Q} (fun σ' H' R' Γ' E' _ ⟨u',hΓ,t⟩=>?_) fun v H' R' xx t=>?_⟩
    · obtain ⟨ea,hB',hR'⟩:=dg (E'.ent 0 _ hΓ)
      exact q .non H' R' u' E'.ext hB' hR' (t _ _ _)
    · obtain ⟨s',h1,h2,h3⟩:=t
      exact q v H' R' s' xx h1 h2 h3
end
section
variable {prog:Program}{w:World}{A:Around}{E:Value→Shared→Prop}{s:Shared}
theorem k8 {it t:Addr}{items:Array Value}(hne:t≠it):∀(n i:Nat) (s:Shared) (Q:List Value→Shared→Prop),s.heap.IsListIter it t i→s.heap.IsList t items→i + n≤items.size→
    (∀h',h'.IsListIter it t (i + n)→Heap.SameBut it s.heap h'→Q ((items.toList.drop i).take n) {s with heap:=h'})→wpAny (model prog w) A (draw (.ref it) n) Q E s
  | 0,i,s,Q,hit,_,_,hQ=>by
    show wpAny _ _ (pure []) Q E s
    exact wpAny_pure (by simpa using hQ s.heap hit (Heap.SameBut.refl ..))
  | n + 1,i,s,Q,hit,ht,hle,hQ=>by
    have hlt:i < items.size:=by omega
    show wpAny _ _ (pyNext (.ref it) >>=_) Q E s
    refine wpAny_bind (wpAny_pyNext_list_item hit ht (x:=items[i]) (by simp [hlt]) fun h₁ hit₁ hs₁=>?_)
    refine wpAny_bind (wpAny_holding (k8 hne n (i + 1) _ _ hit₁ (ht.extBut hs₁.extBut hne) (by omega) fun h₂ hit₂ hs₂=>wpAny_pure ?_))
    have hd:items.toList.drop i=items[i]::items.toList.drop (i + 1):=by simp [List.drop_eq_getElem_cons,hlt]
    have:=hQ h₂ (by rw [show i + (n + 1)=i + 1 + n by omega];exact hit₂) (hs₁.trans hs₂)
    rw [hd,List.take_succ_cons] at this
    exact this
theorem ja {t:Addr}{items:Array Value}{Q:List Value→Shared→Prop}(hh:A.handled=none)(ht:s.heap.IsList t items)
    (hQ:∀h',Heap.ExtBut s.heap.objs.size s.heap h'→Q items.toList {s with heap:=h'}):wpAny (model prog w) A (unpackItems (.ref t) items.size none) Q E s:=by
  have hlt:t≠s.heap.objs.size:=by obtain ⟨o,ho,_⟩:=ht;exact Nat.ne_of_lt (Heap.lt_size ho)
  unfold unpackItems
  refine wpAny_bind ?_
  · unfold notIterableAtAll
    refine wpAny_bind (wpAny_specialOf ht.typeIs slot_list_iter.lookup ?_)
    refine wpAny_pure ?_
    simp only [Bool.false_eq_true,if_false]
    refine wpAny_bind (wpAny_holding (wpAny_pyIter_list ht ?_))
    refine wpAny_bind (wpAny_holding (k8 hlt items.size 0 _ _ ⟨_,Heap.get?_push_size _ rfl,rfl,rfl⟩ (ht.push _) (by omega) fun h₁ hit₁ hs₁=>?_))
    have hall:List.take items.size (List.drop 0 items.toList)=items.toList:=by
      rw [List.drop_zero];exact List.take_of_length_le (by simp)
    rw [hall]
    rw [if_neg (by simp)]
    have ht₁:h₁.IsList t items:=(ht.push _).extBut hs₁.extBut hlt
    refine wpAny_bind (wpAny_holding (wpAny_pyNext_list_end hh hit₁ ht₁ (by simp) fun h₂ he₂=>?_))
    simp only [Option.isSome_none,Bool.false_eq_true,if_false]
    refine wpAny_pure (hQ h₂ fun b o hb e=>he₂ b o hb (hs₁.extBut b o hb (Heap.get?_push_of_some _ e)))
theorem iS {env:Env}{elts:List Expr}{x1}{pos:Pos}{t:Addr}{items:Array Value}{Q:Unit→Shared→Prop}(hh:A.handled=none)(ht:s.heap.IsList t items)
    (hn:(assignEach elts env).length=items.size) (hstar:(assignEach elts env).findIdx? (·.1)=none)
    (h:∀h',Heap.ExtBut s.heap.objs.size s.heap h'→wpAny (model prog w) A (assignInOrder ((assignEach elts env).map (·.2)) items.toList) Q E {s with heap:=h'}):
    wpAny (model prog w) A (assign (.Tuple elts x1 pos) env (.ref t)) Q E s:=by
  rw [assign_Tuple]
  refine wpAny_bind (wpAny_standAt ?_)
  unfold unpack
  rw [hn,hstar]
  exact wpAny_bind (wpAny_holding (ja hh ht h))
end
section
variable {X:Cx}{Γ Γ1 Γ2 Γ3:Ga}{α β γ δ:Type}{N:Ga→Prop}{T:RT}
noncomputable def AS (K:PySem.W.Frag)(n:Nat)(t:jY):TG:=fun v σ H Q=>∃a xs,v= .ref a∧aX K H a xs∧xs.length=n∧t xs σ H Q
theorem qi {es:List Expr}{k:Nat}{pos:Pos}{t:jY}{n:Nat}(hc:X.calm=true)(h:rz X es t)
    (hn:autoParam ((assignEach es X.env).length=n) Fc.ag) (hst:autoParam ((assignEach es X.env).findIdx? (·.1)=none) Fc.ag):PG X (.Tuple es k pos) (AS X.K n t):=by
  intro pins s σ H v u Q I r hw
  obtain ⟨a,xs,e1,hq,hl,hw⟩:=hw
  subst e1
  cases r
  obtain ⟨its,rv,pl,hz⟩:=I.list hq
  refine iS (I.ok.hd hc) pl.isList (by simp [hn,← hl,rv.length]) hst fun h' hx=>?_
  have I1:Inv X pins σ H {s with heap:=h'}:=I.kept (t':=s.toks) fun b o e=>hx b o (Nat.ne_of_lt (Heap.lt_size e)) e
  exact h pins _ σ H xs _ Q I1 (by simpa using rv) hw
noncomputable def d7 (r:Rep α):Rep (α×α):=⟨fun K H v x=>(af r).R K H v [x.1,x.2],fun s h=>(af r).mono s h⟩
theorem kK (i j:Nat){x y:Str}{k:Nat}{p1 p2 pos:Pos}{r:Rep α}(hc:autoParam (X.calm=true) Fc.ag)(hN:autoParam (X.N.Nodup) Fc.dO)(hi:autoParam (X.N[i]?=some x) Fc.ag)(hx:autoParam (Loc X.env.scope x) Fc.dh)(hf:autoParam (X.fn x=true∨X.env.scope.names.lookup x=some .local) Fc.fe)
    (hj:autoParam (X.N[j]?=some y) Fc.ag) (hy:autoParam (Loc X.env.scope y) Fc.dh) (hf':X.fn y=true∨X.env.scope.names.lookup y=some .local:=by first | exact .inl rfl | exact .inr rfl):
    BG X (.Tuple [.Name x p1,.Name y p2] k pos) (d7 r) (fun w Γ=>(Γ.set i (.im r w.1)).set j (.im r w.2)):=fun σ H0 R0 H R Γ v w E h Q q=>by
  obtain ⟨a,vs,rfl,ha,pp,_⟩:=h
  obtain ⟨v1,v2,rfl,e1,e2⟩:∃v1 v2,vs=[v1,v2]∧r.R X.K R v1 w.1∧r.R X.K R v2 w.2:=by
    cases pp with
    | cons h1 t=>cases t with
      | cons h2 t=>cases t;exact ⟨_,_,rfl,h1,h2⟩
  exact gS (qi hc (eE (eG hN hi hx hf) (eE (eG hN hj hy hf') ky))) ⟨a,_,rfl,aX.of (E.sub _ _ ha),rfl,v1,[v2],rfl,v2,[],rfl,rfl,q _ ((E.set i e1).set j e2)⟩
end
noncomputable abbrev Pu:=List Int×Int
noncomputable def tL (a b:Addr)(s:Pu):g6 where
  fp:=[a,b]
  R:=fun K H R v=>v= .ref a∧H a=some (.lst [.ref b,.int s.2])∧H b=some (.lst (s.1.map V.int))∧a≠b
  loc:=fun hH hR ⟨e,h1,h2,h3⟩=>⟨e,(hH a List.mem_cons_self).trans h1,(hH b (by simp)).trans h2,h3⟩
  has:=fun ⟨e,h1,h2,h3⟩ c hc=>by
    rcases List.mem_cons.mp hc with rfl | hc
    · rw [h1];exact Option.some_ne_none _
    · rw [List.mem_singleton.mp hc,h2];exact Option.some_ne_none _
noncomputable def bg:ee Pu:=⟨tL,fun _ _ _=>rfl,fun h=>h.1⟩
noncomputable def rV:Rep V:=⟨fun _ _ v x=>v=x,fun _ h=>h⟩
theorem k9 {K:PySem.W.Frag}{R:Hp}:∀{vs ys:List V},PySem.Paired (rV.R K R) vs ys→vs=ys
  | _,_,.nil=>rfl
  | _,_,.cons h t=>by rw [show _=_ from h,k9 t]
section
variable {X:Cx}{Γ Γ1 Γ2 Γ3:Ga}{α β γ δ:Type}{N:Ga→Prop}{T:RT}
theorem EV.z4 {e:Expr}{n:Int}(h:EV X e Γ ab n Γ1):EV X e Γ rV (.int n) Γ1:=EV.rep h fun _ _ q=>q
theorem sJ (i:Nat){x:Str}{p:Pos}{b:Addr}{r:Rep α}{xs:List α}(hΓ:Γ[i]?=some (.ob (mI b r xs)))(hN:autoParam (X.N[i]?=some x) Fc.ag)(hv:autoParam (cv X.env.scope x) Fc.bW)
    (hd:autoParam ((x==("__debug__":Str))=false) Fc.aw) (hcd:autoParam ((x==("__classdict__":Str))=false) Fc.aw):EV X (.Name x p) Γ rV (.ref b) Γ:=fun σ H0 R0 H R E Q q=>by
  obtain ⟨ea,_⟩:=og (E.ent i _ hΓ)
  exact eS (a9 hN hv hd hcd) ⟨.ref b,at_of ea,q _ H R E (ak.refl _) rfl⟩
noncomputable def oW (P:Pu→Prop):RT:=fun H0 v H' R'=>∃a b s,v= .ref a∧(H0 a=none∧H0 b=none)∧(R' a=none∧R' b=none)∧H' a=some (.lst [.ref b,.int s.2])∧H' b=some (.lst (s.1.map V.int))∧a≠b∧P s
theorem vI (i:Nat){e:Expr}{pos:Pos}{b:Addr}{xs:List Int}{t:Int}{P:Pu→Prop}(he:bb X e Γ rV [.ref b,.int t] Γ1)(hΓ1:Γ1[i]?=some (.ob (mI b ab xs)))(h:P (xs,t)):W1 X (.Return (some e) pos) Γ N (oW P):=fun σ H0 R0 H R E D dn dr=>
  sS (dB aH) (he σ H0 R0 H R E _ fun a vs H1 R1 E1 s1 ha hR h0 off pp _=>by
    obtain ⟨ea,⟨ws,hb,pb⟩,hRb⟩:=og (E1.ent i _ hΓ1)
    have:=k9 pp
    subst this
    have hne:a≠b:=fun z=>off i _ hΓ1 (by rw [z];exact List.mem_singleton.mpr rfl)
    exact dr _ H1 R1 E1.ext ⟨a,b,(xs,t),rfl,⟨h0,E1.nw i _ b hΓ1 (List.mem_singleton.mpr rfl)⟩,⟨hR,hRb⟩,ha,by rw [← d2 pb];exact hb,hne,h⟩)
theorem rZ (i:Nat){S:bS}{x y:Str}{k:Nat}{e:Expr}{es:List Expr}{p p1 p2 pos:Pos}{ps:List Pk}{Pd:Pu→Prop}(C:aA X.prog X.w X.K X.mg X.base x k (aG S X.K))(hr:bN k X.A)(ha:HA X (e::es) Γ ps Γ1)(hS:S X.K ps (oW Pd))(h:∀a b s,Pd s→N (Γ1.set i (.ob (bg.bx a b s))))
    (hg:autoParam (Gl X x) Fc.ag) (hdb:autoParam ((x==("__debug__":Str))=false) Fc.aw) (he:autoParam (starEach (e::es) X.env=(false,eval e X.env)::starEach es X.env) Fc.ag) (hpl:autoParam ((backTo p2 (starEach es X.env)).any (·.1)=false) Fc.ag)
    (hN:autoParam (X.N.Nodup) Fc.dO) (hi:autoParam (X.N[i]?=some y) Fc.ag) (hx:autoParam (Loc X.env.scope y) Fc.dh)
    (hs:autoParam (swapsWith (.Call (.Name x p) (e::es) [] p2) (some (.Name y p1)) pos.line X.env=pure false) Fc.ag) (hf:autoParam (X.fn y=true∨X.env.scope.names.lookup y=some .local) Fc.fe):
    W1 X (.Assign [.Name y p1] (.Call (.Name x p) (e::es) [] p2) pos) Γ N T:=fun σ H0 R0 H R E D dn dr=>
  sS (fP hN hi hx aH hs hf) (c5 C hr ha hS E (fun H1 R1 v H' R' E1 s1 xx t=>by
    obtain ⟨a,b,s,rfl,hn,hR,h1,h2,h3,h4⟩:=t
    have hm:∀c∈(bg.bx a b s).fp,c=a∨c=b:=fun c hc=>by
      rcases List.mem_cons.mp hc with rfl | hc
      · exact .inl rfl
      · exact .inr (List.mem_singleton.mp hc)
    refine dn _ H' R' _ ((E1.grow xx).setG (en:=.ob (bg.bx a b s)) i (fV (B:=bg) ⟨rfl,h1,h2,h3⟩ hR.1 hR.2) (fun c hc=>?_) fun c hc j e _ qj w=>?_) (s1.trans xx.r) (h a b s h4)
    · rcases hm c hc with rfl | rfl
      · exact E1.ext.h.free hn.1
      · exact E1.ext.h.free hn.2
    · rcases hm c hc with rfl | rfl
      · exact (Ent.cP (E1.ent j e qj) w).1 hn.1
      · exact (Ent.cP (E1.ent j e qj) w).1 hn.2) hg hdb he hpl)
theorem uY (i j m:Nat){x y z:Str}{k:Nat}{p p1 p2 p3 pos:Pos}{a b:Addr}{s:Pu}(hΓ:Γ[i]?=some (.ob (bg.bx a b s)))(h:N ((Γ.set j (.im rV (.ref b))).set m (.im ab s.2)))
    (hNi:autoParam (X.N[i]?=some x) Fc.ag) (hv:autoParam (cv X.env.scope x) Fc.bW) (hd:autoParam ((x==("__debug__":Str))=false) Fc.aw) (hcd:autoParam ((x==("__classdict__":Str))=false) Fc.aw)
    (hc:autoParam (X.calm=true) Fc.ag) (hN:autoParam (X.N.Nodup) Fc.dO) (hj:autoParam (X.N[j]?=some y) Fc.ag) (hy:autoParam (Loc X.env.scope y) Fc.dh) (hf:autoParam (X.fn y=true∨X.env.scope.names.lookup y=some .local) Fc.fe)
    (hm:autoParam (X.N[m]?=some z) Fc.ag) (hz:autoParam (Loc X.env.scope z) Fc.dh) (hf':X.fn z=true∨X.env.scope.names.lookup z=some .local:=by first | exact .inl rfl | exact .inr rfl)
    (hs:autoParam (swapsWithSole [.Tuple [.Name y p1,.Name z p2] k p3] (.Name x p) pos.line X.env=pure false) Fc.ag) (hw:autoParam (swappedStores [.Tuple [.Name y p1,.Name z p2] k p3] (.Name x p) X.env=pure none) Fc.ag) (h1:autoParam ((assignEach [.Tuple [.Name y p1,.Name z p2] k p3] X.env).map (·.2)=[assign (.Tuple [.Name y p1,.Name z p2] k p3) X.env]) Fc.ag):
    W1 X (.Assign [.Tuple [.Name y p1,.Name z p2] k p3] (.Name x p) pos) Γ N T:=fun σ H0 R0 H R E D dn dr=>by
  obtain ⟨ea,⟨_,ha,hb,_⟩,_⟩:=dg (E.ent i _ hΓ)
  refine sS (fO (a9 hNi hv hd hcd) (qi hc (eE (eG hN hj hy hf) (eE (eG hN hm hz hf') ky))) hs hw h1) ⟨.ref a,at_of ea,a,_,rfl,aX.of ha,rfl,.ref b,[.int s.2],rfl,.int s.2,[],rfl,rfl,?_⟩
  exact dn _ H R _ ((E.set j (r:=rV) (x:=.ref b) rfl).set m (r:=ab) (x:=s.2) rfl) (ak.refl _) h
theorem r6 (i j:Nat){y:Str}{p p1 pos:Pos}{a b:Addr}{s:Pu}(hm:X.mg "len"=none)(hΓ:Γ[i]?=some (.ob (bg.bx a b s)))(hj:Γ[j]?=some (.im rV (.ref b)))
    (hN:autoParam (X.N[j]?=some y) Fc.ag) (hv:autoParam (cv X.env.scope y) Fc.bW) (hd:autoParam ((y==("__debug__":Str))=false) Fc.aw) (hcd:autoParam ((y==("__classdict__":Str))=false) Fc.aw)
    (hs:autoParam (starEach [.Name y p1] X.env=[(false,eval (.Name y p1) X.env)]) Fc.ag) (hg:autoParam (Gl X "len") Fc.ag):EV X (.Call (.Name "len" p) [.Name y p1] [] pos) Γ ab (s.1.length:Int) Γ:=fun σ H0 R0 H R E Q q=>by
  obtain ⟨ea,⟨_,ha,hb,_⟩,_⟩:=dg (E.ent i _ hΓ)
  obtain ⟨v0,e0,hv0⟩:=E.ent j _ hj
  cases hv0
  refine eS (dk dF hg hm PySem.boot_len (ba (a9 hN hv hd hcd) bU hs) (by decide) (by decide) hs) ⟨.ref b,at_of e0,b,_,rfl,.inl (aX.of hb),?_⟩
  rw [List.length_map]
  exact q _ H R E (ak.refl _) rfl
theorem uK (i j:Nat){y:Str}{e:Expr}{p1 pos:Pos}{a b:Addr}{s:Pu}{k c:Int}(he:EV X e Γ ab k Γ)(hΓ:Γ[i]?=some (.ob (bg.bx a b s)))(hj:Γ[j]?=some (.im rV (.ref b)))(hk:cI s.1 k=some c)
    (hN:autoParam (X.N[j]?=some y) Fc.ag) (hv:autoParam (cv X.env.scope y) Fc.bW) (hd:autoParam ((y==("__debug__":Str))=false) Fc.aw) (hcd:autoParam ((y==("__classdict__":Str))=false) Fc.aw) (hsx:autoParam (eM e) Fc.l9):EV X (.Subscript (.Name y p1) e pos) Γ ab c Γ:=fun σ H0 R0 H R E Q q=>by
  obtain ⟨v0,e0,hv0⟩:=E.ent j _ hj
  cases hv0
  refine eS (fm dX (a9 hN hv hd hcd) aH hsx) ⟨.ref b,at_of e0,he σ H0 R0 H R E _ fun u H2 R2 E2 s2 e2=>?_⟩
  obtain ⟨ea,⟨_,ha,hb,_⟩,_⟩:=dg (E2.ent i _ hΓ)
  obtain ⟨w,e3,e4⟩:=gL (paired_ints (K:=X.K) (R:=R2) s.1) hk
  exact ⟨b,_,k,w,rfl,e2,aX.of hb,e3,q w H2 R2 E2 s2 e4⟩
theorem nG (xs:List Int)(j:Nat)(y:Int):(xs.map V.int).set j (.int y)=(xs.set j y).map V.int:=by rw [List.map_set]
theorem qN (i j:Nat){y:Str}{b0 e:Expr}{p1 p2 pos:Pos}{a b:Addr}{s:Pu}{k c:Int}{n:Nat}(he:EV X e Γ ab c Γ)(hb0:EV X b0 Γ ab k Γ)(hΓ:Γ[i]?=some (.ob (bg.bx a b s)))(hj:Γ[j]?=some (.im rV (.ref b)))(hk:fg s.1.length k=some n)(h:N (Γ.set i (.ob (bg.bx a b (s.1.set n c,s.2)))))
    (hN:autoParam (X.N[j]?=some y) Fc.ag) (hv:autoParam (cv X.env.scope y) Fc.bW) (hd:autoParam ((y==("__debug__":Str))=false) Fc.aw) (hcd:autoParam ((y==("__classdict__":Str))=false) Fc.aw)
    (ha:autoParam (∀v,assign (.Subscript (.Name y p1) b0 p2) X.env v=(do
      let ov ← holding [v] (eval (.Name y p1) X.env)
      let iv ← holding [v,ov] (eval b0 X.env)
      standAt p2
      holding [v,ov,iv] (setItem ov iv v)
      release [v,ov,iv] [])) Fc.cJ)
    (hs:autoParam (swapsWithSole [.Subscript (.Name y p1) b0 p2] e pos.line X.env=pure false) Fc.ag) (hw:autoParam (swappedStores [.Subscript (.Name y p1) b0 p2] e X.env=pure none) Fc.ag) (h1:autoParam ((assignEach [.Subscript (.Name y p1) b0 p2] X.env).map (·.2)=[assign (.Subscript (.Name y p1) b0 p2) X.env]) Fc.ag):
    W1 X (.Assign [.Subscript (.Name y p1) b0 p2] e pos) Γ N T:=fun σ H0 R0 H R E D dn dr=>by
  refine sS (fO aH (j5 (a9 hN hv hd hcd) aH set_list ha) hs hw h1) (he σ H0 R0 H R E _ fun v H1 R1 E1 s1 e1=>?_)
  obtain ⟨v0,e0,hv0⟩:=E1.ent j _ hj
  cases hv0
  refine ⟨.ref b,at_of e0,hb0 σ H0 R0 H1 R1 E1 _ fun u H2 R2 E2 s2 e2=>?_⟩
  obtain ⟨ea,⟨_,h2,h3,hne⟩,hRa,hRb⟩:=dg (E2.ent i _ hΓ)
  cases e1
  refine ⟨b,_,k,n,rfl,e2,h3,by rw [List.length_map];exact hk,?_⟩
  rw [nG]
  exact dn σ _ R2 _ (E2.nj (en:=.ob (bg.bx a b (s.1.set n c,s.2))) hΓ (show b∈[a,b] by simp) (by rw [ea];exact fV (B:=bg) ⟨rfl,by rw [aD hne];exact h2,ay,hne⟩ hRa hRb) fun c w=>.inl w) (s1.trans s2) h
theorem sf (i:Nat){y:Str}{e:Expr}{p1 p2 p3 pos:Pos}{kk:Nat}{a b:Addr}{s:Pu}{c:Int}(he:EV X e Γ ab c Γ)(hΓ:Γ[i]?=some (.ob (bg.bx a b s)))(h:N (Γ.set i (.ob (bg.bx a b (s.1,c)))))
    (hN:autoParam (X.N[i]?=some y) Fc.ag) (hv:autoParam (cv X.env.scope y) Fc.bW) (hd:autoParam ((y==("__debug__":Str))=false) Fc.aw) (hcd:autoParam ((y==("__classdict__":Str))=false) Fc.aw)
    (ha:autoParam (∀v,assign (.Subscript (.Name y p1) (.Constant (.int 1) kk p3) p2) X.env v=(do
      let ov ← holding [v] (eval (.Name y p1) X.env)
      let iv ← holding [v,ov] (eval (.Constant (.int 1) kk p3) X.env)
      standAt p2
      holding [v,ov,iv] (setItem ov iv v)
      release [v,ov,iv] [])) Fc.cJ)
    (hs:autoParam (swapsWithSole [.Subscript (.Name y p1) (.Constant (.int 1) kk p3) p2] e pos.line X.env=pure false) Fc.ag) (hw:autoParam (swappedStores [.Subscript (.Name y p1) (.Constant (.int 1) kk p3) p2] e X.env=pure none) Fc.ag) (h1:autoParam ((assignEach [.Subscript (.Name y p1) (.Constant (.int 1) kk p3) p2] X.env).map (·.2)=[assign (.Subscript (.Name y p1) (.Constant (.int 1) kk p3) p2) X.env]) Fc.ag):
    W1 X (.Assign [.Subscript (.Name y p1) (.Constant (.int 1) kk p3) p2] e pos) Γ N T:=fun σ H0 R0 H R E D dn dr=>by
  refine sS (fO aH (j5 (a9 hN hv hd hcd) dm set_list ha) hs hw h1) (he σ H0 R0 H R E _ fun v H1 R1 E1 s1 e1=>?_)
  obtain ⟨ea,⟨_,h2,h3,hne⟩,hRa,hRb⟩:=dg (E1.ent i _ hΓ)
  cases e1
  refine ⟨.ref a,at_of ea,a,_,1,1,rfl,rfl,h2,rfl,?_⟩
  exact dn σ _ R1 _ (E1.nj (en:=.ob (bg.bx a b (s.1,c))) hΓ (show a∈[a,b] by simp) (by rw [ea];exact fV (B:=bg) ⟨rfl,ay,by rw [aD (Ne.symm hne)];exact h3,hne⟩ hRa hRb) fun c w=>.inl w) s1 h
end
theorem mB {α β:Type}{F:α→β→Prop}{v:α}{y:β}{vs:List α}{xs:List β}(k:Nat)(h:F v y)(p:PySem.Paired F vs xs):PySem.Paired F (cc k v vs) (cc k y xs):=by
  unfold cc
  exact bO (eN k p) (.cons h (gh k p))
noncomputable def n4 (k:Int):Value→Bool
  | .int n _=>decide (n=k)
  | _=>false
section
variable {X:Cx}{Γ Γ1 Γ2 Γ3:Ga}{α β γ δ:Type}{N:Ga→Prop}{T:RT}
theorem o5 (i:Nat){x:Str}{e1 e2:Expr}{p1 ap cp pos:Pos}{r:Rep α}{xs:List α}{y:α}{k:Int}(h1:EV X e1 Γ ab k Γ1)(h2:EV X e2 Γ1 r y Γ2)(hΓ:Γ[i]?=some (.mu r xs))(hΓ2:Γ2[i]?=some (.mu r xs))
    (k0:0≤k) (k1:k≤(xs.length:Int)) (hz:xs.length < sizeLine) (h:N (Γ2.set i (.mu r (cc k.toNat y xs))))
    (hN:autoParam (X.N[i]?=some x) Fc.ag) (hv:autoParam (cv X.env.scope x) Fc.bW)
    (hd:autoParam ((x==("__debug__":Str))=false) Fc.aw) (hcd:autoParam ((x==("__classdict__":Str))=false) Fc.aw)
    (hsw:autoParam (swapsWith (.Call (.Attribute (.Name x p1) "insert" ap) [e1,e2] [] cp) none pos.line X.env=pure false) Fc.ag)
    (hbase:autoParam (attributeBase (.Name x p1) "insert" X.env (eval (.Name x p1) X.env)=eval (.Name x p1) X.env) Fc.ag)
    (hfew:autoParam (((backTo cp (starEach [e1,e2] X.env)).all (fun x=> !x.1)&&(backToKw cp (keywordEach [] X.env)).all (fun x=>x.1.isSome)
      &&decide ([e1,e2].length + ([]:List Keyword).length + (if ([]:List Keyword).isEmpty then 0 else 1) < 30))=true) Fc.ag)
    (hline:autoParam ((ap.endLine==cp.line)=true) Fc.ag) (hs:autoParam (starEach [e1,e2] X.env=(false,eval e1 X.env)::starEach [e2] X.env) Fc.ag) (hs2:autoParam (starEach [e2] X.env=(false,eval e2 X.env)::starEach [] X.env) Fc.ag) (hpl:autoParam ((backTo cp (starEach [e2] X.env)).any (·.1)=false) Fc.ag):
    W1 X (.Expr (.Call (.Attribute (.Name x p1) "insert" ap) [e1,e2] [] cp) pos) Γ N T:=fun σ H0 R0 H R E D dn dr=>by
  obtain ⟨a,vs,ea,ha,hR,pp⟩:=E.ent i _ hΓ
  refine sS (fz (jy PySem.F.plainAttrs_list PySem.F.slot_list_insert PySem.F.type_list_insert qG (a9 hN hv hd hcd) (ba aH (ba aH bU hs2) hs) hbase hfew hline hs hpl) hsw) ?_
  refine ⟨.ref a,at_of ea,.inl ⟨rfl,_,aX.of ha⟩,h1 σ H0 R0 H R E _ fun v1 H1 R1 E1 s1 q1=>h2 σ H0 R0 H1 R1 E1 _ fun v2 H2 R2 E2 s2 q2=>?_⟩
  cases q1
  obtain ⟨a',vs',ea',ha',hR',pp'⟩:=E2.ent i _ hΓ2
  rw [ea] at ea';cases ea'
  refine ⟨a,vs',k,v2,rfl,rfl,ha',k0,by rw [pp'.length];exact k1,by rw [pp'.length];exact hz,?_⟩
  exact dn σ _ R2 _ (E2.upd (en:=.mu r (cc k.toNat y xs)) hΓ2 rfl ea hR' ⟨a,_,rfl,ay,hR',mB _ q2 pp'⟩) (s1.trans s2) h
noncomputable def xU:V→List V→Hp→VK→Prop:=fun x vs H Q=>∃(l:Addr) (ns:List Int) (k:Int) (j:Nat),x= .ref l∧vs=[.int k]∧H l=some (.lst (ns.map V.int))∧ns[j]?=some k∧(∀m,m < j→ns[m]?≠some k)∧Q (.int (j:Nat)) H
theorem sY (hu:X.A.units + 1 < cLine):xA X "list.index" xU:=by
  intro pins s σ H x vs v us Q I rx rv h
  obtain ⟨l,ns,k,j,rfl,rfl,hH,hj,hno,q⟩:=h
  cases rx
  obtain ⟨u,rfl,t,rfl⟩:=rv.one
  obtain ⟨hz,its,m,r1,hl,ho⟩:=I.h7 hH
  have jl:j < ns.length:=(List.getElem?_eq_some_iff.mp hj).1
  have hl2:its.length=ns.length:=by rw [← hl,List.length_map]
  have at_:∀(n:Nat) (h1:n < its.length) (h2:n < ns.length),∃t',its[n]= .int ns[n] t':=fun n h1 h2=>by
    obtain ⟨u,e1,t',e2⟩:=r1.get (show (ns.map V.int)[n]?=some (.int ns[n]) by rw [List.getElem?_map,List.getElem?_eq_getElem h2];rfl)
    rw [List.getElem?_eq_getElem h1] at e1
    exact ⟨t',(Option.some.inj e1).trans e2⟩
  refine call_meets PySem.F.slot_list_index ⟨_,ho,rfl⟩ PySem.F.entry_list_index (PySem.F.args_list_index_2 _ _)
    (SeqAt.list_indexAt l its.toArray m _ _ (.int k t) (n4 k) j (by simpa [hl2] using jl) ?_ ?_ ?_) ⟨ho,fun w hw=>?_,?_⟩
  · have:sizeLine < 2 ^ 63 - 1:=by decide
    rw [List.length_map] at hz
    omega
  · obtain ⟨t',e⟩:=at_ j (by omega) jl
    show n4 k its[j]=true
    rw [e]
    rw [List.getElem?_eq_getElem jl] at hj
    exact decide_eq_true (Option.some.inj hj)
  · intro n hn hnj
    obtain ⟨t',e⟩:=at_ n (by simpa using hn) (by omega)
    show n4 k its[n]=false
    rw [e]
    refine decide_eq_false fun z=>hno n hnj ?_
    rw [List.getElem?_eq_getElem (by omega),z]
  · have hw:w∈its:=by simpa using hw
    obtain ⟨n,hn,rfl⟩:=List.mem_iff_getElem.mp hw
    obtain ⟨t',e⟩:=at_ n hn (by omega)
    rw [e]
    intro prog w E Q hq
    refine wpAny_eqBool_int ?_
    rw [Bool.beq_eq_decide_eq];exact hq
  · exact ⟨.int _,H,I.tok _,⟨_,rfl⟩,q⟩
theorem nv (i:Nat){x:Str}{e:Expr}{p1 ap cp:Pos}{ns:List Int}{k:Int}{j:Nat}(hu:X.A.units + 1 < cLine)(he:EV X e Γ ab k Γ1)(hΓ:Γ[i]?=some (.mu ab ns))(hΓ1:Γ1[i]?=some (.mu ab ns))(hj:ns[j]?=some k)(hno:∀m,m < j→ns[m]?≠some k)
    (hN:autoParam (X.N[i]?=some x) Fc.ag) (hv:autoParam (cv X.env.scope x) Fc.bW)
    (hd:autoParam ((x==("__debug__":Str))=false) Fc.aw) (hcd:autoParam ((x==("__classdict__":Str))=false) Fc.aw)
    (hbase:autoParam (attributeBase (.Name x p1) "index" X.env (eval (.Name x p1) X.env)=eval (.Name x p1) X.env) Fc.ag)
    (hfew:autoParam (((backTo cp (starEach [e] X.env)).all (fun x=> !x.1)&&(backToKw cp (keywordEach [] X.env)).all (fun x=>x.1.isSome)
      &&decide ([e].length + ([]:List Keyword).length + (if ([]:List Keyword).isEmpty then 0 else 1) < 30))=true) Fc.ag)
    (hline:autoParam ((ap.endLine==cp.line)=true) Fc.ag) (hs:autoParam (starEach [e] X.env=(false,eval e X.env)::starEach [] X.env) Fc.ag):EV X (.Call (.Attribute (.Name x p1) "index" ap) [e] [] cp) Γ ab (j:Nat) Γ1:=fun σ H0 R0 H R E Q q=>by
  obtain ⟨a,vs,ea,ha,hR,pp⟩:=E.ent i _ hΓ
  refine eS (jy PySem.F.plainAttrs_list PySem.F.slot_list_index PySem.F.type_list_index (sY hu) (a9 hN hv hd hcd) (ba aH bU hs) hbase hfew hline hs rfl) ?_
  refine ⟨.ref a,at_of ea,.inl ⟨rfl,vs,aX.of ha⟩,he σ H0 R0 H R E _ fun v H1 R1 E1 s1 e1=>?_⟩
  obtain ⟨a',vs',ea',ha',hR',pp'⟩:=E1.ent i _ hΓ1
  rw [ea] at ea';cases ea'
  cases e1
  exact ⟨a,ns,k,j,rfl,rfl,by rw [ha',d2 pp'],hj,hno,q _ _ _ E1 s1 rfl⟩
noncomputable def va:V→List V→Hp→VK→Prop:=fun x vs H Q=>∃(l:Addr) (ns:List Int) (k:Int) (j:Nat),x= .ref l∧vs=[.int k]∧H l=some (.lst (ns.map V.int))∧ns[j]?=some k∧(∀m,m < j→ns[m]?≠some k)∧Q .non (upd H l (.lst ((ns.eraseIdx j).map V.int)))
theorem qQ:ug X "list.remove" va:=by
  intro pins s σ H x vs v us Q I rx rv h
  obtain ⟨l,ns,k,j,rfl,rfl,hH,hj,hno,q⟩:=h
  cases rx
  obtain ⟨u,rfl,t,rfl⟩:=rv.one
  obtain ⟨hz,its,m,r1,hl,ho⟩:=I.h7 hH
  have jl:j < ns.length:=(List.getElem?_eq_some_iff.mp hj).1
  have hl2:its.length=ns.length:=by rw [← hl,List.length_map]
  have at_:∀(n:Nat) (h1:n < its.length) (h2:n < ns.length),∃t',its[n]= .int ns[n] t':=fun n h1 h2=>by
    obtain ⟨u,e1,t',e2⟩:=r1.get (show (ns.map V.int)[n]?=some (.int ns[n]) by rw [List.getElem?_map,List.getElem?_eq_getElem h2];rfl)
    rw [List.getElem?_eq_getElem h1] at e1
    exact ⟨t',(Option.some.inj e1).trans e2⟩
  refine call_meets PySem.F.slot_list_remove ⟨_,ho,rfl⟩ PySem.F.entry_list_remove (PySem.F.args_list_remove_2 _ _)
    (MeetsSeq.list_remove l its.toArray m (.int k t) (n4 k) (fun w hw=>?_) j (by simpa [hl2] using jl) ?_ ?_ (by rw [List.size_toArray,hl2,← List.length_map (f:=V.int)];exact hz)) ⟨ho,?_⟩
  · have hw:w∈its:=by simpa using hw
    obtain ⟨n,hn,rfl⟩:=List.mem_iff_getElem.mp hw
    obtain ⟨t',e⟩:=at_ n hn (by omega)
    rw [e]
    intro prog w A E s Q hq
    refine wpAny_eqBool_int ?_
    rw [Bool.beq_eq_decide_eq];exact hq
  · obtain ⟨t',e⟩:=at_ j (by omega) jl
    show n4 k its[j]=true
    rw [e]
    rw [List.getElem?_eq_getElem jl] at hj
    exact decide_eq_true (Option.some.inj hj)
  · intro n hn hnj
    obtain ⟨t',e⟩:=at_ n (by simpa using hn) (by omega)
    show n4 k its[n]=false
    rw [e]
    refine decide_eq_false fun z=>hno n hnj ?_
    rw [List.getElem?_eq_getElem (by omega),z]
  · refine ⟨.non,_,I.oR (its':=its.eraseIdx j) hH ho ?_ ?_ ?_,rfl,q⟩
    · rw [List.eraseIdxIfInBounds_toArray]
    · have key:∀(ns:List Int) (ws:List Value) (j:Nat),Vals (ns.map V.int) ws→Vals ((ns.eraseIdx j).map V.int) (ws.eraseIdx j):=by
        intro ns
        induction ns with
        | nil=>intro ws j h;cases h;exact .nil
        | cons a ns ih=>
          intro ws j h
          cases h with
          | cons h1 t=>
            cases j with
            | zero=>exact t
            | succ j=>exact .cons h1 (ih _ j t)
      exact key ns its j r1
    · rw [List.length_map]
      rw [List.length_map] at hz
      exact Nat.le_trans (List.length_eraseIdx_le ns j) hz
theorem sG (i:Nat){x:Str}{e:Expr}{p1 ap cp pos:Pos}{ns:List Int}{k:Int}{j:Nat}(he:EV X e Γ ab k Γ1)(hΓ:Γ[i]?=some (.mu ab ns))(hΓ1:Γ1[i]?=some (.mu ab ns))(hj:ns[j]?=some k)(hno:∀m,m < j→ns[m]?≠some k)(h:N (Γ1.set i (.mu ab (ns.eraseIdx j))))
    (hN:autoParam (X.N[i]?=some x) Fc.ag) (hv:autoParam (cv X.env.scope x) Fc.bW)
    (hd:autoParam ((x==("__debug__":Str))=false) Fc.aw) (hcd:autoParam ((x==("__classdict__":Str))=false) Fc.aw)
    (hsw:autoParam (swapsWith (.Call (.Attribute (.Name x p1) "remove" ap) [e] [] cp) none pos.line X.env=pure false) Fc.ag)
    (hbase:autoParam (attributeBase (.Name x p1) "remove" X.env (eval (.Name x p1) X.env)=eval (.Name x p1) X.env) Fc.ag)
    (hfew:autoParam (((backTo cp (starEach [e] X.env)).all (fun x=> !x.1)&&(backToKw cp (keywordEach [] X.env)).all (fun x=>x.1.isSome)
      &&decide ([e].length + ([]:List Keyword).length + (if ([]:List Keyword).isEmpty then 0 else 1) < 30))=true) Fc.ag)
    (hline:autoParam ((ap.endLine==cp.line)=true) Fc.ag) (hs:autoParam (starEach [e] X.env=(false,eval e X.env)::starEach [] X.env) Fc.ag):W1 X (.Expr (.Call (.Attribute (.Name x p1) "remove" ap) [e] [] cp) pos) Γ N T:=fun σ H0 R0 H R E D dn dr=>by
  obtain ⟨a,vs,ea,ha,hR,pp⟩:=E.ent i _ hΓ
  refine sS (fz (jy PySem.F.plainAttrs_list PySem.F.slot_list_remove PySem.F.type_list_remove qQ (a9 hN hv hd hcd) (ba aH bU hs) hbase hfew hline hs rfl) hsw) ?_
  refine ⟨.ref a,at_of ea,.inl ⟨rfl,vs,aX.of ha⟩,he σ H0 R0 H R E _ fun v H1 R1 E1 s1 e1=>?_⟩
  obtain ⟨a',vs',ea',ha',hR',pp'⟩:=E1.ent i _ hΓ1
  rw [ea] at ea';cases ea'
  cases e1
  refine ⟨a,ns,k,j,rfl,rfl,by rw [ha',d2 pp'],hj,hno,?_⟩
  exact dn σ _ R1 _ (E1.upd (en:=.mu ab (ns.eraseIdx j)) hΓ1 rfl ea hR' ⟨a,_,rfl,ay,hR',paired_ints _⟩) s1 h
theorem EV.two {e:Expr}{r:Rep α}{x y:α}(h:EV X e Γ (af r) [x,y] Γ1):EV X e Γ (d7 r) (x,y) Γ1:=EV.rep h fun _ _ q=>q
end
noncomputable def ue (i j:Int):Prop:=0 < j∧j < 1000000000000000000
theorem sT {X:Cx}:c8 X (binaryOp .FloorDiv) (rI ue fun i j=>.int (i / j)):=pT fun i j _ _ _ _ _ hc q=>by
  have h1:(0:Int) < j:=hc.1
  have h2:j < 1000000000000000000:=hc.2
  exact floordiv_int (by omega) (by rw [Int.fdiv_eq_ediv_of_nonneg i (by omega)];exact q) (.inl (PyProof.noPylong_of_log2 (Nat.lt_of_lt_of_le ((Nat.log2_lt (by omega)).mpr (show j.natAbs < 2 ^ 60 by omega)) (by decide))))
theorem sO {X:Cx}{Γ Γ1 Γ2:Ga}{a b:Expr}{pos:Pos}{x y:Int}(ha:EV X a Γ ab x Γ1)(hb:EV X b Γ1 ab y Γ2)(h:ue x y):EV X (.BinOp a .FloorDiv b pos) Γ ab (x / y) Γ2:=gX sT ha hb fun R v u H Q e1 e2 q=>⟨x,y,e1,e2,h,q _ rfl⟩
end Fc
namespace K1
open PySem L2 Fc
open PySem.Spec hiding Row
open PyProof.Rows hiding St
open PySem.Builtin.Int (intBits)
structure cH (n:Int) (s:Pu):Prop where
  ne:1≤s.1.length
  le:s.1.length≤63
  bits:∀c∈s.1,intBits c≤2 ^ 20
  t0:0≤s.2
  t1:s.2≤n
theorem cH.mono {n n':Int}{s:Pu}(h:cH n s)(hn:n≤n'):cH n' s:=⟨h.ne,h.le,h.bits,h.t0,Int.le_trans h.t1 hn⟩
noncomputable def qZ (s:Pu):Nat:=(s.2 % (s.1.length:Int)).toNat
noncomputable def eQ (s:Pu):Int:=s.1.getD (qZ s) 0
noncomputable def lY (s:Pu):Int:=(eQ s * 48271 + s.2 * s.2 * 69621 + 7) % 2147483647
noncomputable def jA (s:Pu):Int:=lY s * lY s % 2147483629
noncomputable def eh (s:Pu)(b:Int):Int:=if 10 ^ 18≤eQ s then eQ s % b else jA s * jA s % 2147483587 % b
noncomputable def fh (s:Pu)(b:Int):Pu:=if 10 ^ 18≤eQ s then (s.1.set (qZ s) (eQ s / b),s.2 + 1) else (s.1,s.2 + 1)
theorem rG {n:Int}{s:Pu}(h:cH n s):qZ s < s.1.length:=by
  have h1:=Int.emod_lt_of_pos s.2 (show (0:Int) < (s.1.length:Int) by have:=h.ne;omega)
  have h2:=Int.emod_nonneg s.2 (show (s.1.length:Int)≠0 by have:=h.ne;omega)
  unfold qZ;omega
theorem ib {n:Int}{s:Pu}(h:cH n s):eQ s∈s.1:=by
  unfold eQ
  rw [List.getD_eq_getElem?_getD,List.getElem?_eq_getElem (rG h)]
  exact List.getElem_mem _
section
variable {P:Program}{w:World}{K:PySem.W.Frag}{mg:Str→Option Value}{base:Heap}{f:Addr}{fd:FuncData}
noncomputable abbrev tT:Stmt:=top m7
noncomputable abbrev nDR:List Str:=["_law_purse_here","_law_out_of","_law_cells","_law_turn","_law_at","_law_cell","_law_number"]
theorem wZ:aE nDR ["_law_purse_here","_law_out_of"] (ah tT):=⟨rfl,rfl,rfl,by decide +kernel,rfl,by decide +kernel,by decide +kernel⟩
noncomputable def mK:jH Pu:=fun K s ps T=>∃b:Int,cH 1000000 s∧ps=[⟨ab,b⟩]∧0 < b∧b < 1000000000000000000∧T=fun s'=>bP K ab fun y=>s'=fh s b∧y=eh s b
theorem z7 (M:bX mg)(F:bL K "_law_draw" "_law_draw" tT f fd)(hm:mg "_law_draw"=some (.ref f))(hb:Binds K fd ["_law_purse_here","_law_out_of"] []):aA P w K mg base "_law_draw" 1 (e7 bg mK K):=by
  have nd:=wZ.nd
  refine kg F wZ hm hb (fun xs qs T ⟨b,_,e,_⟩=>by rw [e];rfl) (fun cdv A outer s H E a b st qs T hr hS=>?_)
  obtain ⟨d,hP,rfl,b0,b1,rfl⟩:=hS
  have al:=rG hP
  have t0:=hP.t0;have t1:=hP.t1;have ne:=hP.ne;have le:=hP.le
  have hbc:=hP.bits _ (ib hP)
  have m0:=Int.emod_nonneg st.2 (show (st.1.length:Int)≠0 by omega)
  have m1:=Int.emod_lt_of_pos st.2 (show (0:Int) < (st.1.length:Int) by omega)
  change WS _ _ [.ob (bg.bx a b st),.im ab d,.no,.no,.no,.no,.no] _ _
  refine ai (uY 0 2 3 rfl ?_)
  refine ai (aZ 4 (gx (aa 3 rfl) (r6 0 2 M.len rfl rfl) (by omega)) ?_)
  refine ai (aZ 5 (uK 0 2 (c:=eQ st) (aa 4 rfl) rfl rfl (by rw [cj m0 m1];rfl)) ?_)
  refine ai (sf 0 (cM (aa 3 rfl) au) rfl ?_)
  refine ai (bY (bD Bb (aa 5 rfl) (xV au au ⟨by decide,by decide,by decide⟩)) (fun h=>?_) (fun h=>bB ?_))
  · have h:(10:Int) ^ 18≤eQ st:=of_decide_eq_true h
    refine ai (qN 0 2 (n:=qZ st) (sO (aa 5 rfl) (aa 1 rfl) ⟨b0,b1⟩) (aa 4 rfl) rfl rfl (eX m0 m1) ?_)
    refine ar (iA 0 (B:=bg) (gx (aa 5 rfl) (aa 1 rfl) b0) rfl ⟨?_,?_⟩)
    · rw [fh,if_pos h]
    · rw [eh,if_pos h]
  · have h:¬(10:Int) ^ 18≤eQ st:=of_decide_eq_false h
    have n0:0≤lY st:=Int.emod_nonneg _ (by decide)
    have n1:lY st < 2147483647:=Int.emod_lt_of_pos _ (by decide)
    have q0:0≤jA st:=Int.emod_nonneg _ (by decide)
    have q1:jA st < 2147483629:=Int.emod_lt_of_pos _ (by decide)
    refine ai (aZ 6 (EV.cast (y':=lY st) (gx (cM (cM (gy (aa 5 rfl) au (.of_right (by decide))) (gy (gy (aa 3 rfl) (aa 3 rfl) (h8 t0 (by omega))) au (.of_right (by decide)))) au) au (by decide)) rfl) ?_)
    refine ai (aZ 6 (EV.cast (y':=jA st) (gx (gy (aa 6 rfl) (aa 6 rfl) (h8 n0 (by omega))) au (by decide)) rfl) ?_)
    refine ar (iA 0 (B:=bg) (gx (gx (gy (aa 6 rfl) (aa 6 rfl) (h8 q0 (by omega))) au (by decide)) (aa 1 rfl) b0) rfl ⟨?_,?_⟩)
    · rw [fh,if_neg h]
    · rw [eh,if_neg h]
theorem cz {n:Int}{s:Pu}(h:cH n s)(hn:n < 1000000){b:Int}(b0:0 < b)(b1:b < 1000000000000000000):∃y st,0≤y∧y < b∧cH (n + 1) st∧∀K,mK K s [⟨ab,b⟩] (fun s'=>bP K ab fun z=>s'=st∧z=y):=by
  have hbc:=h.bits _ (ib h)
  have t0:=h.t0;have t1:=h.t1;have ne:=h.ne;have le:=h.le
  refine ⟨eh s b,fh s b,?_,?_,?_,fun K=>⟨b,h.mono (by omega),rfl,b0,b1,rfl⟩⟩
  · unfold eh;split<;>exact Int.emod_nonneg _ (by omega)
  · unfold eh;split<;>exact Int.emod_lt_of_pos _ b0
  · unfold fh
    split
    · refine ⟨by rw [List.length_set];exact ne,by rw [List.length_set];exact le,fun c hc=>?_,by show 0≤s.2 + 1;omega,by show s.2 + 1≤n + 1;omega⟩
      rcases List.mem_or_eq_of_mem_set hc with z | rfl
      · exact h.bits c z
      · exact lB b0 hbc
    · exact ⟨ne,le,h.bits,by show 0≤s.2 + 1;omega,by show s.2 + 1≤n + 1;omega⟩
noncomputable abbrev nA:Stmt:=top lO
noncomputable abbrev Aj:List Str:=["_law_script","_law_cells"]
theorem xT:aE Aj ["_law_script"] (ah nA):=⟨rfl,rfl,rfl,by decide +kernel,rfl,by decide +kernel,by decide +kernel⟩
noncomputable def Ah:bS:=fun K ps T=>∃ns:List Int,ps=[⟨f6,ns⟩]∧ns.length≤63∧(∀n∈ns,intBits n≤2 ^ 20)∧T=oW (cH 0)
theorem vD {α:Type}(xs:List α)(l h:Option Int):∀x∈cut xs l h,x∈xs:=by
  intro x hx
  unfold cut at hx
  first | exact List.mem_of_mem_drop (List.mem_of_mem_take hx) | exact List.mem_of_mem_take (List.mem_of_mem_drop hx) | (simp at hx;exact hx)
theorem zH (F:bL K "_law_purse" "_law_purse" nA f fd)(hm:mg "_law_purse"=some (.ref f))(hb:Binds K fd ["_law_script"] []):aA P w K mg base "_law_purse" 1 (aG Ah K):=by
  have nd:=xT.nd
  refine bJ F xT hm hb (fun qs T ⟨_,e,_⟩=>by rw [e];rfl) (fun cdv A outer s H E qs T hr hS=>?_)
  obtain ⟨ns,rfl,hl,hbits,rfl⟩:=hS
  have hu:(A.deeper (envOfC "_law_purse" (ah nA) s.heap.objs.size f cdv)).units + 1 < cLine:=Nat.lt_of_le_of_lt (Nat.add_le_add_left (by decide:1≤64) _) hr.units
  change WS _ _ [.im f6 ns,.no] _ _
  refine ai (dq 1 (oI (aa 0 rfl) uZ (vx au)) ?_)
  have cl:(cut ns none (some 63)).length≤63:=Nat.le_trans (kn _ _ _) hl
  have cb:∀n∈cut ns none (some 63),intBits n≤2 ^ 20:=fun n hn=>hbits n (vD ns none (some 63) n hn)
  generalize cut ns none (some 63)=cs at cl cb
  have fin:∀xs:List Int,1≤xs.length→xs.length≤63→(∀n∈xs,intBits n≤2 ^ 20)→WS (ef eo P w K mg base Aj "_law_purse" (ah nA) f cdv A outer s H E).g7 ((cq nA).drop 2) [.im f6 ns,.mu ab xs] (fun _=>False) (oW (cH 0)):=by
    intro xs h1 h2 h3
    refine WS.box 1 rfl fun b=>?_
    exact ar (vI 1 (bh (aO (sJ 1 rfl) (aO (EV.z4 au) bF)) (by show 2≤sizeLine;decide)) rfl ⟨h1,h2,h3,Int.le_refl _,Int.le_refl _⟩)
  refine ai (bY (TV.frz (wD (i:=1) rfl (bo (by omega))) (bD (zd (r:=ab) eq_int hu) (aa 1 rfl) (bb.im (bh bF (by decide))))) (fun h=>?_) (fun h=>bB ?_))
  · refine ar (dq 1 (r:=ab) (bh (aO au bF) (by show 1≤sizeLine;decide)) ?_)
    exact fin [0] (by simp) (by simp) (by intro n hn;rw [List.mem_singleton.mp hn];decide)
  · have h:cs≠[]:=of_decide_eq_false h
    exact fin cs (by cases cs with
      | nil=>exact absurd rfl h
      | cons=>simp) cl cb
end
end K1
namespace Fc
open PySem PySem.Spec L2
open PyProof.Rows hiding St
section
variable {X:Cx}{Γ Γ1 Γ2 Γ3:Ga}{α β γ δ:Type}{N:Ga→Prop}{T:RT}
theorem uP {a b:Expr}{rest:List Expr}{pos:Pos}{y:Bool}(ha:TV X a Γ true Γ1)(hb:TW X (.BoolOp .And (b::rest) pos) Γ1 y Γ2):TW X (.BoolOp .And (a::b::rest) pos) Γ y Γ2:=fun σ H0 R0 H R E Q q=>
  wS (qq iW tZ) (ha σ H0 R0 H R E _ fun H1 R1 E1 s1=>ite_tt (hb σ H0 R0 H1 R1 E1 Q fun H2 R2 E2 s2=>q H2 R2 E2 (s1.trans s2)))
theorem rY {a:Expr}{pos:Pos}{x:Bool}(ha:TV X a Γ x Γ1):TW X (.BoolOp .And [a] pos) Γ x Γ1:=fun σ H0 R0 H R E Q q=>wS (nS iW) (ha σ H0 R0 H R E Q q)
end
end Fc
namespace K1
open PySem L2 Fc
open PySem.Spec hiding Row
open PyProof.Rows hiding St
open PySem.Builtin.Int (intBits)
noncomputable def j4 (t:Int×Int):Int×Int:=(t.2,t.1)
theorem d3 {es:List (Int×Int)}{a b:Int}:(a,b)∈es.map j4↔(b,a)∈es:=by
  rw [List.mem_map]
  constructor
  · rintro ⟨⟨x,y⟩,h,e⟩
    simp only [j4,Prod.mk.injEq] at e
    rw [← e.1,← e.2];exact h
  · intro h;exact ⟨(b,a),h,rfl⟩
structure dJ (many:Int) (ties:List (Int×Int)):Prop where
  m2:2≤many
  bd:∀t∈ties,0≤t.1∧t.1 < many∧t.1≠1∧0≤t.2∧t.2 < many
  fw:∀k,0≤k→k < many→Reach ties 0 k
  bw:∀k,0≤k→k < many→Reach (ties.map j4) 1 k
theorem Reach.mono {es es':List (Int×Int)}{s:Int}(h:∀t∈es,t∈es'){k:Int}(r:Reach es s k):Reach es' s k:=Reach.sub .base (fun _ _ ha hab=>.step ha (h _ hab)) r
theorem dJ.more {n:Int}{ties:List (Int×Int)}(h:dJ n ties){a b:Int}(a0:0≤a)(a1:a < n)(an:a≠1)(b0:0≤b)(b1:b < n):dJ n (ties++[(a,b)]):=by
  refine ⟨h.m2,fun t ht=>?_,fun k k0 k1=>Reach.mono (fun t ht=>List.mem_append_left _ ht) (h.fw k k0 k1),fun k k0 k1=>Reach.mono (fun t ht=>?_) (h.bw k k0 k1)⟩
  · rcases List.mem_append.mp ht with z | z
    · exact h.bd t z
    · rw [List.mem_singleton.mp z];exact ⟨a0,a1,an,b0,b1⟩
  · rw [List.map_append];exact List.mem_append_left _ ht
theorem dJ.split {n:Int}{ties:List (Int×Int)}(h:dJ n ties){i:Nat}{a b:Int}(hi:ties[i]?=some (a,b)):dJ (n + 1) (ties.set i (a,n)++[(n,b)]):=by
  have il:=(List.getElem?_eq_some_iff.mp hi).1
  have hm:=h.m2
  have hab:=h.bd _ (List.mem_of_getElem? hi)
  have e1:(a,n)∈ties.set i (a,n)++[(n,b)]:=List.mem_append_left _ (List.mem_iff_getElem?.mpr ⟨i,List.getElem?_set_self il⟩)
  have e2:(n,b)∈ties.set i (a,n)++[(n,b)]:=List.mem_append_right _ (by simp)
  have keep:∀t∈ties,t=(a,b)∨t∈ties.set i (a,n)++[(n,b)]:=fun t ht=>by
    obtain ⟨j,hj⟩:=List.mem_iff_getElem?.mp ht
    by_cases e:i=j
    · subst e;rw [hi] at hj;cases hj;exact .inl rfl
    · exact .inr (List.mem_append_left _ (List.mem_iff_getElem?.mpr ⟨j,by rw [List.getElem?_set_ne e];exact hj⟩))
  have fw:∀{k:Int},Reach ties 0 k→Reach (ties.set i (a,n)++[(n,b)]) 0 k:=fun r=>Reach.sub .base (fun x y hx hxy=>by
    rcases keep _ hxy with z | z
    · cases z;exact .step (.step hx e1) e2
    · exact .step hx z) r
  have bw:∀{k:Int},Reach (ties.map j4) 1 k→Reach ((ties.set i (a,n)++[(n,b)]).map j4) 1 k:=fun r=>Reach.sub .base (fun x y hx hxy=>by
    rcases keep _ (d3.mp hxy) with z | z
    · cases z;exact .step (.step hx (d3.mpr e2)) (d3.mpr e1)
    · exact .step hx (d3.mpr z)) r
  refine ⟨by omega,fun t ht=>?_,fun k k0 k1=>?_,fun k k0 k1=>?_⟩
  · rcases List.mem_append.mp ht with z | z
    · rcases List.mem_or_eq_of_mem_set z with z | z
      · have:=h.bd t z;omega
      · rw [z];exact ⟨hab.1,by show a < n + 1;omega,hab.2.2.1,by show 0≤n;omega,by show n < n + 1;omega⟩
    · rw [List.mem_singleton.mp z];exact ⟨by show 0≤n;omega,by show n < n + 1;omega,by show n≠1;omega,hab.2.2.2.1,by show b < n + 1;omega⟩
  · by_cases e:k=n
    · rw [e];exact .step (fw (h.fw a hab.1 hab.2.1)) e1
    · exact fw (h.fw k k0 (by omega))
  · by_cases e:k=n
    · rw [e];exact .step (bw (h.bw b hab.2.2.2.1 hab.2.2.2.2)) (d3.mpr e2)
    · exact bw (h.bw k k0 (by omega))
theorem dJ.ren {n:Int}{ties:List (Int×Int)}(h:dJ n ties){g:Int→Int}(gb:∀k,0≤k→k < n→0≤g k∧g k < n)(gs:∀k,0≤k→k < n→∃j,0≤j∧j < n∧g j=k)(g0:g 0=0)(g1:g 1=1)(gi:∀k,0≤k→k < n→g k=1→k=1):dJ n (ties.map fun (t:Int×Int)=>(g t.1,g t.2)):=by
  have fw:∀{k:Int},Reach ties 0 k→Reach (ties.map fun (t:Int×Int)=>(g t.1,g t.2)) 0 (g k):=fun r=>by
    refine Reach.sub (P:=fun k=>Reach (ties.map fun (t:Int×Int)=>(g t.1,g t.2)) 0 (g k)) (by rw [g0];exact .base) (fun x y hx hxy=>.step hx (List.mem_map.mpr ⟨_,hxy,rfl⟩)) r
  have bw:∀{k:Int},Reach (ties.map j4) 1 k→Reach ((ties.map fun (t:Int×Int)=>(g t.1,g t.2)).map j4) 1 (g k):=fun r=>by
    refine Reach.sub (P:=fun k=>Reach ((ties.map fun (t:Int×Int)=>(g t.1,g t.2)).map j4) 1 (g k)) (by rw [g1];exact .base) (fun x y hx hxy=>.step hx (d3.mpr (List.mem_map.mpr ⟨_,d3.mp hxy,rfl⟩))) r
  refine ⟨h.m2,fun t ht=>?_,fun k k0 k1=>?_,fun k k0 k1=>?_⟩
  · obtain ⟨u,hu,rfl⟩:=List.mem_map.mp ht
    have b:=h.bd u hu
    have b1:=gb u.1 b.1 b.2.1
    have b2:=gb u.2 b.2.2.2.1 b.2.2.2.2
    exact ⟨b1.1,b1.2,fun e=>b.2.2.1 (gi u.1 b.1 b.2.1 e),b2.1,b2.2⟩
  · obtain ⟨j,j0,j1,rfl⟩:=gs k k0 k1
    exact fw (h.fw j j0 j1)
  · obtain ⟨j,j0,j1,rfl⟩:=gs k k0 k1
    exact bw (h.bw j j0 j1)
structure gN (n:Nat) (xs:List Int):Prop where
  len:xs.length=n
  nd:xs.Nodup
  mem:∀k,k∈xs↔0≤k∧k < (n:Int)
theorem gQ {α:Type}{k:Nat}{y:α}{xs:List α}:(cc k y xs).Perm (y::xs):=by
  unfold cc
  have:=List.perm_middle (a:=y) (l₁:=xs.take k) (l₂:=xs.drop k)
  rwa [List.take_append_drop] at this
theorem gN.ins {n:Nat}{xs:List Int}(h:gN n xs)(k:Nat):gN (n + 1) (cc k (n:Int) xs):=by
  have p:=gQ (k:=k) (y:=(n:Int)) (xs:=xs)
  refine ⟨by rw [p.length_eq,List.length_cons,h.len],p.nodup_iff.mpr (List.nodup_cons.mpr ⟨fun z=>by have:=(h.mem _).mp z;omega,h.nd⟩),fun j=>?_⟩
  rw [p.mem_iff,List.mem_cons,h.mem]
  omega
section
variable {P:Program}{w:World}{K:PySem.W.Frag}{mg:Str→Option Value}{base:Heap}{f:Addr}{fd:FuncData}
noncomputable abbrev uF:Stmt:=top lN
noncomputable abbrev nOR:List Str:=["_law_purse_here","_law_many","_law_found","_law_k"]
theorem xr:aE nOR ["_law_purse_here","_law_many"] (ah uF):=⟨rfl,rfl,rfl,by decide +kernel,rfl,by decide +kernel,by decide +kernel⟩
noncomputable def ck (s:Pu):Nat→Pu×List Int
  | 0=>(s,[])
  | k + 1=>(fh (ck s k).1 ((k:Int) + 1),cc (eh (ck s k).1 ((k:Int) + 1)).toNat (k:Int) (ck s k).2)
theorem fY {n:Int}{s:Pu}(h:cH n s):∀m:Nat,n + m≤200000→cH (n + m) (ck s m).1∧gN m (ck s m).2
  | 0,_=>⟨h.mono (by omega),rfl,List.nodup_nil,fun k=>by simp [ck]<;>omega⟩
  | k + 1,hk=>by
    have hn0:0≤n:=Int.le_trans h.t0 h.t1
    obtain ⟨h1,h2⟩:=fY h k (by omega)
    refine ⟨?_,h2.ins _⟩
    obtain ⟨y,st,_,_,h3,h4⟩:=cz h1 (by omega) (b:=(k:Int) + 1) (by omega) (by omega)
    have hbc:=h1.bits _ (ib h1)
    show cH _ (fh (ck s k).1 ((k:Int) + 1))
    have t0:=h1.t0;have t1:=h1.t1;have ne:=h1.ne;have le:=h1.le
    unfold fh
    split
    · refine ⟨by rw [List.length_set];exact ne,by rw [List.length_set];exact le,fun c hc=>?_,by show 0≤(ck s k).1.2 + 1;omega,by show (ck s k).1.2 + 1≤_;omega⟩
      rcases List.mem_or_eq_of_mem_set hc with z | rfl
      · exact h1.bits c z
      · exact lB (by omega) hbc
    · exact ⟨ne,le,h1.bits,by show 0≤(ck s k).1.2 + 1;omega,by show (ck s k).1.2 + 1≤_;omega⟩
noncomputable def uh:jH Pu:=fun K s ps T=>∃(n:Int) (m:Nat),cH n s∧0≤n∧n≤100000∧ps=[⟨ab,(m:Int)⟩]∧m≤100∧T=fun s'=>bP K (af ab) fun xs=>s'=(ck s m).1∧xs=(ck s m).2
theorem oy {n:Int}{s:Pu}(h:cH n s)(n0:0≤n)(hn:n≤100000){m:Nat}(hm:m≤100):∃xs st,cH (n + m) st∧gN m xs∧∀K,uh K s [⟨ab,(m:Int)⟩] (fun s'=>bP K (af ab) fun z=>s'=st∧z=xs):=by
  obtain ⟨h1,h2⟩:=fY h m (by omega)
  exact ⟨_,_,h1,h2,fun K=>⟨n,m,h,n0,hn,rfl,hm,rfl⟩⟩
theorem yS (M:bX mg)(CD:aA P w K mg base "_law_draw" 1 (e7 bg mK K))(F:bL K "_law_order" "_law_order" uF f fd)(hm:mg "_law_order"=some (.ref f))(hb:Binds K fd ["_law_purse_here","_law_many"] []):aA P w K mg base "_law_order" 2 (e7 bg uh K):=by
  have nd:=xr.nd
  refine kg F xr hm hb (fun xs qs T ⟨_,_,_,_,_,e,_⟩=>by rw [e];rfl) (fun cdv A outer s H E a b st qs T hr hS=>?_)
  obtain ⟨n,m,hP,n0,n1,rfl,hm,rfl⟩:=hS
  change WS _ _ [.ob (bg.bx a b st),.im ab (m:Int),.no,.no] _ _
  refine ai (dq 2 (r:=ab) (bh bF (by decide)) ?_)
  refine ai (cZ (r:=ab) (fun i Γ=>∃v3,Γ=[.ob (bg.bx a b (ck st i).1),.im ab (m:Int),.mu ab (ck st i).2,v3])
    (cR M.range (aa 1 rfl) ⟨by omega,by omega⟩) (aB 3) ⟨_,rfl⟩ ?_ ?_)
  · rintro i x Γ hx ⟨v3,rfl⟩
    obtain ⟨hi,rfl⟩:=fL hx
    obtain ⟨hP1,hX⟩:=fY hP i (by omega)
    have hl:=hX.len
    have e0:(0:Int) + (i:Int)=(i:Int):=by omega
    have hb1:0≤eh (ck st i).1 ((i:Int) + 1)∧eh (ck st i).1 ((i:Int) + 1) < (i:Int) + 1:=by
      unfold eh;split<;>exact ⟨Int.emod_nonneg _ (by omega),Int.emod_lt_of_pos _ (by omega)⟩
    refine ar (o5 2 (k:=eh (ck st i).1 ((i:Int) + 1)) (bE 0 (st:=fh (ck st i).1 ((i:Int) + 1)) CD hr (ae (EV.cast (y':=(i:Int) + 1) (cM (aa 3 rfl) au) (by omega)) ao) rfl rfl ⟨_,hP1.mono (by omega),rfl,by omega,by omega,rfl⟩) (EV.cast (y':=(i:Int)) (aa 3 rfl) e0) rfl rfl hb1.1 (by omega) (Nat.lt_of_le_of_lt (show (ck st i).2.length≤1000 by omega) (by decide)) ?_)
    exact ⟨_,rfl⟩
  · rintro Γ ⟨v3,rfl⟩
    rw [az]
    obtain ⟨hP1,hX⟩:=fY hP m (by omega)
    have hl:=hX.len
    rw [show ((m:Int)).toNat=m by omega]
    exact ar (iA 0 (B:=bg) (ia 2 rfl (bo (by omega))) rfl ⟨rfl,rfl⟩)
end
theorem mZ {α:Type}{k i:Nat}{y:α}{xs:List α}(h:i < k)(hk:k≤xs.length):(cc k y xs)[i]?=xs[i]?:=by
  unfold cc
  rw [List.getElem?_append_left (by rw [List.length_take];omega),List.getElem?_take_of_lt h]
theorem mE {α:Type}{k:Nat}{y:α}{xs:List α}(hk:k≤xs.length):(cc k y xs)[k]?=some y:=by
  unfold cc
  rw [List.getElem?_append_right (by rw [List.length_take];omega),List.length_take,Nat.min_eq_left hk,Nat.sub_self];rfl
theorem mG {α:Type}{k i:Nat}{y:α}{xs:List α}(h:k≤i)(hk:k≤xs.length):(cc k y xs)[i + 1]?=xs[i]?:=by
  unfold cc
  rw [List.getElem?_append_right (by rw [List.length_take];omega),List.length_take,Nat.min_eq_left hk,show i + 1 - k=(i - k) + 1 by omega,List.getElem?_cons_succ,List.getElem?_drop]
  congr 1;omega
structure eu (loose:Bool) (od:List Int) (rows:List (Int×Int)):Prop where
  pm:gN od.length od
  l2:2≤od.length
  first:od[0]?=some 0
  last:od[od.length - 1]?=some 1
  good:dJ od.length rows
  up:loose=true→∀t∈rows,∃(i j:Nat),od[i]?=some t.1∧od[j]?=some t.2∧i < j
theorem eu.base (loose:Bool):eu loose [0,1] [(0,1)]:=by
  refine ⟨⟨rfl,by decide,fun k=>by simp;omega⟩,by decide,rfl,rfl,⟨by decide,fun t ht=>?_,fun k k0 k1=>?_,fun k k0 k1=>?_⟩,fun _ t ht=>?_⟩
  · rw [List.mem_singleton.mp ht];decide
  · have k1:k < 2:=k1
    rcases (show k=0∨k=1 by omega) with rfl | rfl
    · exact .base
    · exact .step .base (by simp)
  · have k1:k < 2:=k1
    rcases (show k=0∨k=1 by omega) with rfl | rfl
    · exact .step (a:=1) .base (by simp [j4])
    · exact .base
  · rw [List.mem_singleton.mp ht];exact ⟨0,1,rfl,rfl,by decide⟩
theorem eu.ne1 {loose:Bool}{od:List Int}{rows:List (Int×Int)}(h:eu loose od rows){i:Nat}{x:Int}(hi:od[i]?=some x)(hl:i + 1 < od.length):x≠1:=fun e=>by
  subst e
  have a:=(List.getElem?_eq_some_iff.mp hi)
  have b:=(List.getElem?_eq_some_iff.mp h.last)
  have:=(List.getElem_inj (h₀:=a.1) (h₁:=b.1) h.pm.nd).mp (a.2.trans b.2.symm)
  omega
theorem eu.bd {loose:Bool}{od:List Int}{rows:List (Int×Int)}(h:eu loose od rows){i:Nat}{x:Int}(hi:od[i]?=some x):0≤x∧x < (od.length:Int):=(h.pm.mem x).mp (List.mem_of_getElem? hi)
theorem eu.more {loose:Bool}{od:List Int}{rows:List (Int×Int)}(h:eu loose od rows){i j:Nat}{x y:Int}(hi:od[i]?=some x)(hj:od[j]?=some y)(hl:i + 1 < od.length)(hij:loose=true→i < j):eu loose od (rows++[(x,y)]):=by
  have bx:=h.bd hi
  have by_:=h.bd hj
  refine ⟨h.pm,h.l2,h.first,h.last,h.good.more bx.1 bx.2 (h.ne1 hi hl) by_.1 by_.2,fun e t ht=>?_⟩
  rcases List.mem_append.mp ht with z | z
  · exact h.up e t z
  · rw [List.mem_singleton.mp z];exact ⟨i,j,hi,hj,hij e⟩
theorem eu.split {loose:Bool}{od:List Int}{rows:List (Int×Int)}(h:eu loose od rows){r q:Nat}{x y:Int}(hr:rows[r]?=some (x,y))(q0:1≤q)(q1:q + 1≤od.length)(hq:loose=true→∃(i j:Nat),od[i]?=some x∧od[j]?=some y∧i < q∧q≤j):
    eu loose (cc q (od.length:Int) od) (rows.set r (x,(od.length:Int))++[((od.length:Int),y)]):=by
  have ln:(cc q (od.length:Int) od).length=od.length + 1:=by rw [gQ.length_eq];rfl
  have l2:=h.l2
  have sh:∀{i:Nat} {z:Int},od[i]?=some z→(cc q (od.length:Int) od)[if i < q then i else i + 1]?=some z:=fun {i z} hi=>by
    split
    · rename_i hl;rw [mZ hl (by omega)];exact hi
    · rename_i hl;rw [mG (by omega) (by omega)];exact hi
  refine ⟨by rw [ln];exact h.pm.ins q,by omega,by rw [mZ (by omega) (by omega)];exact h.first,?_,by rw [ln];exact h.good.split hr,fun e t ht=>?_⟩
  · rw [ln,show od.length + 1 - 1=(od.length - 1) + 1 by omega,mG (by omega) (by omega)];exact h.last
  · obtain ⟨i,j,hi,hj,iq,qj⟩:=hq e
    rcases List.mem_append.mp ht with z | z
    · rcases List.mem_or_eq_of_mem_set z with z | z
      · obtain ⟨i',j',a,b,c⟩:=h.up e t z
        exact ⟨_,_,sh a,sh b,by split<;>split<;>omega⟩
      · rw [z];exact ⟨_,q,sh hi,mE (by omega),by rw [if_pos iq];exact iq⟩
    · rw [List.mem_singleton.mp z]
      exact ⟨q,_,mE (by omega),sh hj,by rw [if_neg (by omega)];omega⟩
structure ig (loose:Bool) (m:Nat) (size:Int) (ties:List (Int×Int)):Prop where
  good:dJ size ties
  le:size≤16
  len:ties.length=m + 1
  up:loose=true→∃rk:Int→Int,∀t∈ties,rk t.1 < rk t.2
noncomputable def e8 (names:List Int)(k:Int):Int:=names.getD k.toNat 0
theorem eu.fin {loose:Bool}{od:List Int}{rows:List (Int×Int)}(h:eu loose od rows){xs:List Int}(hx:gN (od.length - 2) xs)(h16:od.length≤16){m:Nat}(hm:rows.length=m + 1):ig loose m od.length (rows.map fun (t:Int×Int)=>(e8 ([0,1]++xs.map (2 + ·)) t.1,e8 ([0,1]++xs.map (2 + ·)) t.2)):=by
  have l2:=h.l2
  have hl:=hx.len
  have n0:e8 ([0,1]++xs.map (2 + ·)) 0=0:=rfl
  have n1:e8 ([0,1]++xs.map (2 + ·)) 1=1:=rfl
  have n2:∀k:Nat,k < xs.length→e8 ([0,1]++xs.map (2 + ·)) ((k:Int) + 2)=2 + xs.getD k 0:=fun k hk=>by
    unfold e8
    rw [show ((k:Int) + 2).toNat=k + 2 by omega]
    show ((xs.map (2 + ·)).getD k 0)=_
    rw [List.getD_eq_getElem?_getD,List.getD_eq_getElem?_getD,List.getElem?_map,List.getElem?_eq_getElem hk];rfl
  have xb:∀k:Nat,k < xs.length→0≤xs.getD k 0∧xs.getD k 0 < ((od.length - 2:Nat):Int):=fun k hk=>(hx.mem _).mp (by rw [List.getD_eq_getElem?_getD,List.getElem?_eq_getElem hk];exact List.getElem_mem _)
  have cs:∀k:Int,0≤k→k < (od.length:Int)→k=0∨k=1∨∃j:Nat,j < xs.length∧k=(j:Int) + 2:=fun k k0 k1=>by
    rcases (show k=0∨k=1∨2≤k by omega) with z | z | z
    · exact .inl z
    · exact .inr (.inl z)
    · exact .inr (.inr ⟨(k - 2).toNat,by omega,by omega⟩)
  have inj:∀k j:Int,0≤k→k < (od.length:Int)→0≤j→j < (od.length:Int)→e8 ([0,1]++xs.map (2 + ·)) k=e8 ([0,1]++xs.map (2 + ·)) j→k=j:=by
    intro k j k0 k1 j0 j1 e
    rcases cs k k0 k1 with rfl | rfl | ⟨a,ha,rfl⟩<;>rcases cs j j0 j1 with rfl | rfl | ⟨b,hb,rfl⟩<;>simp only [n0,n1] at e<;>try rfl
    · exact absurd e (by decide)
    · rw [n2 b hb] at e;have:=xb b hb;omega
    · exact absurd e (by decide)
    · rw [n2 b hb] at e;have:=xb b hb;omega
    · rw [n2 a ha] at e;have:=xb a ha;omega
    · rw [n2 a ha] at e;have:=xb a ha;omega
    · rw [n2 a ha,n2 b hb] at e
      have e:xs.getD a 0=xs.getD b 0:=by omega
      rw [List.getD_eq_getElem?_getD,List.getD_eq_getElem?_getD,List.getElem?_eq_getElem ha,List.getElem?_eq_getElem hb] at e
      have:=(List.getElem_inj (h₀:=ha) (h₁:=hb) hx.nd).mp e
      omega
  refine ⟨h.good.ren (fun k k0 k1=>?_) (fun k k0 k1=>?_) n0 n1 (fun k k0 k1 e=>inj k 1 k0 k1 (by omega) (by omega) (by rw [e,n1])),by omega,by rw [List.length_map];exact hm,fun e=>?_⟩
  · rcases cs k k0 k1 with rfl | rfl | ⟨a,ha,rfl⟩
    · rw [n0];omega
    · rw [n1];omega
    · rw [n2 a ha];have:=xb a ha;omega
  · rcases cs k k0 k1 with rfl | rfl | ⟨a,ha,rfl⟩
    · exact ⟨0,by omega,by omega,n0⟩
    · exact ⟨1,by omega,by omega,n1⟩
    · have:(a:Int)∈xs:=(hx.mem _).mpr (by omega)
      obtain ⟨j,hj,e⟩:=List.mem_iff_getElem.mp this
      refine ⟨(j:Int) + 2,by omega,by omega,?_⟩
      rw [n2 j hj,List.getD_eq_getElem?_getD,List.getElem?_eq_getElem hj]
      show 2 + xs[j]=_
      omega
  · classical
    -- the rank of a name:where the place stands in the order
    let g:=e8 ([0,1]++xs.map (2 + ·))
    refine ⟨fun z=>if hz:∃k:Int,0≤k∧k < (od.length:Int)∧g k=z then ((od.idxOf hz.choose:Nat):Int) else 0,fun t ht=>?_⟩
    obtain ⟨u,hu,rfl⟩:=List.mem_map.mp ht
    have b:=h.good.bd u hu
    obtain ⟨i,j,hi,hj,hij⟩:=h.up e u hu
    have rk:∀k:Int,0≤k→k < (od.length:Int)→∀n:Nat,od[n]?=some k→(if hz:∃k':Int,0≤k'∧k' < (od.length:Int)∧g k'=g k then ((od.idxOf hz.choose:Nat):Int) else 0)=n:=by
      intro k k0 k1 n hn
      have hz:∃k':Int,0≤k'∧k' < (od.length:Int)∧g k'=g k:=⟨k,k0,k1,rfl⟩
      rw [dif_pos hz]
      have hc:=hz.choose_spec
      have:hz.choose=k:=inj _ _ hc.1 hc.2.1 k0 k1 hc.2.2
      rw [this]
      have nl:=(List.getElem?_eq_some_iff.mp hn)
      have:=List.Nodup.idxOf_getElem h.pm.nd n nl.1
      rw [nl.2] at this
      rw [this]
    show (if hz:_ then _ else _) < (if hz:_ then _ else _)
    rw [rk u.1 b.1 b.2.1 i hi,rk u.2 b.2.2.2.1 b.2.2.2.2 j hj]
    omega
section
variable {P:Program}{w:World}{K:PySem.W.Frag}{mg:Str→Option Value}{base:Heap}{f:Addr}{fd:FuncData}
noncomputable abbrev iy:Stmt:=top l5
noncomputable abbrev rK:List Str:=["_law_purse_here","_law_many","_law_loose","_law_order_here","_law_rows","_law_k","_law_size","_law_at","_law_one","_law_other","_law_low","_law_names"]
theorem yo:aE rK ["_law_purse_here","_law_many","_law_loose"] (ah iy):=⟨rfl,rfl,rfl,by decide +kernel,rfl,by decide +kernel,by decide +kernel⟩
noncomputable def Ao:jH Pu:=fun K s ps T=>∃(n:Int) (m:Nat) (loose:Bool),cH n s∧n≤10000∧ps=[⟨ab,(m:Int)⟩,⟨aK,loose⟩]∧m≤30∧T=fun s'=>bP K (aF ab (af (d7 ab))) fun z=>cH (n + 200) s'∧ig loose m z.1 z.2
theorem zY (M:bX mg)(CD:aA P w K mg base "_law_draw" 1 (e7 bg mK K))(CO:aA P w K mg base "_law_order" 2 (e7 bg uh K))(F:bL K "_law_part" "_law_part" iy f fd)(hm:mg "_law_part"=some (.ref f))(hb:Binds K fd ["_law_purse_here","_law_many","_law_loose"] []):aA P w K mg base "_law_part" 3 (e7 bg Ao K):=by
  have nd:=yo.nd
  have nd1:List.Nodup [("_law_place":Str)]:=by decide
  have nd2:List.Nodup [("_law_one":Str),"_law_other","_law_names"]:=by decide
  have CD:=CD.mono (show 1≤2 by decide)
  refine kg F yo hm hb (fun xs qs T ⟨_,_,_,_,_,e,_⟩=>by rw [e];rfl) (fun cdv A outer s H E a b st qs T hr hS=>?_)
  obtain ⟨n,m,loose,hP,n1,rfl,hm,rfl⟩:=hS
  have hu:(A.deeper (envOfC "_law_part" (ah iy) s.heap.objs.size f cdv)).units + 1 < cLine:=Nat.lt_of_le_of_lt (Nat.add_le_add_left (by decide:1≤64) _) hr.units
  have n0:0≤n:=Int.le_trans hP.t0 hP.t1
  change WS _ _ [.ob (bg.bx a b st),.im ab (m:Int),.im aK loose,.no,.no,.no,.no,.no,.no,.no,.no,.no] _ _
  refine ai (dq 3 (r:=ab) (bh (aO au (aO au bF)) (by show 2≤sizeLine;decide)) ?_)
  refine ai (dq 4 (r:=d7 ab) (bh (aO (EV.two (bb.im (bh (aO au (aO au bF)) (by show 2≤sizeLine;decide)))) bF) (by show 1≤sizeLine;decide)) ?_)
  refine ai (cZ (r:=ab) (fun i Γ=>∃st od rows v5 v6 v7 v8 v9 v10,Γ=[.ob (bg.bx a b st),.im ab (m:Int),.im aK loose,.mu ab od,.mu (d7 ab) rows,v5,v6,v7,v8,v9,v10,.no]∧cH (n + 4 * i) st∧eu loose od rows∧rows.length=i + 1∧od.length≤16)
    (cR M.range (aa 1 rfl) ⟨by omega,by omega⟩) (aB 5) ⟨st,[0,1],[(0,1)],_,_,_,_,_,_,rfl,hP.mono (by omega),eu.base loose,rfl,by decide⟩ ?_ ?_)
  · rintro i x Γ hx ⟨st,od,rows,v5,v6,v7,v8,v9,v10,rfl,hP,hO,hlen,h16⟩
    obtain ⟨hi,rfl⟩:=fL hx
    have l2:=hO.l2
    have zz:∀{k:Nat},k≤1000→k < sizeLine:=fun h=>Nat.lt_of_le_of_lt h (by decide)
    refine ai (aZ 6 (gE 3 M.len rfl) ?_)
    have more:∀(st1:Pu),cH (n + 4 * i + 1) st1→WS (ef eo P w K mg base rK "_law_part" (ah iy) f cdv A outer s H E).g7
        (match (cq iy).getD 2 (.Pass ⟨0,0,0,0⟩) with | .For _ _ body _ _=>(match body.getD 1 (.Pass ⟨0,0,0,0⟩) with | .If _ _ els _=>els | _=>[]) | _=>[])
        [.ob (bg.bx a b st1),.im ab (m:Int),.im aK loose,.mu ab od,.mu (d7 ab) rows,.im ab (0 + (i:Int)),.im ab (od.length:Int),v7,v8,v9,v10,.no]
        (fun Γ=>∃st od rows v5 v6 v7 v8 v9 v10,Γ=[.ob (bg.bx a b st),.im ab (m:Int),.im aK loose,.mu ab od,.mu (d7 ab) rows,v5,v6,v7,v8,v9,v10,.no]∧cH (n + 4 * ((i + 1:Nat):Int)) st∧eu loose od rows∧rows.length=i + 1 + 1∧od.length≤16)
        (ub K bg a b fun s'=>bP K (aF ab (af (d7 ab))) fun z=>cH (n + 200) s'∧ig loose m z.1 z.2):=by
      intro st1 hP1
      have gt:∀{k:Int},0≤k→k < (od.length:Int)→∃y,od[k.toNat]?=some y:=fun k0 k1=>⟨_,List.getElem?_eq_getElem (by omega)⟩
      refine ar (bY (bR (aa 2 rfl)) (fun hl=>?_) (fun hl=>?_))
      · obtain ⟨c,st2,c0,c1,hP2,hS2⟩:=cz hP1 (by omega) (b:=(od.length:Int) - 1) (by omega) (by omega)
        refine ai (aZ 10 (bE 0 CD hr (ae (c7 (aa 6 rfl) au) ao) rfl rfl (hS2 _)) ?_)
        obtain ⟨d,st3,d0,d1,hP3,hS3⟩:=cz hP2 (by omega) (b:=(od.length:Int) - 1 - c) (by omega) (by omega)
        obtain ⟨y1,h1⟩:=gt c0 (by omega)
        obtain ⟨y2,h2⟩:=gt (k:=c + 1 + d) (by omega) (by omega)
        refine ar (eK 4 (EV.two (bb.im (bh (aO (gv 3 (y:=y1) (aa 10 rfl) rfl rfl (by rw [dD c0 (by omega)];exact h1)) (aO (gv 3 (y:=y2) (cM (cM (aa 10 rfl) au) (bE 0 CD hr (ae (c7 (c7 (aa 6 rfl) au) (aa 10 rfl)) ao) rfl rfl (hS3 _))) rfl rfl (by rw [dD (by omega) (by omega)];exact h2)) bF)) (by show 2≤sizeLine;decide)))) rfl rfl (zz (by omega)) ?_)
        exact ⟨st3,_,_,_,_,_,_,_,_,rfl,hP3.mono (by omega),hO.more h1 h2 (by omega) (fun _=>by omega),by rw [List.length_append];simp;omega,h16⟩
      · obtain ⟨c,st2,c0,c1,hP2,hS2⟩:=cz hP1 (by omega) (b:=(od.length:Int) - 1) (by omega) (by omega)
        obtain ⟨d,st3,d0,d1,hP3,hS3⟩:=cz hP2 (by omega) (b:=(od.length:Int)) (by omega) (by omega)
        obtain ⟨y1,h1⟩:=gt c0 (by omega)
        obtain ⟨y2,h2⟩:=gt d0 d1
        refine ar (eK 4 (EV.two (bb.im (bh (aO (gv 3 (y:=y1) (bE 0 CD hr (ae (c7 (aa 6 rfl) au) ao) rfl rfl (hS2 _)) rfl rfl (by rw [dD c0 (by omega)];exact h1)) (aO (gv 3 (y:=y2) (bE 0 CD hr (ae (aa 6 rfl) ao) rfl rfl (hS3 _)) rfl rfl (by rw [dD d0 (by omega)];exact h2)) bF)) (by show 2≤sizeLine;decide)))) rfl rfl (zz (by omega)) ?_)
        exact ⟨st3,_,_,_,_,_,_,_,_,rfl,hP3.mono (by omega),hO.more h1 h2 (by omega) (fun e=>by rw [hl] at e;cases e),by rw [List.length_append];simp;omega,h16⟩
    by_cases hsz:od.length < 16
    · obtain ⟨c,st1,c0,c1,hP1,hS1⟩:=cz hP (by omega) (b:=2) (by decide) (by decide)
      refine ar (bY (TW.tv (uP (TV.cast (bD dM (aa 6 rfl) au) (decide_eq_true (by omega))) (rY (bD dA (bE 0 CD hr (ae au ao) rfl rfl (hS1 _)) au)))) (fun h=>?_) (fun h=>more st1 hP1))
      obtain ⟨k,st2,k0,k1,hP2,hS2⟩:=cz hP1 (by omega) (b:=(rows.length:Int)) (by omega) (by omega)
      refine ai (aZ 7 (bE 0 CD hr (ae (gE 4 M.len rfl) ao) rfl rfl (hS2 _)) ?_)
      obtain ⟨t,ht⟩:∃t,rows[k.toNat]?=some t:=⟨_,List.getElem?_eq_getElem (by omega)⟩
      have at1:cI rows k=some t:=by rw [dD k0 (by omega),ht]
      refine ai (tV (gv 4 (aa 7 rfl) rfl rfl at1) (kK 8 9) ?_)
      -- what comes of either
      have fin:∀(st3:Pu) (q:Nat) v10',cH (n + 4 * i + 3) st3→1≤q→q + 1≤od.length→(loose=true→∃(i j:Nat),od[i]?=some t.1∧od[j]?=some t.2∧i < q∧q≤j)→WS (ef eo P w K mg base rK "_law_part" (ah iy) f cdv A outer s H E).g7
          (match (cq iy).getD 2 (.Pass ⟨0,0,0,0⟩) with | .For _ _ body _ _=>(match body.getD 1 (.Pass ⟨0,0,0,0⟩) with | .If _ yes _ _=>yes.drop 3 | _=>[]) | _=>[])
          [.ob (bg.bx a b st3),.im ab (m:Int),.im aK loose,.mu ab (cc q (od.length:Int) od),.mu (d7 ab) rows,.im ab (0 + (i:Int)),.im ab (od.length:Int),.im ab k,.im ab t.1,.im ab t.2,v10',.no]
          (fun Γ=>∃st od rows v5 v6 v7 v8 v9 v10,Γ=[.ob (bg.bx a b st),.im ab (m:Int),.im aK loose,.mu ab od,.mu (d7 ab) rows,v5,v6,v7,v8,v9,v10,.no]∧cH (n + 4 * ((i + 1:Nat):Int)) st∧eu loose od rows∧rows.length=i + 1 + 1∧od.length≤16)
          (ub K bg a b fun s'=>bP K (aF ab (af (d7 ab))) fun z=>cH (n + 200) s'∧ig loose m z.1 z.2):=by
        intro st3 q v10' hP3 q0 q1 hq
        refine ai (nW 4 (j:=k.toNat) (y:=(t.1,(od.length:Int))) (EV.two (bb.im (bh (aO (aa 8 rfl) (aO (aa 6 rfl) bF)) (by show 2≤sizeLine;decide)))) (aa 7 rfl) rfl rfl (eX k0 (by omega)) ?_)
        refine ar (eK 4 (y:=((od.length:Int),t.2)) (EV.two (bb.im (bh (aO (aa 6 rfl) (aO (aa 9 rfl) bF)) (by show 2≤sizeLine;decide)))) rfl rfl (zz (by rw [List.length_set];omega)) ?_)
        exact ⟨st3,_,_,_,_,_,_,_,_,rfl,hP3.mono (by omega),hO.split (show rows[k.toNat]?=some (t.1,t.2) from ht) q0 q1 hq,by rw [List.length_append,List.length_set];simp;omega,by rw [gQ.length_eq];simp;omega⟩
      refine ai (bY (bR (aa 2 rfl)) (fun hl=>?_) (fun hl=>?_))
      · obtain ⟨i1,j1,a1,a2,a3⟩:=hO.up hl t (List.mem_of_getElem? ht)
        have no:∀{i1:Nat} {z:Int},od[i1]?=some z→∀m',m' < i1→od[m']?≠some z:=fun {i1 z} hz m' hm' e=>by
          have q1:=List.getElem?_eq_some_iff.mp hz
          have q2:=List.getElem?_eq_some_iff.mp e
          have:=(List.getElem_inj (h₀:=q2.1) (h₁:=q1.1) hO.pm.nd).mp (q2.2.trans q1.2.symm)
          omega
        have jl:=(List.getElem?_eq_some_iff.mp a2).1
        refine ai (aZ 10 (nv 3 hu (aa 8 rfl) rfl rfl a1 (no a1)) ?_)
        obtain ⟨d,st3,d0,d1,hP3,hS3⟩:=cz hP2 (by omega) (b:=(j1:Int) - (i1:Int)) (by omega) (by omega)
        refine ar (o5 3 (k:=(i1:Int) + 1 + d) (cM (cM (aa 10 rfl) au) (bE 0 CD hr (ae (c7 (nv 3 hu (aa 9 rfl) rfl rfl a2 (no a2)) (aa 10 rfl)) ao) rfl rfl (hS3 _))) (aa 6 rfl) rfl rfl (by omega) (by omega) (zz (by omega)) ?_)
        exact fin st3 _ _ (hP3.mono (by omega)) (by omega) (by omega) (fun _=>⟨i1,j1,a1,a2,by omega,by omega⟩)
      · obtain ⟨d,st3,d0,d1,hP3,hS3⟩:=cz hP2 (by omega) (b:=(od.length:Int) - 1) (by omega) (by omega)
        refine ar (o5 3 (k:=1 + d) (cM au (bE 0 CD hr (ae (c7 (aa 6 rfl) au) ao) rfl rfl (hS3 _))) (aa 6 rfl) rfl rfl (by omega) (by omega) (zz (by omega)) ?_)
        exact fin st3 _ _ (hP3.mono (by omega)) (by omega) (by omega) (fun e=>by rw [hl] at e;cases e)
    · refine ar (bY (TW.tv (iF (y:=false) (bD dM (aa 6 rfl) au) (fun h=>absurd (of_decide_eq_true h) (by omega)))) (fun h=>by simp at h) (fun h=>more st (hP.mono (by omega))))
  · rintro Γ ⟨st,od,rows,v5,v6,v7,v8,v9,v10,rfl,hP,hO,hlen,h16⟩
    rw [az,show ((m:Int)).toNat=m by omega] at hP hlen
    have l2:=hO.l2
    obtain ⟨xs,st1,hP1,hX,hS⟩:=oy hP (by omega) (by omega) (m:=od.length - 2) (by omega)
    have xl:=hX.len
    have ec:((od.length - 2:Nat):Int)=(od.length:Int) - 2:=by omega
    have hid:((xs.filter fun _=>true).map fun k=>2 + k)=xs.map (2 + ·):=by rw [List.filter_eq_self.mpr (by simp)]
    refine ai (aZ 11 (EV.cast (y':=[0,1]++xs.map (2 + ·)) (bb.im (nO (bb.im (bh (aO au (aO au bF)) (by show 2≤sizeLine;decide))) (bb.im (aU (own:=["_law_place"]) (fr:=[]) (ix:=[]) (ra:=ab) (rb:=ab) (p:=fun _=>true) (f:=fun k=>2 + k) (aJ (so:=ah iy) (N0:=rK) rfl rfl (fun x h=>aC h) (by decide +kernel)) (aN (bE 0 CO hr (ae (EV.cast (c7 (gE 3 M.len rfl) au) ec.symm) ao) rfl rfl (hS _)))
      (fun C s H ex=>aB 0) (fun x=>⟨.inr rfl,trivial⟩) (fun C s H ex x hx=>br) (fun C s H ex x hx _=>cM au (aa 0 rfl)))) (bo (by rw [List.length_map,List.filter_eq_self.mpr (by simp)];show 2 + _≤_;omega)))) (by rw [hid])) ?_)
    have hnl:(([0,1]++xs.map (2 + ·)).length:Int)=od.length:=by rw [List.length_append,List.length_map];show ((2 + xs.length:Nat):Int)=_;omega
    have hfin:=hO.fin hX h16 hlen
    have hid2:((rows.filter fun _=>true).map fun (t:Int×Int)=>(e8 ([0,1]++xs.map (2 + ·)) t.1,e8 ([0,1]++xs.map (2 + ·)) t.2))=rows.map fun (t:Int×Int)=>(e8 ([0,1]++xs.map (2 + ·)) t.1,e8 ([0,1]++xs.map (2 + ·)) t.2):=by rw [List.filter_eq_self.mpr (by simp)]
    have hbd:=hO.good.bd
    generalize [0,1]++xs.map (2 + ·)=names at hnl hfin hid2
    refine ar (iA 0 (B:=bg) (y:=((od.length:Int),rows.map fun (t:Int×Int)=>(e8 names t.1,e8 names t.2))) (da (ae (gE 3 M.len rfl) (ae (EV.cast (bb.im (aU (own:=["_law_one","_law_other"]) (fr:=["_law_names"]) (ix:=[11]) (ra:=d7 ab) (rb:=d7 ab) (p:=fun _=>true) (f:=fun (t:Int×Int)=>(e8 names t.1,e8 names t.2)) (aJ (so:=ah iy) (N0:=rK) rfl rfl (fun x h=>aC h) (by decide +kernel)) (aN (ia 4 rfl (bo (by omega))))
      (fun C s H ex=>kK 0 1) (fun x=>⟨.inr rfl,.inr rfl,.inl rfl,trivial⟩) (fun C s H ex x hx=>br) (fun C s H ex x hx _=>EV.two (bb.im (bh (aO (aQ (aa 2 rfl) (aa 0 rfl) (cj (hbd x hx).1 (by rw [hnl];exact (hbd x hx).2.1))) (aO (aQ (aa 2 rfl) (aa 1 rfl) (cj (hbd x hx).2.2.2.1 (by rw [hnl];exact (hbd x hx).2.2.2.2))) bF)) (by show 2≤sizeLine;decide)))))) hid2) ao))) rfl ⟨hP1.mono (by omega),hfin⟩)
end
end K1
namespace Fc
open PySem PySem.Spec L2
open PyProof.Rows hiding St
noncomputable def zq:Ent→Prop
  | .no=>True
  | .im _ _=>True
  | _=>False
noncomputable def gY:Ga→Prop
  | []=>True
  | e::r=>zq e∧gY r
theorem gY.fp:∀{Γ:Ga},gY Γ→∀(i:Nat) (e:Ent),Γ[i]?=some e→∀o,e.fp o=[]
  | e::_,⟨h,_⟩,0,_,q,o=>by
    cases q
    cases e with
    | no=>rfl
    | im _ _=>rfl
    | mu _ _=>exact h.elim
    | di _=>exact h.elim
    | ob _=>exact h.elim
  | _::r,⟨_,h⟩,i + 1,e,q,o=>gY.fp h i e (by simpa using q) o
  | [],_,i,e,q,o=>by simp at q
theorem aj.rebase {K:PySem.W.Frag}{σ:St}{H0 R0 H R:Hp}{Γ:Ga}(E:aj K σ H0 R0 H R Γ)(fl:gY Γ):aj K σ H R H R Γ:=
  ⟨⟨ak.refl _,ak.refl _,E.sub,fun _ _=>rfl⟩,E.ent,(fun i e a q w=>by rw [fl.fp i e q] at w;cases w),(fun i j e e' a q q' w w'=>by rw [fl.fp i e q] at w;cases w),E.len⟩
noncomputable def yf (r:Row):List Int:=[r.1,r.2.1,r.2.2.1,r.2.2.2]
section
variable {X:Cx}{Γ Γ1 Γ2 Γ3:Ga}{α β γ δ:Type}{N:Ga→Prop}{T:RT}
theorem bQ.sI {H H':Hp}{as:List Addr}{rs:List Row}(h:bQ H as rs)(s:ak H H'):bQ H' as rs:=⟨h.1,fun i b r h1 h2=>s _ _ (h.2 i b r h1 h2)⟩
theorem bQ.snoc {H:Hp}{as:List Addr}{rs:List Row}(h:bQ H as rs){b:Addr}{r:Row}(hb:H b=some (.lst (gZ r))):bQ H (as++[b]) (rs++[r]):=by
  refine ⟨by rw [List.length_append,List.length_append,h.1];rfl,fun i c q h1 h2=>?_⟩
  rcases Nat.lt_or_ge i as.length with hl | hl
  · rw [List.getElem?_append_left hl] at h1
    rw [List.getElem?_append_left (by rw [← h.1];exact hl)] at h2
    exact h.2 i c q h1 h2
  · rw [List.getElem?_append_right hl] at h1
    rw [List.getElem?_append_right (by rw [← h.1];exact hl)] at h2
    have e:i - as.length=0:=by
      have:=(List.getElem?_eq_some_iff.mp h1).1
      simp at this;omega
    rw [e] at h1
    rw [← h.1,e] at h2
    simp at h1 h2
    rw [← h1,← h2];exact hb
theorem bQ.app {H:Hp}{as:List Addr}{rs:List Row}(h:bQ H as rs):∀{bs:List Addr} {qs:List Row},bQ H bs qs→bQ H (as++bs) (rs++qs):=by
  intro bs qs g
  refine ⟨by rw [List.length_append,List.length_append,h.1,g.1],fun i c q h1 h2=>?_⟩
  rcases Nat.lt_or_ge i as.length with hl | hl
  · rw [List.getElem?_append_left hl] at h1
    rw [List.getElem?_append_left (by rw [← h.1];exact hl)] at h2
    exact h.2 i c q h1 h2
  · rw [List.getElem?_append_right hl] at h1
    rw [List.getElem?_append_right (by rw [← h.1];exact hl),← h.1] at h2
    exact g.2 _ c q h1 h2
theorem pf {tg elt:Expr}{scope:Scope}{cl:List (Str×Addr)}{own fr:List Str}{ix:List Nat}{ra:Rep α}{xs:List α}{f:α→Row}{bf:α→Ga→Ga}{J:It}{σ:St}{H0 R0 H1 R1:Hp}{Q:VK}(E1:aj X.K σ H0 R0 H1 R1 Γ1)(src:Src X.K J R1 ra xs)(hz:xs.length≤sizeLine)
    (hb:∀(C:Addr) (s:Shared) (H:Hp) (ex:List Addr),BG (ax X scope cl C (own++fr) s H ex) tg ra bf) (hw:∀x,Wk (bf x (bK own ix Γ1)) (bK own ix Γ1)) (hfl:∀x,gY (bf x (bK own ix Γ1)))
    (he:∀(C:Addr) (s:Shared) (H:Hp) (ex:List Addr) x,x∈xs→bb (ax X scope cl C (own++fr) s H ex) elt (bf x (bK own ix Γ1)) ab (yf (f x)) (bf x (bK own ix Γ1)))
    (q:∀a bs H' R',Ext H1 R1 H' R'→H' a=none→bQ H' bs (xs.map f)→bs.Nodup→(∀b∈bs,H1 b=none∧R' b=none)→Q (.ref a) (upd H' a (.lst (bs.map .ref)))):
    ∃ W :Nat→Nat→List V→St→Hp→Prop,(∃m,W 0 m [] (cW own ix σ) H1)∧∀i m ys σ' H',W i m ys σ' H'→
      ys.length≤sizeLine∧((J.stop i H'∧∀p,H' p=none→Q (.ref p) (upd H' p (.lst ys)))∨
      (J.go i H'∧∀x H2,J.yld i H' x H2→(fun v σ H Q=>∀C s Hh ex,eC (ax X scope cl C (own++fr) s Hh ex) tg v σ H Q:TG) x σ' H2 fun σ2 H3=>(fun σ H Q=>∀C s Hh ex,fc (ax X scope cl C (own++fr) s Hh ex) [] σ H Q:TT) σ2 H3 fun b H4=>
        if b=true then (fun σ H Q=>∀C s Hh ex,c4 (ax X scope cl C (own++fr) s Hh ex) elt σ H Q:TE) σ2 H4 fun v H5=>∃m',m' < m∧W (i + 1) m' (ys++[v]) σ2 H5 else∃m',m' < m∧W (i + 1) m' ys σ2 H4)):=by
  refine ⟨fun i m ys σ' H'=>m=xs.length - i∧i≤xs.length∧∃R' bs,aj X.K σ' H1 R1 H' R' (bK own ix Γ1)∧ys=bs.map .ref∧bQ H' bs ((xs.take i).map f)∧bs.Nodup∧∀b∈bs,H1 b=none∧R' b=none,⟨_,rfl,Nat.zero_le _,R1,[],jf E1 own ix,rfl,⟨rfl,fun i b r h1=>by simp at h1⟩,List.nodup_nil,fun b hb=>by cases hb⟩,?_⟩
  rintro i m ys σ' H' ⟨rfl,hle,R',bs,E',rfl,hrs,hnd,hbs⟩
  have hbl:bs.length=i:=by rw [hrs.1,List.length_map,List.length_take];omega
  have hys:(bs.map V.ref).length≤sizeLine:=by rw [List.length_map,hbl];omega
  obtain ⟨sgo,sstop⟩:=src H' R' E'.ext.r E'.sub i
  refine ⟨hys,?_⟩
  by_cases hlt:i < xs.length
  · obtain ⟨go,yl⟩:=sgo _ (List.getElem?_eq_getElem hlt)
    have hmem:xs[i]∈xs:=List.getElem_mem hlt
    have tk:(xs.take (i + 1))=xs.take i++[xs[i]]:=by rw [List.take_succ,List.getElem?_eq_getElem hlt];rfl
    refine .inr ⟨go,fun v H2 hy C s Hh ex=>?_⟩
    obtain ⟨R2,x2,hr⟩:=yl v H2 hy
    refine hb C s Hh ex σ' H1 R1 H2 R2 _ v _ (E'.grow x2) hr _ fun σ2 E2=>?_
    intro C s Hh ex
    refine (br (X:=ax X scope cl C (own++fr) s Hh ex)) σ2 H2 R2 H2 R2 (E2.rebase (hfl _)) _ fun H4 R4 E4 s4=>?_
    rw [if_pos rfl]
    intro C s Hh ex
    refine he C s Hh ex _ hmem σ2 H4 R4 H4 R4 (E4.rebase (hfl _)) _ fun a vs H5 R5 E5 s5 ha hR h0 off pp hz'=>?_
    have hv:=d2 pp
    subst hv
    have x5:Ext H' R' H5 R5:=x2.trans (E4.ext.trans E5.ext)
    have x25:Ext H2 R2 H5 R5:=E4.ext.trans E5.ext
    have hin:∀b∈bs,H' b≠none:=fun b hb=>by
      obtain ⟨r,hr⟩:=hrs.row hb
      rw [hr];exact Option.some_ne_none _
    have hold:∀b∈bs,b≠a:=fun b hb e=>by
      have:H4 b≠none:=ak.some (x2.h.trans E4.ext.h) (hin b hb)
      exact this (e▸h0)
    refine ⟨xs.length - (i + 1),by omega,rfl,hlt,R5,bs++[a],(E2.grow x25).weak (hw _),by rw [List.map_append];rfl,?_,?_,fun b hb=>?_⟩
    · rw [tk,List.map_append]
      exact (hrs.sI x5.h).snoc ha
    · exact fB hnd fun z=>hold a z rfl
    · rcases List.mem_append.mp hb with z | z
      · exact ⟨(hbs b z).1,(x5.old b (hin b z)).trans (hbs b z).2⟩
      · rw [List.mem_singleton.mp z]
        exact ⟨(E'.ext.h.trans (x2.h.trans E4.ext.h)).free h0,hR⟩
  · have e:i=xs.length:=by omega
    subst e
    rw [List.take_length] at hrs
    exact .inl ⟨sstop (Nat.le_refl _),fun a ha=>q a bs H' R' E'.ext ha hrs hnd hbs⟩
theorem qU (i:Nat){y:Str}{py p1 bp spos:Pos}{tg elt iter:Expr}{scope:Scope}{pos:Pos}{cl:List (Str×Addr)}{own fr:List Str}{ix:List Nat}{ra:Rep α}{xs:List α}{f:α→Row}{bf:α→Ga→Ga}{a:Addr}{as:List Addr}{rs:List Row}
    (S:cF X scope cl own fr ix) (hit:IV X tg iter Γ ra xs Γ)
    (hb:∀(C:Addr) (s:Shared) (H:Hp) (ex:List Addr),BG (ax X scope cl C (own++fr) s H ex) tg ra bf) (hw:∀x,Wk (bf x (bK own ix Γ)) (bK own ix Γ)) (hfl:∀x,gY (bf x (bK own ix Γ)))
    (he:∀(C:Addr) (s:Shared) (H:Hp) (ex:List Addr) x,x∈xs→bb (ax X scope cl C (own++fr) s H ex) elt (bf x (bK own ix Γ)) ab (yf (f x)) (bf x (bK own ix Γ)))
    (hΓ:Γ[i]?=some (.ob (bG a as rs))) (hz:rs.length + xs.length≤sizeLine) (h:∀d bs,N (Γ.set i (.ob (bG d (as++bs) (rs++xs.map f)))))
    (hN:autoParam (X.N.Nodup) Fc.dO) (hi':X.N[i]?=some y:=by rfl) (hx:autoParam (Loc X.env.scope y) Fc.dh) (hv:autoParam (cv X.env.scope y) Fc.bW) (hd:autoParam ((y==("__debug__":Str))=false) Fc.aw) (hcd:autoParam ((y==("__classdict__":Str))=false) Fc.aw)
    (hsw:autoParam (swapsWith (.BinOp (.Name y p1) .Add (.ListComp elt [⟨tg,iter,[],0⟩] scope pos) bp) (some (.Name y py)) spos.line X.env=pure false) Fc.ag)
    (hc:autoParam (X.calm=true) Fc.ag) (hs:autoParam (∀x,foldedSetIterable iter X.env x=pure x) Fc.cJ) (hf:autoParam (X.fn y=true∨X.env.scope.names.lookup y=some .local) Fc.fe):
    W1 X (.Assign [.Name y py] (.BinOp (.Name y p1) .Add (.ListComp elt [⟨tg,iter,[],0⟩] scope pos) bp) spos) Γ N T:=fun σ H0 R0 H R E D dn dr=>by
  obtain ⟨wi,hi,hit⟩:=hit
  obtain ⟨⟨v,ea,rfl,ha,hr,nd⟩,hR⟩:=E.ent i _ hΓ
  refine sS (fP hN hi' hx (jK nh (a9 hi' hv hd hcd) (kP (g:=fun v σ H Q=>∀C s Hh ex,eC (ax X scope cl C (own++fr) s Hh ex) tg v σ H Q) (tc:=fun σ H Q=>∀C s Hh ex,fc (ax X scope cl C (own++fr) s Hh ex) [] σ H Q) (te:=fun σ H Q=>∀C s Hh ex,c4 (ax X scope cl C (own++fr) s Hh ex) elt σ H Q) hc S hi
    (fun C s H ex=>⟨fun pins s1 σ H v u Q I r h=>h C s _ ex pins s1 u I r,fun pins s1 σ H Q I h=>h C s _ ex pins s1 I,fun pins s1 σ H Q I h=>h C s _ ex pins s1 I⟩) hs)) hsw hf) ⟨.ref a,at_of ea,?_⟩
  refine hit σ H0 R0 H R E _ fun J H1 R1 E1 s1 hz1 src=>pf (Q:=fun y H2=>yy (V.ref a) y H2 fun x H1=>lQ i x σ H1 D.nx) E1 src hz1 hb hw hfl he fun b bs H' R' xx hb0 hrs hnd hbs=>?_
  have E2:=E1.grow xx
  have E3:=E2.grow (Ext.cO E2.sub hb0 (.lst (bs.map .ref)))
  obtain ⟨⟨v3,ea3,rfl,ha3,hr3,nd3⟩,hR3⟩:=E3.ent i _ hΓ
  have hsb:ak H' (upd H' b (.lst (bs.map .ref))):=ak.fresh hb0 _
  have hlen:as.length=rs.length:=hr3.1
  have hlen2:bs.length=xs.length:=by rw [hrs.1,List.length_map]
  refine ⟨a,b,as.map .ref,bs.map .ref,rfl,rfl,ha3,ay,by rw [List.length_map,List.length_map,hlen,hlen2];exact hz,fun d hd0=>?_⟩
  have E4:=E3.grow (Ext.cO E3.sub hd0 (.lst (as.map .ref++bs.map .ref)))
  have hsd:ak (upd H' b (.lst (bs.map .ref))) (upd (upd H' b (.lst (bs.map .ref))) d (.lst (as.map .ref++bs.map .ref))):=ak.fresh hd0 _
  have inb:∀c∈bs,H' c≠none:=fun c hc=>by
    obtain ⟨r,hr⟩:=hrs.row hc
    rw [hr];exact Option.some_ne_none _
  have ina:∀c∈as,H1 c≠none:=fun c hc=>by
    obtain ⟨⟨v,_,_,_,hr1,_⟩,_⟩:=E1.ent i _ hΓ
    obtain ⟨r,hr⟩:=hr1.row hc
    rw [hr];exact Option.some_ne_none _
  have nda:=List.nodup_cons.mp nd3
  have dne:∀c,upd H' b (.lst (bs.map .ref)) c≠none→c≠d:=fun c hc e=>hc (e▸hd0)
  have hd1:H' d=none:=hsb.free hd0
  have r4:∀c∈as++bs,upd H' b (.lst (bs.map .ref)) c≠none:=fun c hc=>by
    rcases List.mem_append.mp hc with z | z
    · exact ak.some hsb (ak.some xx.h (ina c z))
    · exact ak.some hsb (inb c z)
  refine dn _ _ R' _ (E4.setG (v:=.ref d) (en:=.ob (bG d (as++bs) (rs++xs.map f))) i ⟨⟨.ref d,rfl,rfl,?_,?_,?_⟩,fun c hc=>?_⟩ (fun c hc=>?_) fun c hc j e hj qj w=>?_) (s1.trans xx.r) (h d bs)
  · rw [ay,List.map_append]
  · exact (hr3.sI hsd).app (hrs.sI (hsb.trans hsd))
  · refine List.nodup_cons.mpr ⟨fun z=>dne d (r4 d z) rfl,?_⟩
    rw [List.nodup_append]
    refine ⟨nda.2,hnd,fun c hc c' hc' e=>?_⟩
    subst e
    exact ina c hc (hbs c hc').1
  · rcases List.mem_cons.mp hc with rfl | hc
    · exact E2.sub.free hd1
    · rcases List.mem_append.mp hc with z | z
      · exact hR3 c (List.mem_cons_of_mem _ z)
      · exact (hbs c z).2
  · have hc:c∈d::(as++bs):=hc
    rcases List.mem_cons.mp hc with rfl | hc
    · exact E2.ext.h.free hd1
    · rcases List.mem_append.mp hc with z | z
      · exact E3.nw i _ c hΓ (List.mem_cons_of_mem _ z)
      · exact E1.ext.h.free (hbs c z).1
  · have hc:c∈d::(as++bs):=hc
    rcases List.mem_cons.mp hc with rfl | hc
    · exact (Ent.cP (E3.ent j e qj) w).1 hd0
    · rcases List.mem_append.mp hc with z | z
      · exact hj (E3.ds j i e _ c qj hΓ w (List.mem_cons_of_mem _ z))
      · exact (Ent.cP (E1.ent j e qj) w).1 (hbs c z).1
end
section
variable {X:Cx}{Γ Γ1 Γ2 Γ3:Ga}{α β γ δ:Type}{N:Ga→Prop}{T:RT}
theorem aj.xI {K:PySem.W.Frag}{σ:St}{H0 R0 H R H' R':Hp}{i j:Nat}{B C B' C':g6}(hij:i≠j)(E:aj K σ H0 R0 H R Γ)(hΓ:Γ[i]?=some (.ob B))(hΓj:Γ[j]?=some (.ob C))(x:Ext (dw H (B.fp++C.fp)) R H' R')(ho:(Ent.ob B').ok K H' R' (σ[i]?).join)(hoj:(Ent.ob C').ok K H' R' (σ[j]?).join)(hfp:∀b∈B'.fp,b∈B.fp)(hfpj:∀b∈C'.fp,b∈C.fp):aj K σ H0 R0 H' R' ((Γ.set i (.ob B')).set j (.ob C')):=by
  have h0:∀b∈B.fp++C.fp,H0 b=none:=fun b hb=>by
    rcases List.mem_append.mp hb with z | z
    · exact E.nw i _ b hΓ z
    · exact E.nw j _ b hΓj z
  have out:∀{b:Addr},H0 b≠none→b∉B.fp++C.fp:=fun h e=>h (h0 _ e)
  have apart:∀(k:Nat) (e:Ent),k≠i→k≠j→Γ[k]?=some e→∀b∈e.fp (σ[k]?).join,b∉B.fp++C.fp:=fun k e hi hj qk b hb w=>by
    rcases List.mem_append.mp w with z | z
    · exact hi (E.ds k i e _ b qk hΓ hb z)
    · exact hj (E.ds k j e _ b qk hΓj hb z)
  have key:∀(k:Nat) (e:Ent),((Γ.set i (.ob B')).set j (.ob C'))[k]?=some e→(k=j∧e= .ob C')∨(k=i∧e= .ob B')∨(k≠i∧k≠j∧Γ[k]?=some e):=fun k e q=>by
    rcases set_at q with ⟨rfl,rfl,_⟩ | ⟨hk,q1⟩
    · exact .inl ⟨rfl,rfl⟩
    · rcases set_at q1 with ⟨rfl,rfl,_⟩ | ⟨hk2,q2⟩
      · exact .inr (.inl ⟨rfl,rfl⟩)
      · exact .inr (.inr ⟨hk2,hk,q2⟩)
  refine ⟨⟨fun b o q=>?_,E.ext.r.trans x.r,x.s,fun b hb=>?_⟩,fun k e q=>?_,fun k e b q w=>?_,fun k l e e' b q q' w w'=>?_,by rw [List.length_set,List.length_set];exact E.len⟩
  · exact x.h b o (by rw [dj (out (by rw [q];exact Option.some_ne_none _))];exact E.ext.h b o q)
  · refine (x.old b ?_).trans (E.ext.old b hb)
    rw [dj (out hb)];exact ak.some E.ext.h hb
  · rcases key k e q with ⟨rfl,rfl⟩ | ⟨rfl,rfl⟩ | ⟨hi,hj,q1⟩
    · exact hoj
    · exact ho
    · have h1:=E.ent k e q1
      refine h1.loc (fun b hb=>?_) x.r fun b hb=>?_
      · cases e2:H b with
        | none=>exact absurd e2 (Ent.cP h1 hb).1
        | some u=>exact x.h b u (by rw [dj (apart k e hi hj q1 b hb)];exact e2)
      · exact (x.old b (by rw [dj (apart k e hi hj q1 b hb)];exact (Ent.cP h1 hb).1)).trans (Ent.cP h1 hb).2
  · rcases key k e q with ⟨rfl,rfl⟩ | ⟨rfl,rfl⟩ | ⟨hi,hj,q1⟩
    · exact h0 b (List.mem_append_right _ (hfpj b w))
    · exact h0 b (List.mem_append_left _ (hfp b w))
    · exact E.nw k e b q1 w
  · rcases key k e q with ⟨rfl,rfl⟩ | ⟨rfl,rfl⟩ | ⟨hi,hj,q1⟩<;>rcases key l e' q' with ⟨rfl,rfl⟩ | ⟨rfl,rfl⟩ | ⟨hi',hj',q1'⟩
    · rfl
    · exact E.ds _ _ _ _ b hΓj hΓ (hfpj b w) (hfp b w')
    · exact absurd (List.mem_append_right _ (hfpj b w)) (apart l e' hi' hj' q1' b w')
    · exact E.ds _ _ _ _ b hΓ hΓj (hfp b w) (hfpj b w')
    · rfl
    · exact absurd (List.mem_append_left _ (hfp b w)) (apart l e' hi' hj' q1' b w')
    · exact absurd (List.mem_append_right _ (hfpj b w')) (apart k e hi hj q1 b w)
    · exact absurd (List.mem_append_left _ (hfp b w')) (apart k e hi hj q1 b w)
    · exact E.ds _ _ _ _ b q1 q1' w w'
noncomputable abbrev oP:=PySem.W.Frag→Pu→List Row→List Pk→(Pu→List Row→RT)→Prop
noncomputable def oO (S:oP)(K:PySem.W.Frag):Sp:=fun vs H Q _=>∃R a b s c cs rs vs' ps T,vs= .ref a:: .ref c::vs'∧ak R H∧(∀x∈[a,b]++(c::cs),R x=none)∧(tL a b s).R K H R (.ref a)∧(bG c cs rs).R K H R (.ref c)∧(∀x∈[a,b],x∉c::cs)∧fX K R vs' ps∧S K s rs ps T∧
  ∀v H' R' s' rs',Ext (dw H ([a,b]++(c::cs))) R H' R'→(tL a b s').R K H' R' (.ref a)→(bG c cs rs').R K H' R' (.ref c)→(∀x∈[a,b]++(c::cs),R' x=none)→T s' rs' (dw H ([a,b]++(c::cs))) v H' R'→Q v H'
theorem sy (i j:Nat){S:oP}{x y z:Str}{k:Nat}{es:List Expr}{p p1 p2 p3 pos:Pos}{ps:List Pk}{a b c:Addr}{s:Pu}{cs:List Addr}{rs:List Row}{Pd:Pu→List Row→Prop}(C:aA X.prog X.w X.K X.mg X.base x k (oO S X.K))(hr:bN k X.A)(hij:i≠j)(ha:HA X es Γ ps Γ)(hΓ:Γ[i]?=some (.ob (bg.bx a b s)))(hΓj:Γ[j]?=some (.ob (bG c cs rs)))(hS:S X.K s rs ps (fun s' rs'=>bP X.K kD fun _=>Pd s' rs'))(h:∀s' rs',Pd s' rs'→N ((Γ.set i (.ob (bg.bx a b s'))).set j (.ob (bG c cs rs'))))
    (hg:autoParam (Gl X x) Fc.ag) (hdb:autoParam ((x==("__debug__":Str))=false) Fc.aw) (he:autoParam (starEach (.Name y p1:: .Name z p2::es) X.env=(false,eval (.Name y p1) X.env)::starEach (.Name z p2::es) X.env) Fc.ag) (he2:autoParam (starEach (.Name z p2::es) X.env=(false,eval (.Name z p2) X.env)::starEach es X.env) Fc.ag) (hpl:autoParam ((backTo p3 (starEach (.Name z p2::es) X.env)).any (·.1)=false) Fc.ag)
    (hN:autoParam (X.N[i]?=some y) Fc.ag) (hv:autoParam (cv X.env.scope y) Fc.bW) (hd:autoParam ((y==("__debug__":Str))=false) Fc.aw) (hcd:autoParam ((y==("__classdict__":Str))=false) Fc.aw)
    (hNj:autoParam (X.N[j]?=some z) Fc.ag) (hvj:autoParam (cv X.env.scope z) Fc.bW) (hdj:autoParam ((z==("__debug__":Str))=false) Fc.aw) (hcdj:autoParam ((z==("__classdict__":Str))=false) Fc.aw)
    (hsw:autoParam (swapsWith (.Call (.Name x p) (.Name y p1:: .Name z p2::es) [] p3) none pos.line X.env=pure false) Fc.ag):W1 X (.Expr (.Call (.Name x p) (.Name y p1:: .Name z p2::es) [] p3) pos) Γ N T:=fun σ H0 R0 H R E D dn dr=>by
  obtain ⟨f,fd,pn,F,hm,hk,hb⟩:=C.ex
  obtain ⟨ea,_,_⟩:=dg (E.ent i _ hΓ)
  obtain ⟨⟨vc,ec,rfl,_,_,_⟩,_⟩:=E.ent j _ hΓj
  refine sS (fz (kE F hr hg hm hk hb .nil oH (ba (a9 hN hv hd hcd) (ba (a9 hNj hvj hdj hcdj) jz he2) he) hdb he hpl) hsw) ⟨.ref a,at_of ea,.ref c,at_of ec,ha σ H0 R0 H R E _ fun us H1 R1 E1 s1 p1=>?_⟩
  obtain ⟨ea1,hB,hRa,hRb⟩:=dg (E1.ent i _ hΓ)
  obtain ⟨⟨vc1,ec1,rfl,hc1,hc2,hc3⟩,hRc⟩:=E1.ent j _ hΓj
  have dis:∀x∈[a,b],x∉c::cs:=fun x hx w=>hij (E1.ds i j _ _ x hΓ hΓj hx w)
  refine ⟨R1,a,b,s,c,cs,rs,us,ps,_,by rw [List.append_nil],E1.sub,fun x hx=>?_,hB,⟨rfl,hc1,hc2,hc3⟩,dis,p1,hS,fun v H' R' s' rs' xx hB' hC' hR' t=>?_⟩
  · rcases List.mem_append.mp hx with w | w
    · rcases List.mem_cons.mp w with rfl | w
      · exact hRa
      · rw [List.mem_singleton.mp w];exact hRb
    · exact hRc x w
  · obtain ⟨_,_,hP⟩:=t
    refine dn σ H' R' _ (E1.xI (B':=bg.bx a b s') (C':=bG c cs rs') hij hΓ hΓj xx ?_ ?_ (fun c hc=>hc) fun c hc=>hc) (s1.trans xx.r) (h s' rs' hP)
    · rw [ea1];exact fV (B:=bg) hB' (hR' a (by simp)) (hR' b (by simp))
    · rw [ec1];exact ⟨⟨.ref c,rfl,hC'⟩,fun x hx=>hR' x (List.mem_append_right _ hx)⟩
variable {P:Program}{w:World}{K:PySem.W.Frag}{mg:Str→Option Value}{base:Heap}
theorem nK {K:PySem.W.Frag}{R H:Hp}{a b c:Addr}{st:Pu}{cs:List Addr}{rs:List Row}{vs:List V}{ps:List Pk}{N:List Str}(s:ak R H)(hR:∀x∈[a,b]++(c::cs),R x=none)(hB:(tL a b st).R K H R (.ref a))(hC:(bG c cs rs).R K H R (.ref c))(dis:∀x∈[a,b],x∉c::cs)(p:fX K R vs ps)(hl:ps.length + 2≤N.length):
    aj K (L2.start N (.ref a:: .ref c::vs)) (dw H ([a,b]++(c::cs))) R H R (.ob (bg.bx a b st):: .ob (bG c cs rs)::du ps (N.length - 2)):=by
  obtain ⟨n0,n1,N',rfl⟩:∃n0 n1 N',N=n0::n1::N':=by
    match N,hl with
    | [],h=>exact absurd h (by simp)
    | [_],h=>exact absurd h (by simp)
    | n0::n1::N',_=>exact ⟨n0,n1,N',rfl⟩
  have hl':ps.length≤N'.length:=by simpa using hl
  have E0:=eV (N:=N') s p hl'
  have es:L2.start (n0::n1::N') (.ref a:: .ref c::vs)=some (.ref a)::some (.ref c)::L2.start N' vs:=by unfold L2.start;simp
  rw [es]
  have noown:∀(i:Nat) (e:Ent) (o:Option V),(du ps N'.length)[i]?=some e→e.fp o=[]:=fun i e o q=>by
    unfold du at q
    rcases List.mem_append.mp (List.mem_of_getElem? q) with z | z
    · obtain ⟨p,_,rfl⟩:=List.mem_map.mp z;rfl
    · obtain ⟨_,rfl⟩:=List.mem_replicate.mp z;rfl
  have ha:=hR a (by simp)
  have hb:=hR b (by simp)
  have key:∀(i:Nat) (e:Ent),(Ent.ob (bg.bx a b st)::Ent.ob (bG c cs rs)::du ps (n0::n1::N').length.pred.pred)[i]?=some e→(i=0∧e= .ob (bg.bx a b st))∨(i=1∧e= .ob (bG c cs rs))∨∃i',i=i' + 2∧(du ps N'.length)[i']?=some e:=by
    intro i e q
    match i,q with
    | 0,q=>simp at q;exact .inl ⟨rfl,q.symm⟩
    | 1,q=>simp at q;exact .inr (.inl ⟨rfl,q.symm⟩)
    | i + 2,q=>exact .inr (.inr ⟨i,rfl,by simpa using q⟩)
  refine ⟨⟨ji,ak.refl _,s,fun _ _=>rfl⟩,fun i e q=>?_,fun i e d q w=>?_,fun i j e e' d q q' w w'=>?_,?_⟩
  · rcases key i e q with ⟨rfl,rfl⟩ | ⟨rfl,rfl⟩ | ⟨i',rfl,q1⟩
    · exact fV (B:=bg) hB ha hb
    · exact ⟨⟨.ref c,rfl,hC⟩,fun x hx=>hR x (List.mem_append_right _ hx)⟩
    · simpa using E0.ent i' e q1
  · rcases key i e q with ⟨rfl,rfl⟩ | ⟨rfl,rfl⟩ | ⟨i',rfl,q1⟩
    · exact gk (List.mem_append_left _ w)
    · exact gk (List.mem_append_right _ w)
    · rw [noown i' e _ q1] at w;cases w
  · rcases key i e q with ⟨rfl,rfl⟩ | ⟨rfl,rfl⟩ | ⟨i',rfl,q1⟩
    · rcases key j e' q' with ⟨rfl,rfl⟩ | ⟨rfl,rfl⟩ | ⟨j',rfl,q1'⟩
      · rfl
      · exact absurd w' (dis d w)
      · rw [noown j' e' _ q1'] at w';cases w'
    · rcases key j e' q' with ⟨rfl,rfl⟩ | ⟨rfl,rfl⟩ | ⟨j',rfl,q1'⟩
      · exact absurd w (dis d w')
      · rfl
      · rw [noown j' e' _ q1'] at w';cases w'
    · rw [noown i' e _ q1] at w;cases w
  · have:=E0.len
    simp [this]
theorem uT {S:oP}{x qual:Str}{st:Stmt}{f:Addr}{fd:FuncData}{N ps:List Str}{k:Nat}(F:bL K x qual st f fd)(Sc:aE N ps (ah st))(hm:mg x=some (.ref f))(hb:Binds K fd ps [])(len:∀s rs qs T,S K s rs qs T→qs.length + 2=ps.length)
    (hbody:∀(cdv:Value) (A:Around) (outer:List Env) (s:Shared) (H:Hp) (E:XK) (a b c:Addr) (cs:List Addr) (u:Pu) (rs:List Row) (qs:List Pk) (T:Pu→List Row→RT),bN k (A.deeper (envOfC qual (ah st) s.heap.objs.size f cdv))→S K u rs qs T→
      WS (ef eo P w K mg base N qual (ah st) f cdv A outer s H E).g7 (cq st) (.ob (bg.bx a b u):: .ob (bG c cs rs)::du qs (N.length - 2)) (fun Γ=>∃u' rs',Γ[0]?=some (.ob (bg.bx a b u'))∧Γ[1]?=some (.ob (bG c cs rs'))∧∀H0 H' R',T u' rs' H0 .non H' R') (fun _ _ _ _=>False)):aA P w K mg base x (k + 1) (oO S K):=by
  refine ⟨f,fd,ps,?_,hm,F.kp,hb⟩
  refine F.ok Sc (fun vs H Q E h=>?_) (fun cdv A outer s H vs Q E hr h=>?_)
  · obtain ⟨R,a,b,u,c,cs,rs,vs',qs,T,rfl,_,_,_,_,_,p,hS,_⟩:=h
    rw [List.length_cons,List.length_cons,p.length];exact len u rs qs T hS
  · obtain ⟨R,a,b,u,c,cs,rs,vs',qs,T,rfl,sR,hR,hB,hC,dis,p,hS,q⟩:=h
    have hl:qs.length + 2≤N.length:=by
      rw [len u rs qs T hS]
      have:=congrArg List.length Sc.pre
      rw [List.length_take] at this
      omega
    refine ⟨_,fH,hbody cdv A outer s H E a b c cs u rs qs T hr hS (L2.start N (.ref a:: .ref c::vs')) (dw H ([a,b]++(c::cs))) R H R (nK sR hR hB hC dis p hl) {nx:=fun _ H'=>Q .non H',rt:=Q} (fun σ' H' R' Γ' E' _ ⟨u',rs',hΓ,hΓ1,t⟩=>?_) fun v H' R' xx t=>t.elim⟩
    obtain ⟨ea,hB',hR'⟩:=dg (E'.ent 0 _ hΓ)
    obtain ⟨⟨vc,ec,e2,hc'⟩,hRc⟩:=E'.ent 1 _ hΓ1
    refine q .non H' R' u' rs' E'.ext hB' ⟨rfl,hc'⟩ (fun x hx=>?_) (t _ _ _)
    rcases List.mem_append.mp hx with w | w
    · rcases List.mem_cons.mp w with rfl | w
      · exact hR'.1
      · rw [List.mem_singleton.mp w];exact hR'.2
    · exact hRc x w
theorem gP (i:Nat){x:Str}{e:Expr}{p1 pos:Pos}{a:Addr}{as:List Addr}{rs:List Row}{k:Int}{j:Nat}{b:Addr}(he:EV X e Γ ab k Γ1)(hΓ:Γ[i]?=some (.ob (bG a as rs)))(hΓ1:Γ1[i]?=some (.ob (bG a as rs)))(hk:fg as.length k=some j)(hb:as[j]?=some b)
    (hN:autoParam (X.N[i]?=some x) Fc.ag) (hv:autoParam (cv X.env.scope x) Fc.bW) (hd:autoParam ((x==("__debug__":Str))=false) Fc.aw) (hcd:autoParam ((x==("__classdict__":Str))=false) Fc.aw) (hsx:autoParam (eM e) Fc.l9):EV X (.Subscript (.Name x p1) e pos) Γ sv b Γ1:=fun σ H0 R0 H R E Q q=>by
  obtain ⟨⟨v,ea,rfl,ha,hr,_⟩,hR⟩:=E.ent i _ hΓ
  refine eS (fm dX (a9 hN hv hd hcd) aH hsx) ⟨.ref a,at_of ea,he σ H0 R0 H R E _ fun u H2 R2 E2 s2 e2=>?_⟩
  obtain ⟨⟨v,ea2,e3,ha2,hr2,nd⟩,hR2⟩:=E2.ent i _ hΓ1
  refine ⟨a,_,k,.ref b,rfl,e2,aX.of ha2,?_,q _ H2 R2 E2 s2 rfl⟩
  unfold cI
  rw [List.length_map,hk]
  show (as.map V.ref)[j]?=_
  rw [List.getElem?_map,hb];rfl
theorem zP {i j:Nat}{a:Addr}{as:List Addr}{rs:List Row}{xs:List Int}(hij:i≠j)(hΓ:Γ[i]?=some (.ob (bG a as rs)))(hj:Γ[j]?=some (.mu ab xs))(hz:rs.length≤sizeLine)(hzx:xs.length≤sizeLine)(σ:St)(H0 R0 H R:Hp)(E:aj X.K σ H0 R0 H R Γ):aj X.K σ H H H H (((Γ.map j9).set i (.im (af fW) rs)).set j (.im (af ab) xs)):=by
  obtain ⟨⟨v,ea,rfl,ha,hr,nd⟩,hR⟩:=E.ent i _ hΓ
  obtain ⟨b,vs,eb,hb,hRb,pp⟩:=E.ent j _ hj
  have E1:=E.frz.iJ (i:=i) (e0:=.no) (en:=.im (af fW) rs) (by rw [List.getElem?_map,hΓ];rfl) ⟨.ref a,ea,a,_,rfl,ha,gf hr,hz⟩ fun b w=>by cases w
  exact E1.iJ (i:=j) (e0:=.no) (by rw [List.getElem?_set_ne hij,List.getElem?_map,hj];rfl) ⟨.ref b,eb,b,vs,rfl,hb,Paired.map (fun _ _=>ab.mono E.sub) pp,hzx⟩ fun b w=>by cases w
theorem sC {a:Expr}{j:Nat}{p1 pos:Pos}{r:Row}(ha:EV X a Γ fW r Γ1):EV X (.Subscript a (.Constant (.int 0) j p1) pos) Γ ab r.1 Γ1:=fun σ H0 R0 H R E Q q=>by
  refine eS (fm dX aH dm (fun _ _=>rfl)) (ha σ H0 R0 H R E _ fun v H1 R1 E1 s1 e1=>?_)
  obtain ⟨b,rfl,hb⟩:=e1
  exact ⟨b,_,0,.int r.1,rfl,rfl,aX.of (E1.sub _ _ hb),rfl,q _ H1 R1 E1 s1 rfl⟩
end
end Fc
namespace Fc
open PySem PySem.Spec L2
theorem WS.oA {X:Cx}{Γ:Ga}{N:Ga→Prop}{T:RT}(i:Nat){sts:List Stmt}{a:Addr}{as:List Addr}{rs:List Row}(hΓ:Γ[i]?=some (.ob (bG a as rs)))(h:as.length=rs.length→WS X sts Γ N T):WS X sts Γ N T:=fun σ H0 R0 H R E D dn dr=>by
  obtain ⟨⟨v,ea,_,ha,hr,nd⟩,hR⟩:=E.ent i _ hΓ
  exact h hr.1 σ H0 R0 H R E D dn dr
end Fc
namespace K1
open PySem L2 Fc
open PySem.Spec hiding Row
open PyProof.Rows hiding St
open PySem.Builtin.Int (intBits)
noncomputable abbrev bI:Row:=(0,0,0,0)
theorem cE:∀(l m:List Int),l.Nodup→(∀x∈l,x∈m)→l.length≤m.length
  | [],_,_,_=>Nat.zero_le _
  | a::l,m,nd,h=>by
    obtain ⟨n1,n2⟩:=List.nodup_cons.mp nd
    have am:=h a List.mem_cons_self
    have ih:=cE l (m.erase a) n2 fun x hx=>(List.mem_erase_of_ne (show x≠a from fun e=>n1 (by rw [← e];exact hx))).mpr (h x (List.mem_cons_of_mem _ hx))
    have:=List.length_erase_of_mem am
    have:0 < m.length:=List.length_pos_of_mem am
    rw [List.length_cons];omega
structure ik (parts:Int) (rs0 rs:List Row):Prop where
  len:rs.length=rs0.length
  same:∀(k:Nat) (r:Row),rs[k]?=some r→∃r0,rs0[k]?=some r0∧r.1=r0.1∧r.2.1=r0.2.1∧r.2.2.1=r0.2.2.1
  ok:∀r∈rs,r.2.2.2= -1∨(r.1 < r.2.2.2∧r.2.2.2 < parts)
theorem ik.set {parts:Int}{rs0 rs:List Row}(h:ik parts rs0 rs){k:Nat}{r:Row}(hk:rs[k]?=some r){c:Int}(hc:r.1 < c∧c < parts):ik parts rs0 (rs.set k (r.1,r.2.1,r.2.2.1,c)):=by
  have kl:=(List.getElem?_eq_some_iff.mp hk).1
  refine ⟨by rw [List.length_set];exact h.len,fun j q hj=>?_,fun q hq=>?_⟩
  · by_cases e:k=j
    · subst e
      rw [List.getElem?_set_self kl] at hj;cases hj
      exact h.same k r hk
    · rw [List.getElem?_set_ne e] at hj;exact h.same j q hj
  · rcases List.mem_or_eq_of_mem_set hq with z | z
    · exact h.ok q z
    · rw [z];exact .inr hc
structure sx (parts:Int) (rs0:List Row) (i:Nat) (rs:List Row) (free used:List Int):Prop where
  c:ik parts rs0 rs
  nd:free.Nodup
  bd:∀k∈free,0≤k∧k < (rs0.length:Int)
  fr:∀k∈free,∀r,rs[k.toNat]?=some r→r.2.2.2= -1
  cov:∀k:Int,0≤k→k < (rs0.length:Int)→k∈free∨k∈used
  ulen:used.length=i
  cl:∀q:Nat,1≤q→q≤i→∃r∈rs,r.2.2.2=(q:Int)
theorem sx.one {parts:Int}{rs0:List Row}{i:Nat}{rs:List Row}{free used:List Int}(h:sx parts rs0 i rs free used)(hp:∀q:Nat,q≤i→∃(k:Nat) (r:Row),rs0[k]?=some r∧r.1=(q:Int)):∃k∈free,∀r,rs[k.toNat]?=some r→r.1 < (i:Int) + 1:=by
  refine Classical.byContradiction fun no=>?_
  -- one row of each part,all different
  have reps:∀n:Nat,n≤i + 1→∃l:List Int,l.length=n∧l.Nodup∧∀x∈l,0≤x∧x < (rs0.length:Int)∧∃r,rs0[x.toNat]?=some r∧r.1 < (n:Int):=by
    intro n
    induction n with
    | zero=>intro _;exact ⟨[],rfl,List.nodup_nil,by simp⟩
    | succ n ih=>
      intro hn
      obtain ⟨l,l1,l2,l3⟩:=ih (by omega)
      obtain ⟨k,r,hk,hr⟩:=hp n (by omega)
      have kl:=(List.getElem?_eq_some_iff.mp hk).1
      refine ⟨(k:Int)::l,by rw [List.length_cons,l1],List.nodup_cons.mpr ⟨fun z=>?_,l2⟩,fun x hx=>?_⟩
      · obtain ⟨_,_,r',h1,h2⟩:=l3 _ z
        rw [show ((k:Int)).toNat=k by omega,hk] at h1
        cases h1;omega
      · rcases List.mem_cons.mp hx with rfl | z
        · exact ⟨by omega,by omega,r,by rw [show ((k:Int)).toNat=k by omega];exact hk,by omega⟩
        · obtain ⟨a,b,r',c,d⟩:=l3 x z
          exact ⟨a,b,r',c,by omega⟩
  obtain ⟨l,l1,l2,l3⟩:=reps (i + 1) (Nat.le_refl _)
  have:=cE l used l2 fun x hx=>by
    obtain ⟨a,b,r0,c,d⟩:=l3 x hx
    rcases h.cov x a b with z | z
    · refine absurd ⟨x,z,fun r hr=>?_⟩ no
      obtain ⟨r0',e1,e2,_⟩:=h.c.same _ r hr
      rw [c] at e1;cases e1
      omega
    · exact z
  rw [l1,h.ulen] at this
  omega
section
variable {P:Program}{w:World}{K:PySem.W.Frag}{mg:Str→Option Value}{base:Heap}{f:Addr}{fd:FuncData}
noncomputable abbrev rf:Stmt:=top kN
noncomputable abbrev AD:List Str:=["_law_purse_here","_law_rows","_law_parts","_law_free","_law_part_here","_law_some","_law_k","_law_later","_law_pick"]
theorem vQ:aE AD ["_law_purse_here","_law_rows","_law_parts"] (ah rf):=⟨rfl,rfl,rfl,by decide +kernel,rfl,by decide +kernel,by decide +kernel⟩
structure mP (parts:Int) (rs0 rs:List Row):Prop where
  c:ik parts rs0 rs
  cl:∀q:Nat,1≤q→(q:Int) < parts→∃r∈rs,r.2.2.2=(q:Int)
noncomputable def SCL:oP:=fun K s rs ps T=>∃(n parts:Int),cH n s∧n≤10000∧ps=[⟨ab,parts⟩]∧1≤parts∧parts≤4∧rs.length≤100∧(∀r∈rs,0≤r.1∧r.1 < parts∧r.2.2.2= -1)∧(∀q:Nat,(q:Int) < parts→∃(k:Nat) (r:Row),rs[k]?=some r∧r.1=(q:Int))∧T=fun s' rs'=>bP K kD fun _=>cH (n + 200) s'∧mP parts rs rs'
theorem yZ (M:bX mg)(CD:aA P w K mg base "_law_draw" 1 (e7 bg mK K))(F:bL K "_law_called" "_law_called" rf f fd)(hm:mg "_law_called"=some (.ref f))(hb:Binds K fd ["_law_purse_here","_law_rows","_law_parts"] []):aA P w K mg base "_law_called" 2 (oO SCL K):=by
  have nd:=vQ.nd
  have nd1:List.Nodup [("_law_k":Str),"_law_part_here","_law_rows"]:=by decide
  refine uT F vQ hm hb (fun _ _ qs T ⟨_,_,_,_,e,_⟩=>by rw [e];rfl) (fun cdv A outer s H E a b c cs st rs0 qs T hr hS=>?_)
  obtain ⟨n,parts,hP,n1,rfl,p1,p4,hl,hrow,hpart,rfl⟩:=hS
  have n0:0≤n:=Int.le_trans hP.t0 hP.t1
  change WS _ _ [.ob (bg.bx a b st),.ob (bG c cs rs0),.im ab parts,.no,.no,.no,.no,.no,.no] _ _
  refine ai (dq 3 (lL M.list M.range (pd 1 M.len rfl) ⟨by omega,by omega⟩) ?_)
  have e0:ups 0 ((rs0.length:Int)).toNat=ups 0 rs0.length:=by rw [show ((rs0.length:Int)).toNat=rs0.length by omega]
  rw [e0]
  refine ai (cZ (r:=ab) (fun i Γ=>∃st rs free used v4 v5 v6,Γ=[.ob (bg.bx a b st),.ob (bG c cs rs),.im ab parts,.mu ab free,v4,v5,v6,.no,.no]∧cH (n + i) st∧sx parts rs0 i rs free used∧free.length≤100)
    (kR M.range au (aa 2 rfl) ⟨by decide,by decide,by omega,by omega⟩) (aB 4) ⟨st,rs0,ups 0 rs0.length,[],_,_,_,rfl,hP.mono (by omega),⟨⟨rfl,fun k r hk=>⟨r,hk,rfl,rfl,rfl⟩,fun r hr=>.inl (hrow r hr).2.2⟩,eR _,fun k hk=>aL.mp hk,fun k _ r hr=>(hrow r (List.mem_of_getElem? hr)).2.2,fun k k0 k1=>.inl (aL.mpr ⟨k0,k1⟩),rfl,fun q q1 q2=>by omega⟩,by rw [az];exact hl⟩ ?_ ?_)
  · rintro i x Γ hx ⟨st,rs,free,used,v4,v5,v6,rfl,hP,hK,hfl⟩
    obtain ⟨hi,ex⟩:=fL hx
    have ex:x=(i:Int) + 1:=by omega
    subst ex
    have il:(i:Int) + 1 < parts:=by omega
    have hrl:=hK.c.len
    refine WS.oA 1 rfl fun hcs=>?_
    have rg:∀k∈free,∃r,rs[k.toNat]?=some r:=fun k hk=>⟨_,List.getElem?_eq_getElem (by have:=hK.bd k hk;omega)⟩
    have hkk:∀k∈free,cI rs k=some (rs.getD k.toNat bI):=fun k hk=>bV bI (hK.bd k hk).1 (by have:=hK.bd k hk;omega)
    refine ai (u4 5 (zP (i:=1) (j:=3) (by decide) rfl rfl (bo (by omega)) (bo (by omega))) (own:=["_law_k"]) (fr:=["_law_part_here","_law_rows"]) (ix:=[4,1]) (ra:=ab) (rb:=ab) (p:=fun k=>decide ((rs.getD k.toNat bI).1 < (i:Int) + 1)) (f:=fun k=>k) (fun _ _ _ _ _ h=>h) (aJ (so:=ah rf) (N0:=AD) rfl rfl (fun x h=>aC h) (by decide +kernel)) (aN (aa 3 rfl))
      (fun C s H ex=>aB 0) (fun x=>⟨.inr rfl,.inl rfl,.inl rfl,trivial⟩) (fun C s H ex x hx=>d5 (bD dM (sC (aQ (aa 2 rfl) (aa 0 rfl) (hkk x hx))) (aa 1 rfl))) (fun C s H ex x hx _=>aa 0 rfl) ?_)
    have hid:((free.filter fun k=>decide ((rs.getD k.toNat bI).1 < (i:Int) + 1)).map fun k=>k)=free.filter fun k=>decide ((rs.getD k.toNat bI).1 < (i:Int) + 1):=by simp
    rw [hid]
    have hne:free.filter (fun k=>decide ((rs.getD k.toNat bI).1 < (i:Int) + 1))≠[]:=fun z=>by
      obtain ⟨k,hk,hr⟩:=hK.one fun q hq=>hpart q (by omega)
      have:k∈free.filter fun k=>decide ((rs.getD k.toNat bI).1 < (i:Int) + 1):=by
        rw [List.mem_filter]
        refine ⟨hk,decide_eq_true ?_⟩
        obtain ⟨r,er⟩:=rg k hk
        rw [List.getD_eq_getElem?_getD,er];exact hr r er
      rw [z] at this;cases this
    have hsl:=List.length_filter_le (fun k=>decide ((rs.getD k.toNat bI).1 < (i:Int) + 1)) free
    have hsub:∀k∈free.filter (fun k=>decide ((rs.getD k.toNat bI).1 < (i:Int) + 1)),k∈free∧(rs.getD k.toNat bI).1 < (i:Int) + 1:=fun k hk=>⟨(List.mem_filter.mp hk).1,of_decide_eq_true (List.mem_filter.mp hk).2⟩
    generalize free.filter (fun k=>decide ((rs.getD k.toNat bI).1 < (i:Int) + 1))=sm at hne hsl hsub
    have sl:1≤sm.length:=by cases sm with
      | nil=>exact absurd rfl hne
      | cons=>simp
    obtain ⟨y,st1,y0,y1,hP1,hS⟩:=cz hP (by omega) (b:=(sm.length:Int)) (by omega) (by omega)
    obtain ⟨k,hk⟩:∃k,sm[y.toNat]?=some k:=⟨_,List.getElem?_eq_getElem (by omega)⟩
    obtain ⟨kf,kp⟩:=hsub k (List.mem_of_getElem? hk)
    have kb:=hK.bd k kf
    refine ai (aZ 6 (gv 5 (y:=k) (bE 0 CD hr (ae (gE 5 M.len rfl) ao) rfl rfl (hS _)) rfl rfl (by rw [dD y0 (by omega)];exact hk)) ?_)
    obtain ⟨r,er⟩:=rg k kf
    rw [List.getD_eq_getElem?_getD,er] at kp
    have kp:r.1 < (i:Int) + 1:=kp
    obtain ⟨bk,hbk⟩:∃bk,cs[k.toNat]?=some bk:=⟨_,List.getElem?_eq_getElem (by omega)⟩
    refine ai (mf 1 (y:=(i:Int) + 1) (aa 4 rfl) (gP 1 (aa 6 rfl) rfl rfl (eX kb.1 (by omega)) hbk) rfl (iN hbk er) ?_)
    obtain ⟨j,hj,hno⟩:∃j:Nat,free[j]?=some k∧∀m,m < j→free[m]?≠some k:=by
      obtain ⟨j,hj⟩:=List.mem_iff_getElem?.mp kf
      refine ⟨j,hj,fun m hm e=>?_⟩
      have q1:=List.getElem?_eq_some_iff.mp hj
      have q2:=List.getElem?_eq_some_iff.mp e
      have:=(List.getElem_inj (h₀:=q2.1) (h₁:=q1.1) hK.nd).mp (q2.2.trans q1.2.symm)
      omega
    refine ar (sG 3 (aa 6 rfl) rfl rfl hj hno ?_)
    have jl:=(List.getElem?_eq_some_iff.mp hj)
    have em:∀z,z∈free.eraseIdx j↔z∈free∧z≠k:=fun z=>by
      rw [List.mem_eraseIdx_iff_getElem?]
      constructor
      · rintro ⟨m,m1,m2⟩
        refine ⟨List.mem_of_getElem? m2,fun e=>m1 ?_⟩
        subst e
        have q2:=List.getElem?_eq_some_iff.mp m2
        exact (List.getElem_inj (h₀:=q2.1) (h₁:=jl.1) hK.nd).mp (q2.2.trans jl.2.symm)
      · rintro ⟨m1,m2⟩
        obtain ⟨m,hm⟩:=List.mem_iff_getElem?.mp m1
        refine ⟨m,fun e=>m2 ?_,hm⟩
        subst e
        rw [hj] at hm;exact (Option.some.inj hm).symm
    refine ⟨st1,_,free.eraseIdx j,k::used,_,_,_,rfl,hP1.mono (by omega),⟨hK.c.set er ⟨by omega,by omega⟩,hK.nd.sublist (List.eraseIdx_sublist _ _),fun z hz=>hK.bd z ((em z).mp hz).1,fun z hz q hq=>?_,fun z z0 z1=>?_,by rw [List.length_cons,hK.ulen],fun q q1 q2=>?_⟩,Nat.le_trans (List.length_eraseIdx_le _ _) hfl⟩
    · obtain ⟨zf,zk⟩:=(em z).mp hz
      have zb:=hK.bd z zf
      rw [List.getElem?_set_ne (by omega)] at hq
      exact hK.fr z zf q hq
    · rcases hK.cov z z0 z1 with h | h
      · by_cases e:z=k
        · exact .inr (by rw [e];simp)
        · exact .inl ((em z).mpr ⟨h,e⟩)
      · exact .inr (List.mem_cons_of_mem _ h)
    · rcases Nat.lt_or_ge q (i + 1) with h | h
      · obtain ⟨r',hr',e'⟩:=hK.cl q q1 (by omega)
        obtain ⟨j',hj'⟩:=List.mem_iff_getElem?.mp hr'
        refine ⟨r',List.mem_iff_getElem?.mpr ⟨j',?_⟩,e'⟩
        rw [List.getElem?_set_ne (fun z=>?_)];· exact hj'
        subst z
        rw [er] at hj';cases hj'
        have:=hK.fr k kf r er
        omega
      · have:q=i + 1:=by omega
        subst this
        exact ⟨(r.1,r.2.1,r.2.2.1,(i:Int) + 1),List.mem_iff_getElem?.mpr ⟨k.toNat,List.getElem?_set_self (by omega)⟩,by show (i:Int) + 1=_;omega⟩
  · rintro Γ ⟨st,rs,free,used,v4,v5,v6,rfl,hP,hK,hfl⟩
    rw [az] at hP hK
    have em:(parts - 1).toNat=(parts - 1).toNat:=rfl
    have hrl:=hK.c.len
    refine ar (cZ (r:=ab) (fun i Γ=>∃st rs v6 v7 v8,Γ=[.ob (bg.bx a b st),.ob (bG c cs rs),.im ab parts,.im (af ab) free,v4,v5,v6,v7,v8]∧cH (n + 10 + i) st∧mP parts rs0 rs∧∀m k,i≤m→free[m]?=some k→∀r,rs[k.toNat]?=some r→r.2.2.2= -1)
      (aN (ia 3 rfl (bo (by omega)))) (aB 6) ⟨st,rs,_,_,_,rfl,hP.mono (by omega),⟨hK.c,fun q q1 q2=>hK.cl q q1 (by omega)⟩,fun m k _ hk r hr=>hK.fr k (List.mem_of_getElem? hk) r hr⟩ ?_ ?_)
    · rintro i k Γ hk ⟨st,rs,v6,v7,v8,rfl,hP,hC,hfr⟩
      have il:=(List.getElem?_eq_some_iff.mp hk).1
      have kb:=hK.bd k (List.mem_of_getElem? hk)
      have hl2:=hC.c.len
      refine WS.oA 1 rfl fun hcs=>?_
      obtain ⟨r,er⟩:∃r,rs[k.toNat]?=some r:=⟨_,List.getElem?_eq_getElem (by omega)⟩
      obtain ⟨bk,hbk⟩:∃bk,cs[k.toNat]?=some bk:=⟨_,List.getElem?_eq_getElem (by omega)⟩
      obtain ⟨r0,er0,e1,_⟩:=hC.c.same _ r er
      have hr0:=hrow r0 (List.mem_of_getElem? er0)
      have hcol:∀(Γ':Ga) (pos p1 p2 p3:Pos) (jj:Nat),Γ'[6]?=some (.im ab k)→Γ'[1]?=some (.ob (bG c cs rs))→True:=fun _ _ _ _ _ _ _ _=>trivial
      refine ai (aZ 7 (c7 (c7 (aa 2 rfl) au) (rS 1 (c:=0) (y:=r.1) (gP 1 (aa 6 rfl) rfl rfl (eX kb.1 (by omega)) hbk) rfl (iN (r':=r) hbk er) rfl)) ?_)
      obtain ⟨y,st1,y0,y1,hP1,hS⟩:=cz hP (by omega) (b:=3 * (parts - 1 - r.1) + 1) (by omega) (by omega)
      refine ai (aZ 8 (bE 0 CD hr (ae (cM (qh au (aa 7 rfl) (.inl (by decide))) au) ao) rfl rfl (hS _)) ?_)
      refine ar (bY (bD dM (aa 8 rfl) (aa 7 rfl)) (fun h=>?_) (fun h=>bB ?_))
      · have h:y < parts - 1 - r.1:=of_decide_eq_true h
        refine ar (mf 1 (y:=r.1 + 1 + y) (cM (cM (rS 1 (c:=0) (y:=r.1) (gP 1 (aa 6 rfl) rfl rfl (eX kb.1 (by omega)) hbk) rfl (iN (r':=r) hbk er) rfl) au) (aa 8 rfl)) (gP 1 (aa 6 rfl) rfl rfl (eX kb.1 (by omega)) hbk) rfl (iN hbk er) ?_)
        refine ⟨st1,_,_,_,_,rfl,hP1.mono (by omega),⟨hC.c.set er ⟨by omega,by omega⟩,fun q q1 q2=>?_⟩,fun m k' hm hk' r' hr'=>?_⟩
        · obtain ⟨r',hr',e'⟩:=hC.cl q q1 q2
          obtain ⟨j',hj'⟩:=List.mem_iff_getElem?.mp hr'
          refine ⟨r',List.mem_iff_getElem?.mpr ⟨j',?_⟩,e'⟩
          rw [List.getElem?_set_ne (fun z=>?_)];· exact hj'
          subst z
          rw [er] at hj';cases hj'
          have:=hfr i k (Nat.le_refl _) hk r er
          omega
        · have kb':=hK.bd k' (List.mem_of_getElem? hk')
          have:k.toNat≠k'.toNat:=fun z=>by
            have e:k=k':=by omega
            subst e
            have q1:=List.getElem?_eq_some_iff.mp hk
            have q2:=List.getElem?_eq_some_iff.mp hk'
            have:=(List.getElem_inj (h₀:=q1.1) (h₁:=q2.1) hK.nd).mp (q1.2.trans q2.2.symm)
            omega
          rw [List.getElem?_set_ne this] at hr'
          exact hfr m k' (by omega) hk' r' hr'
      · exact ⟨st1,_,_,_,_,rfl,hP1.mono (by omega),hC,fun m k' hm hk' r' hr'=>hfr m k' (by omega) hk' r' hr'⟩
    · rintro Γ ⟨st,rs,v6,v7,v8,rfl,hP,hC,_⟩
      exact ⟨st,rs,rfl,rfl,fun _ _ _=>⟨(),rfl,hP.mono (by omega),hC⟩⟩
end
theorem g8 {es es':List (Int×Int)}{s:Int}(h:∀t∈es,t∈es'){k:Int}(r:Reach es s k):Reach es' s k:=Reach.mono h r
structure zo (k:Nat) (places:List Int) (rs:List Row):Prop where
  len:places.length=k
  part:∀(i:Nat) (m:Int),places[i]?=some m→∃ties,dJ m ties∧∀a b,(∃r∈rs,r.1=(i:Int)∧r.2.1=a∧r.2.2.1=b)↔(a,b)∈ties
  row:∀r∈rs,0≤r.1∧r.1 < (k:Int)∧(r.2.2.2= -1∨(r.1 < r.2.2.2∧r.2.2.2 < (k:Int)))
  call:∀i:Nat,0 < i→i < k→∃r∈rs,r.2.2.2=(i:Int)
structure aV (v:av):Prop where
  good:zo v.1.length v.1 v.2
  pl:1≤v.1.length∧v.1.length≤4
  rl:1≤v.2.length∧v.2.length≤60
  sz:∀m∈v.1,2≤m∧m≤16
theorem sk {xs:List Int}{x:Int×Int}:x∈nums xs↔∃i:Nat,x.1=(i:Int)∧xs[i]?=some x.2:=by
  constructor
  · intro h
    obtain ⟨i,hi⟩:=List.mem_iff_getElem?.mp h
    exact ⟨i,iK hi⟩
  · rintro ⟨i,h1,h2⟩
    refine List.mem_iff_getElem?.mpr ⟨i,?_⟩
    unfold nums
    rw [List.getElem?_map,List.getElem?_zipIdx,h2]
    obtain ⟨a,b⟩:=x
    simp at h1
    simp [h1]
theorem all_map {α:Type}{xs:List α}{g:α→Bool}:((xs.filter fun _=>true).map g).all id=true↔∀x∈xs,g x=true:=by
  rw [List.filter_eq_self.mpr (by simp),List.all_map,List.all_eq_true];rfl
structure tH (ns:List Int) (r:Row):Prop where
  p0:0≤r.1
  p1:r.1 < (ns.length:Int)
  s1:r.2.1≠1
  c0: -1≤r.2.2.2
  c1:r.2.2.2 < (ns.length:Int)
  s0:0≤r.2.1
  e0:0≤r.2.2.1
  sn:r.2.1 < ns.getD r.1.toNat 0
  en:r.2.2.1 < ns.getD r.1.toNat 0
  cp:¬(0≤r.2.2.2∧r.2.2.2≤r.1)
theorem qF {ns:List Int}{r:Row}(q:tH ns r):fk ns r=true:=by
  unfold fk
  have:=q.p0;have:=q.p1;have:=q.s1;have:=q.c0;have:=q.c1;have:=q.s0;have:=q.e0;have h1:=q.sn;have h2:=q.en;have:=q.cp
  rw [List.getD_eq_getElem?_getD] at h1 h2
  rw [if_neg (by simp;omega),if_neg (by simp [List.getD_eq_getElem?_getD];omega)]
  simp
  omega
theorem aV.cV {v:av}(h:aV v){r:Row}(hr:r∈v.2):tH v.1 r:=by
  have q:=h.good.row r hr
  obtain ⟨m,hm⟩:∃m,v.1[r.1.toNat]?=some m:=⟨_,List.getElem?_eq_getElem (by omega)⟩
  obtain ⟨ts,hg,hts⟩:=h.good.part _ _ hm
  have b:=hg.bd (r.2.1,r.2.2.1) ((hts _ _).mp ⟨r,hr,by omega,rfl,rfl⟩)
  have e:v.1.getD r.1.toNat 0=m:=by rw [List.getD_eq_getElem?_getD,hm];rfl
  refine ⟨q.1,q.2.1,b.2.2.1,by omega,by omega,b.1,b.2.2.2.1,by rw [e];exact b.2.1,by rw [e];exact b.2.2.2.2,by omega⟩
theorem dH {rs:List Row}{p a b:Int}:(a,b)∈fwd rs p↔∃r∈rs,r.1=p∧r.2.1=a∧r.2.2.1=b:=by
  unfold fwd
  simp only [List.mem_map,List.mem_filter,decide_eq_true_eq,Prod.mk.injEq]
  constructor
  · rintro ⟨r,⟨h1,h2⟩,h3,h4⟩;exact ⟨r,h1,h2,h3,h4⟩
  · rintro ⟨r,h1,h2,h3,h4⟩;exact ⟨r,⟨h1,h2⟩,h3,h4⟩
theorem oa {rs:List Row}{p a b:Int}:(a,b)∈bwd rs p↔∃r∈rs,r.1=p∧r.2.2.1=a∧r.2.1=b:=by
  unfold bwd
  simp only [List.mem_map,List.mem_filter,decide_eq_true_eq,Prod.mk.injEq]
  constructor
  · rintro ⟨r,⟨h1,h2⟩,h3,h4⟩;exact ⟨r,h1,h2,h3,h4⟩
  · rintro ⟨r,h1,h2,h3,h4⟩;exact ⟨r,⟨h1,h2⟩,h3,h4⟩
theorem aV.toEnd {v:av}(h:aV v){i:Nat}{m:Int}(hi:v.1[i]?=some m){k:Int}(k0:0≤k)(k1:k < m):Reach (bwd v.2 i) 1 k:=by
  obtain ⟨ts,hg,hts⟩:=h.good.part i m hi
  refine g8 (fun t ht=>?_) (hg.bw k k0 k1)
  obtain ⟨a,b⟩:=t
  obtain ⟨r,hr,e0,e1,e2⟩:=(hts b a).mpr (d3.mp ht)
  exact oa.mpr ⟨r,hr,e0,e2,e1⟩
theorem aV.k7 {v:av}(h:aV v){i:Nat}{m:Int}(hi:v.1[i]?=some m){k:Int}(k0:0≤k)(k1:k < m):Reach (fwd v.2 i) 0 k:=by
  obtain ⟨ts,hg,hts⟩:=h.good.part i m hi
  refine g8 (fun t ht=>?_) (hg.fw k k0 k1)
  obtain ⟨a,b⟩:=t
  obtain ⟨r,hr,e0,e1,e2⟩:=(hts a b).mpr ht
  exact dH.mpr ⟨r,hr,e0,e1,e2⟩
open Classical in
theorem j6 {es:List (Int×Int)}{s n:Int}(hes:∀a b,(a,b)∈es→0≤b∧b < n)(h0:0≤s)(h1:s < n)(h:∀k,0≤k→k < n→Reach es s k):gm es s n=true:=by
  unfold gm
  rw [decide_eq_true_eq]
  refine ⟨ups 0 n.toNat,eR _,fun k=>⟨fun hk=>?_,fun hk=>?_⟩,by rw [az];omega⟩
  · have:=aL.mp hk
    exact h k (by omega) (by omega)
  · have:0≤k∧k < n:=by
      cases hk with
      | base=>exact ⟨h0,h1⟩
      | step _ m=>exact hes _ _ m
    exact aL.mpr (by omega)
theorem aV.yR {v:av}(h:aV v):jn v=true:=by
  have pl:=h.pl
  have rl:=h.rl
  have hsz:fU v=true:=by
    unfold fU
    rw [if_neg (by simp;omega),all_map]
    intro m hm
    have:=h.sz m hm
    simp;omega
  unfold jn
  rw [if_neg (by rw [hsz];decide)]
  have h2:(List.map (fk v.1) (List.filter (fun _=>true) v.2)).all id=true:=all_map.mpr fun r hr=>qF (h.cV hr)
  rw [if_neg (by rw [h2];decide)]
  have h3:(List.map (called v.2) (List.filter (fun _=>true) (ups (0 + 1) ((v.1.length:Int) - (0 + 1)).toNat))).all id=true:=all_map.mpr fun p hp=>by
    unfold ups at hp
    obtain ⟨k,hk,rfl⟩:=List.mem_map.mp hp
    have hk:=List.mem_range.mp hk
    obtain ⟨r,hr1,hr2⟩:=h.good.call (k + 1) (by omega) (by omega)
    unfold called
    rw [List.filter_eq_self.mpr (by simp),List.any_map,List.any_eq_true]
    exact ⟨r,hr1,by simp [hr2];omega⟩
  rw [if_neg (by rw [h3];decide)]
  refine all_map.mpr fun x hx=>?_
  obtain ⟨i,h1,hi⟩:=sk.mp hx
  have nb:=h.sz _ (List.mem_of_getElem? hi)
  have hd:∀r∈v.2,r.1=(i:Int)→v.1.getD r.1.toNat 0=x.2:=fun r hr hp=>by
    rw [hp,List.getD_eq_getElem?_getD,show ((i:Int)).toNat=i by omega,hi];rfl
  unfold nu
  rw [h1,Bool.and_eq_true]
  refine ⟨j6 (fun a b hab=>?_) (by decide) (by omega) fun k k0 k1=>h.k7 hi k0 k1,j6 (fun a b hab=>?_) (by decide) (by omega) fun k k0 k1=>h.toEnd hi k0 k1⟩
  · obtain ⟨r,hr,hp,e1,e2⟩:=dH.mp hab
    have q:=h.cV hr
    have q1:=q.en;rw [hd r hr hp] at q1
    rw [← e2];exact ⟨q.e0,q1⟩
  · obtain ⟨r,hr,hp,e1,e2⟩:=oa.mp hab
    have q:=h.cV hr
    have q1:=q.sn;rw [hd r hr hp] at q1
    rw [← e2];exact ⟨q.s0,q1⟩
noncomputable def bj (rs:List Row)(p:Nat):Prop:=∃rk:Int→Int,∀r∈rs,r.1=(p:Int)→rk r.2.1 < rk r.2.2.1
structure e6 (loose:Bool) (i:Nat) (places:List Int) (rs:List Row):Prop where
  len:places.length=i
  sz:∀m∈places,2≤m∧m≤16
  part:∀(p:Nat) (m:Int),places[p]?=some m→∃ties,dJ m ties∧∀a b,(∃r∈rs,r.1=(p:Int)∧r.2.1=a∧r.2.2.1=b)↔(a,b)∈ties
  row:∀r∈rs,0≤r.1∧r.1 < (i:Int)∧r.2.2.2= -1
  has:∀p:Nat,p < i→∃(k:Nat) (r:Row),rs[k]?=some r∧r.1=(p:Int)
  up:loose=true→∀p:Nat,p < i→bj rs p
theorem e6.nil (loose:Bool):e6 loose 0 [] []:=⟨rfl,by simp,by simp,by simp,fun p h=>by omega,fun _ p h=>by omega⟩
theorem e6.more {loose:Bool}{i m:Nat}{places:List Int}{rs:List Row}(h:e6 loose i places rs){size:Int}{ties:List (Int×Int)}(hp:ig loose m size ties):e6 loose (i + 1) (places++[size]) (rs++ties.map fun (t:Int×Int)=>((i:Int),t.1,t.2,(-1:Int))):=by
  have hl:=h.len
  have nw:∀r,r∈ties.map (fun (t:Int×Int)=>((i:Int),t.1,t.2,(-1:Int)))↔r.1=(i:Int)∧r.2.2.2= -1∧(r.2.1,r.2.2.1)∈ties:=fun r=>by
    rw [List.mem_map]
    constructor
    · rintro ⟨t,ht,rfl⟩;exact ⟨rfl,rfl,ht⟩
    · rintro ⟨a,b,c⟩
      refine ⟨_,c,?_⟩
      obtain ⟨r1,r2,r3,r4⟩:=r
      simp only at a b
      subst a;subst b;rfl
  refine ⟨by rw [List.length_append,hl];rfl,fun z hz=>?_,fun p z hz=>?_,fun r hr=>?_,fun p hp'=>?_,fun e p hp'=>?_⟩
  · rcases List.mem_append.mp hz with q | q
    · exact h.sz z q
    · rw [List.mem_singleton.mp q];exact ⟨hp.good.m2,hp.le⟩
  · rcases Nat.lt_or_ge p i with pl | pl
    · rw [List.getElem?_append_left (by omega)] at hz
      obtain ⟨ts,g1,g2⟩:=h.part p z hz
      refine ⟨ts,g1,fun a b=>?_⟩
      rw [← g2 a b]
      constructor
      · rintro ⟨r,hr,r1,r2⟩
        rcases List.mem_append.mp hr with q | q
        · exact ⟨r,q,r1,r2⟩
        · have:=((nw r).mp q).1;omega
      · rintro ⟨r,hr,r1⟩;exact ⟨r,List.mem_append_left _ hr,r1⟩
    · have pe:p=i:=by
        have:=(List.getElem?_eq_some_iff.mp hz).1
        rw [List.length_append,hl] at this
        simp at this;omega
      subst pe
      rw [List.getElem?_append_right (by omega),hl,Nat.sub_self] at hz
      have hz:size=z:=by simpa using hz
      subst hz
      refine ⟨ties,hp.good,fun a b=>?_⟩
      constructor
      · rintro ⟨r,hr,r1,r2,r3⟩
        rcases List.mem_append.mp hr with q | q
        · have:=(h.row r q).2.1;omega
        · have:=((nw r).mp q).2.2
          rw [r2,r3] at this;exact this
      · intro hab
        exact ⟨((p:Int),a,b, -1),List.mem_append_right _ ((nw _).mpr ⟨rfl,rfl,hab⟩),rfl,rfl,rfl⟩
  · rcases List.mem_append.mp hr with q | q
    · have:=h.row r q;exact ⟨this.1,by omega,this.2.2⟩
    · have:=(nw r).mp q;exact ⟨by omega,by omega,this.2.1⟩
  · rcases Nat.lt_or_ge p i with pl | pl
    · obtain ⟨k,r,a,b⟩:=h.has p pl
      exact ⟨k,r,by rw [List.getElem?_append_left (List.getElem?_eq_some_iff.mp a).1];exact a,b⟩
    · have pe:p=i:=by omega
      subst pe
      have tl:=hp.len
      have hm:((p:Int),(ties[0]'(by omega)).1,(ties[0]'(by omega)).2,(-1:Int))∈rs++ties.map fun (t:Int×Int)=>((p:Int),t.1,t.2,(-1:Int)):=List.mem_append_right _ (List.mem_map.mpr ⟨_,List.getElem_mem (by omega),rfl⟩)
      obtain ⟨k,hk⟩:=List.mem_iff_getElem?.mp hm
      exact ⟨k,_,hk,rfl⟩
  · rcases Nat.lt_or_ge p i with pl | pl
    · obtain ⟨rk,hrk⟩:=h.up e p pl
      refine ⟨rk,fun r hr r1=>?_⟩
      rcases List.mem_append.mp hr with q | q
      · exact hrk r q r1
      · have:=((nw r).mp q).1;omega
    · have pe:p=i:=by omega
      subst pe
      obtain ⟨rk,hrk⟩:=hp.up e
      refine ⟨rk,fun r hr r1=>?_⟩
      rcases List.mem_append.mp hr with q | q
      · have:=(h.row r q).2.1;omega
      · exact hrk _ ((nw r).mp q).2.2
structure xW (loose:Bool) (v:av):Prop where
  g:aV v
  le:v.2.length≤30
  up:loose=true→∀p:Nat,p < v.1.length→bj v.2 p
theorem vg {loose:Bool}{parts:Nat}{places:List Int}{rs0 rs rs':List Row}(h:e6 loose parts places rs0)(p1:1≤parts)(p4:parts≤4)(hc:mP (parts:Int) rs0 rs)(hl:rs0.length≤30)(hm:∀r,r∈rs'↔r∈rs)(hl':rs'.length=rs.length):xW loose (places,rs'):=by
  have hlen:=h.len
  have fw:∀r∈rs,∃r0∈rs0,r.1=r0.1∧r.2.1=r0.2.1∧r.2.2.1=r0.2.2.1:=fun r hr=>by
    obtain ⟨k,hk⟩:=List.mem_iff_getElem?.mp hr
    obtain ⟨r0,a,b⟩:=hc.c.same k r hk
    exact ⟨r0,List.mem_of_getElem? a,b⟩
  have bw:∀r0∈rs0,∃r∈rs,r.1=r0.1∧r.2.1=r0.2.1∧r.2.2.1=r0.2.2.1:=fun r0 hr=>by
    obtain ⟨k,hk⟩:=List.mem_iff_getElem?.mp hr
    have kl:=(List.getElem?_eq_some_iff.mp hk).1
    have kl2:k < rs.length:=by rw [hc.c.len];exact kl
    obtain ⟨r0',a,b⟩:=hc.c.same k _ (List.getElem?_eq_getElem kl2)
    rw [hk] at a;cases a
    exact ⟨_,List.getElem_mem kl2,b⟩
  have n1:1≤rs'.length:=by
    obtain ⟨k,r,a,_⟩:=h.has 0 (by omega)
    have:=(List.getElem?_eq_some_iff.mp a).1
    rw [hl',hc.c.len];omega
  refine ⟨⟨⟨rfl,fun i m hi=>?_,fun r hr=>?_,fun i i0 i1=>?_⟩,by show 1≤places.length∧places.length≤4;omega,by show 1≤rs'.length∧rs'.length≤60;rw [hl',hc.c.len] at *;omega,h.sz⟩,by show rs'.length≤30;rw [hl',hc.c.len];exact hl,fun e p hp=>?_⟩
  · obtain ⟨ties,g1,g2⟩:=h.part i m hi
    refine ⟨ties,g1,fun a b=>?_⟩
    rw [← g2 a b]
    constructor
    · rintro ⟨r,hr,r1,r2,r3⟩
      obtain ⟨r0,h0,e1,e2,e3⟩:=fw r ((hm r).mp hr)
      exact ⟨r0,h0,by omega,by omega,by omega⟩
    · rintro ⟨r0,h0,r1,r2,r3⟩
      obtain ⟨r,hr,e1,e2,e3⟩:=bw r0 h0
      exact ⟨r,(hm r).mpr hr,by omega,by omega,by omega⟩
  · have hr:=(hm r).mp hr
    obtain ⟨r0,h0,e1,_⟩:=fw r hr
    have a:=h.row r0 h0
    have b:=hc.c.ok r hr
    show 0≤r.1∧r.1 < (places.length:Int)∧(r.2.2.2= -1∨(r.1 < r.2.2.2∧r.2.2.2 < (places.length:Int)))
    omega
  · have i1:i < places.length:=i1
    obtain ⟨r,hr,e⟩:=hc.cl i i0 (by omega)
    exact ⟨r,(hm r).mpr hr,e⟩
  · have hp:p < places.length:=hp
    obtain ⟨rk,hrk⟩:=h.up e p (by omega)
    refine ⟨rk,fun r hr r1=>?_⟩
    obtain ⟨r0,h0,e1,e2,e3⟩:=fw r ((hm r).mp hr)
    have:=hrk r0 h0 (by omega)
    rw [e2,e3];exact this
section
variable {P:Program}{w:World}{K:PySem.W.Frag}{mg:Str→Option Value}{base:Heap}{f:Addr}{fd:FuncData}
noncomputable abbrev oq:Stmt:=top nL
noncomputable abbrev wc:List Str:=["_law_purse_here","_law_loose","_law_parts","_law_left","_law_places","_law_rows","_law_part_here","_law_many","_law_size","_law_told"]
theorem yc:aE wc ["_law_purse_here","_law_loose"] (ah oq):=⟨rfl,rfl,rfl,by decide +kernel,rfl,by decide +kernel,by decide +kernel⟩
noncomputable def Ac:jH Pu:=fun K s ps T=>∃(n:Int) (loose:Bool),cH n s∧n≤1000∧ps=[⟨aK,loose⟩]∧T=fun s'=>bP K cg fun v=>cH (n + 2000) s'∧xW loose v
theorem zO (M:bX mg)(CD:aA P w K mg base "_law_draw" 1 (e7 bg mK K))(CO:aA P w K mg base "_law_order" 2 (e7 bg uh K))(CP:aA P w K mg base "_law_part" 3 (e7 bg Ao K))(CC:aA P w K mg base "_law_called" 2 (oO SCL K))(F:bL K "_law_web" "_law_web" oq f fd)(hm:mg "_law_web"=some (.ref f))(hb:Binds K fd ["_law_purse_here","_law_loose"] []):aA P w K mg base "_law_web" 4 (e7 bg Ac K):=by
  have nd:=yc.nd
  have nd1:List.Nodup [("_law_one":Str),"_law_other","_law_part_here"]:=by decide
  have nd2:List.Nodup [("_law_k":Str),"_law_rows"]:=by decide
  have CD:=CD.mono (show 1≤3 by decide)
  have CO:=CO.mono (show 2≤3 by decide)
  have CC:=CC.mono (show 2≤3 by decide)
  refine kg F yc hm hb (fun xs qs T ⟨_,_,_,_,e,_⟩=>by rw [e];rfl) (fun cdv A outer s H E a b st qs T hr hS=>?_)
  obtain ⟨n,loose,hP,n1,rfl,rfl⟩:=hS
  have n0:0≤n:=Int.le_trans hP.t0 hP.t1
  change WS _ _ [.ob (bg.bx a b st),.im aK loose,.no,.no,.no,.no,.no,.no,.no,.no] _ _
  obtain ⟨d,st1,d0,d1,hP1,hS1⟩:=cz hP (by omega) (b:=4) (by decide) (by decide)
  refine ai (aZ 2 (cM au (bE 0 CD hr (ae au ao) rfl rfl (hS1 _))) ?_)
  obtain ⟨parts,hparts⟩:∃parts:Nat,1 + d=(parts:Int):=⟨(1 + d).toNat,by omega⟩
  rw [hparts]
  refine ai (aZ 3 (c7 au (aa 2 rfl)) ?_)
  refine ai (dq 4 (r:=ab) (bh bF (by decide)) (ai (dq 5 (r:=ab) (bh bF (by decide)) ?_)))
  refine WS.uS 5 rfl fun c=>?_
  refine ai (cZ (r:=ab) (fun i Γ=>∃st left places c cs rs v6 v7 v8 v9,Γ=[.ob (bg.bx a b st),.im aK loose,.im ab (parts:Int),.im ab left,.mu ab places,.ob (bG c cs rs),v6,v7,v8,v9]∧cH (n + 1 + 202 * i) st∧e6 loose i places rs∧0≤left∧(rs.length:Int) + left=29 - parts + i)
    (cR M.range (aa 2 rfl) ⟨by omega,by omega⟩) (aB 6) ⟨st1,_,[],c,[],[],_,_,_,_,rfl,hP1.mono (by omega),e6.nil loose,by omega,by simp⟩ ?_ ?_)
  · rintro i x Γ hx ⟨st,left,places,c,cs,rs,v6,v7,v8,v9,rfl,hP,hW,l0,hl⟩
    obtain ⟨hi,rfl⟩:=fL hx
    have e0:(0:Int) + (i:Int)=(i:Int):=by omega
    rw [e0]
    change WS _ _ [.ob (bg.bx a b st),.im aK loose,.im ab (parts:Int),.im ab left,.mu ab places,.ob (bG c cs rs),.im ab (i:Int),v7,v8,v9] _ _
    obtain ⟨c3,st2,c0,c1,hP2,hS2⟩:=cz hP (by omega) (b:=3) (by decide) (by decide)
    obtain ⟨q,hq,q0,q1⟩:∃q:Int,cI [(4:Int),8,30] c3=some q∧4≤q∧q≤30:=by
      rcases (show c3=0∨c3=1∨c3=2 by omega) with rfl | rfl | rfl
      · exact ⟨4,rfl,by decide,by decide⟩
      · exact ⟨8,rfl,by decide,by decide⟩
      · exact ⟨30,rfl,by decide,by decide⟩
    obtain ⟨y,st3,y0,y1,hP3,hS3⟩:=cz hP2 (by omega) (b:=q) (by omega) (by omega)
    refine ai (aZ 7 (vz M.min (ae (aa 3 rfl) (ae (bE 0 CD hr (ae (aQ (bb.im (bh (aO au (aO au (aO au bF))) (by show 3≤sizeLine;decide))) (bE 0 CD hr (ae au ao) rfl rfl (hS2 _)) hq) ao) rfl rfl (hS3 _)) ao))) ?_)
    obtain ⟨m,hm'⟩:∃m:Nat,(if y < left then y else left)=(m:Int):=⟨(if y < left then y else left).toNat,by split<;>omega⟩
    rw [hm']
    have ml:(m:Int)≤left:=by rw [← hm'];split<;>omega
    refine ai (aZ 3 (c7 (aa 3 rfl) (aa 7 rfl)) ?_)
    refine ai (mh 0 CP hr (ae (aa 7 rfl) (ae (aa 1 rfl) ao)) rfl rfl ⟨n + 1 + 202 * i + 1 + 1,m,loose,hP3,by omega,rfl,by omega,rfl⟩ (gH 8 9) ?_)
    rintro st4 ⟨size,told⟩ ⟨hP4,hPO⟩
    have tl:told.length=m + 1:=hPO.len
    have wl:=hW.len
    have ple:parts≤4:=by omega
    refine ai (eK 4 (aa 8 rfl) rfl rfl (Nat.lt_of_le_of_lt (show places.length≤100 by omega) (by decide)) ?_)
    refine ar (qU 5 (own:=["_law_one","_law_other"]) (fr:=["_law_part_here"]) (ix:=[6]) (ra:=d7 ab) (f:=fun (t:Int×Int)=>((i:Int),t.1,t.2,(-1:Int))) (aJ (so:=ah oq) (N0:=wc) rfl rfl (fun x h=>aC h) (by decide +kernel)) (aN (aa 9 rfl))
      (fun C s H ex=>kK 0 1) (fun x=>⟨.inr rfl,.inr rfl,.inl rfl,trivial⟩) (fun x=>⟨trivial,trivial,trivial,trivial⟩) (fun C s H ex x hx=>bh (aO (aa 2 rfl) (aO (aa 0 rfl) (aO (aa 1 rfl) (aO (mi au) bF)))) (by show 4≤sizeLine;decide)) rfl (bo (by show rs.length + told.length≤_;omega)) fun dd bs=>?_)
    exact ⟨st4,_,_,_,_,_,_,_,_,_,rfl,hP4.mono (by omega),hW.more hPO,by omega,by rw [List.length_append,List.length_map];show ((rs.length + told.length:Nat):Int) + _=_;omega⟩
  · rintro Γ ⟨st,left,places,c,cs,rs,v6,v7,v8,v9,rfl,hP,hW,l0,hl⟩
    rw [az,show ((parts:Int)).toNat=parts by omega] at hP hW hl
    have wl:=hW.len
    refine ai (sy 0 5 CC hr (by decide) (ae (aa 2 rfl) ao) rfl rfl ⟨n + 1 + 202 * parts,(parts:Int),hP,by omega,rfl,by omega,by omega,by omega,fun r hr=>hW.row r hr,fun q hq=>hW.has q (by omega),rfl⟩ ?_)
    rintro st1 rs1 ⟨hP1,hC⟩
    have rl:=hC.c.len
    change WS _ _ [.ob (bg.bx a b st1),.im aK loose,.im ab (parts:Int),.im ab left,.mu ab places,.ob (bG c cs rs1),v6,v7,v8,v9] _ _
    refine WS.outer 5 rfl ?_
    refine WS.u9 5 rfl (bo (by omega)) ?_
    change WS _ _ [.ob (bg.bx a b st1),.im aK loose,.im ab (parts:Int),.im ab left,.mu ab places,.im (af fW) rs1,v6,v7,v8,v9] _ _
    obtain ⟨xs,st2,hP2,hX,hS⟩:=oy hP1 (by omega) (by omega) (m:=rs1.length) (by omega)
    have xl:=hX.len
    have hid:((xs.filter fun _=>true).map fun k=>rs1.getD k.toNat bI)=xs.map fun k=>rs1.getD k.toNat bI:=by rw [List.filter_eq_self.mpr (by simp)]
    refine ar (iA 0 (B:=bg) (y:=(places,xs.map fun k=>rs1.getD k.toNat bI)) (da (r:=af ab) (r':=af aI) (ae (ia 4 rfl (bo (by omega))) (ae (EV.cast (bb.im (aU (own:=["_law_k"]) (fr:=["_law_rows"]) (ix:=[5]) (ra:=ab) (rb:=aI) (p:=fun _=>true) (f:=fun k=>rs1.getD k.toNat bI) (aJ (so:=ah oq) (N0:=wc) rfl rfl (fun x h=>aC h) (by decide +kernel)) (aN (bE 0 CO hr (ae (cN M.len (aa 5 rfl)) ao) rfl rfl (hS _)))
      (fun C s H ex=>aB 0) (fun x=>⟨.inr rfl,.inl rfl,trivial⟩) (fun C s H ex x hx=>br) (fun C s H ex x hx _=>qH M.tuple (aQ (aa 1 rfl) (aa 0 rfl) (bV bI ((hX.mem x).mp hx).1 ((hX.mem x).mp hx).2))))) hid) ao))) rfl ⟨hP2.mono (by omega),vg hW (by omega) (by omega) hC (by omega) (fun r=>?_) (by rw [List.length_map];exact xl)⟩)
    rw [List.mem_map]
    constructor
    · rintro ⟨k,hk,rfl⟩
      have kb:=(hX.mem k).mp hk
      rw [List.getD_eq_getElem?_getD,List.getElem?_eq_getElem (by omega)]
      exact List.getElem_mem _
    · intro hr'
      obtain ⟨j,hj⟩:=List.mem_iff_getElem?.mp hr'
      have jl:=(List.getElem?_eq_some_iff.mp hj).1
      exact ⟨(j:Int),(hX.mem _).mpr (by omega),by rw [show ((j:Int)).toNat=j by omega,List.getD_eq_getElem?_getD,hj];rfl⟩
end
end K1
namespace Fc
open PySem PySem.Spec L2
open PyProof.Rows hiding St
section
variable {X:Cx}{Γ Γ1 Γ2 Γ3:Ga}{α β γ δ:Type}{N:Ga→Prop}{T:RT}
end
end Fc
namespace K1
open PySem L2 Fc
open PySem.Spec hiding Row
open PyProof.Rows hiding St
open PySem.Builtin.Int (intBits)
noncomputable def rowOf (v:av)(k:Int):Row:=v.2.getD k.toNat bI
section
variable {P:Program}{w:World}{K:PySem.W.Frag}{mg:Str→Option Value}{base:Heap}{f:Addr}{fd:FuncData}
end
section
variable {P:Program}{w:World}{K:PySem.W.Frag}{mg:Str→Option Value}{base:Heap}{f:Addr}{fd:FuncData}
noncomputable abbrev nY:Stmt:=top mJ
noncomputable abbrev tW:List Str:=["_law_web_here","_law_part_here","_law_place"]
theorem xi:aE tW tW (ah nY):=⟨rfl,rfl,rfl,by decide +kernel,rfl,by decide +kernel,by decide +kernel⟩
noncomputable def fromF (v:av)(p q:Int):List Int:=(ups 0 v.2.length).filter fun k=>decide (((rowOf v k).1,(rowOf v k).2.1)=(p,q))
noncomputable def yF:bS:=fun K ps T=>∃(v:av) (p q:Int),ps=[⟨cg,v⟩,⟨ab,p⟩,⟨ab,q⟩]∧v.2.length≤60∧T=bP K (af ab) (· =fromF v p q)
theorem zW (M:bX mg)(F:bL K "_law_from" "_law_from" nY f fd)(hm:mg "_law_from"=some (.ref f))(hb:Binds K fd tW []):aA P w K mg base "_law_from" 1 (aG yF K):=by
  have nd:=xi.nd
  have nd1:List.Nodup [("_law_k":Str),"_law_part_here","_law_place","_law_web_here"]:=by decide
  refine bJ F xi hm hb (fun qs T ⟨_,_,_,e,_⟩=>by rw [e];rfl) (fun cdv A outer s H E qs T hr hS=>?_)
  obtain ⟨v,p,q,rfl,rl,rfl⟩:=hS
  have hu:(A.deeper (envOfC "_law_from" (ah nY) s.heap.objs.size f cdv)).units + 1 < cLine:=Nat.lt_of_le_of_lt (Nat.add_le_add_left (by decide:1≤64) _) hr.units
  change WS _ _ [.im (aF (af ab) (af aI)) v,.im ab p,.im ab q] _ _
  have el:((v.2.length:Int)).toNat=v.2.length:=by omega
  have hid:(((ups 0 ((v.2.length:Int)).toNat).filter fun k=>decide (((rowOf v k).1,(rowOf v k).2.1)=(p,q))).map fun k=>k)=fromF v p q:=by rw [el];simp [fromF]
  exact ar (bH (EV.cast (bb.im (aU (own:=["_law_k"]) (fr:=["_law_part_here","_law_place","_law_web_here"]) (ix:=[1,2,0]) (ra:=ab) (rb:=ab) (p:=fun k=>decide (((rowOf v k).1,(rowOf v k).2.1)=(p,q))) (f:=fun k=>k) (aJ (so:=ah nY) (N0:=tW) rfl rfl (fun x h=>aC h) (by decide +kernel)) (cR M.range (cN M.len (bc (aa 0 rfl))) ⟨by omega,by omega⟩)
    (fun C s H ex=>aB 0) (fun x=>⟨.inr rfl,.inl rfl,.inl rfl,.inl rfl,trivial⟩)
    (fun C s H ex x hx=>d5 (bD (y:=(p,q)) (uk eq_int eq_int hu hu) (sN (aQ (bc (aa 3 rfl)) (aa 0 rfl) (bV bI (by have:=aL.mp hx;omega) (by have:=aL.mp hx;omega)))) (da (ae (aa 1 rfl) (ae (aa 2 rfl) ao)))))
    (fun C s H ex x hx _=>aa 0 rfl))) hid) rfl)
end
end K1
namespace Fc
open PySem PySem.Spec L2
open PyProof.Rows hiding St
section
variable {X:Cx}{Γ Γ1 Γ2 Γ3:Ga}{α β γ δ:Type}{N:Ga→Prop}{T:RT}
end
end Fc
namespace K1
open PySem L2 Fc
open PySem.Spec hiding Row
open PyProof.Rows hiding St
open PySem.Builtin.Int (intBits)
section
variable {P:Program}{w:World}{K:PySem.W.Frag}{mg:Str→Option Value}{base:Heap}{f:Addr}{fd:FuncData}
end
end K1
namespace Fc
open PySem PySem.Spec L2
open PyProof.Rows hiding St
section
variable {X:Cx}{Γ Γ1 Γ2 Γ3:Ga}{α β γ δ:Type}{N:Ga→Prop}{T:RT}
theorem kO {a b:Expr}{pos:Pos}{F:List (Int×Int)}{k:Int}(hu:X.A.units + 1 < cLine)(ha:EV X a Γ ab k Γ1)(hb:EV X b Γ1 ip F Γ2)(hm:behindInMarks .In b=false:=by first | exact jw _ | with_unfolding_all rfl):EV X (.Compare a [.In] [b] pos) Γ aK (bq F k).isSome Γ2:=by
  intro σ H0 R0 H R E Q q
  refine eS (rm (mH hu aH aH) hm) (ha σ H0 R0 H R E _ fun v H1 R1 E1 s1 e1=>hb σ H0 R0 H1 R1 E1 _ fun u H2 R2 E2 s2 e2=>?_)
  cases e1
  obtain ⟨p,rfl,hp⟩:=e2
  refine ⟨p,_,rfl,dQ.k (k:=Sum.inl k) (E2.sub _ _ hp),?_⟩
  rw [gz,eB]
  exact q _ H2 R2 E2 (s1.trans s2) rfl
theorem jk {a:Expr}{p pos:Pos}{F:List (Int×Int)}(hm:X.mg "len"=none)(ha:EV X a Γ ip F Γ1)(hs:autoParam (starEach [a] X.env=[(false,eval a X.env)]) Fc.ag)(hg:autoParam (Gl X "len") Fc.ag):EV X (.Call (.Name "len" p) [a] [] pos) Γ ab (F.length:Int) Γ1:=
  EV.cast (kL (kvs:=cC F) hm (EV.rep ha fun _ _ q=>q) hs hg) (by unfold cC;rw [List.length_map])
theorem eP {i:Nat}{F:List (Int×Int)}(hΓ:Γ[i]?=some (.di (cC F)))(σ:St)(H0 R0 H R:Hp)(E:aj X.K σ H0 R0 H R Γ):aj X.K σ H H H H ((Γ.map j9).set i (.im ip F)):=by
  obtain ⟨a,ea,ha,hR⟩:=E.ent i _ hΓ
  exact E.frz.iJ (i:=i) (e0:=.no) (by rw [List.getElem?_map,hΓ];rfl) ⟨.ref a,ea,a,rfl,ha⟩ fun b w=>by cases w
end
end Fc
namespace K1
open PySem L2 Fc
open PySem.Spec hiding Row
open PyProof.Rows hiding St
open PySem.Builtin.Int (intBits)
theorem tf {a b:Option Int}(h:a.map V.int=b.map V.int):a=b:=by
  cases a<;>cases b<;>simp at h<;>simp [h]
theorem tJ (F:List (Int×Int))(k v j:Int):bq (e9 F k v) j=if j=k then some v else bq F j:=by
  have h:=tj (cB (cC F)) (Sum.inl k:Key) (Sum.inl j) (.int v)
  rw [p8,fM,fM] at h
  apply tf
  rw [h]
  by_cases e:j=k
  · rw [if_pos (by rw [e]),if_pos e];rfl
  · rw [if_neg (fun z=>e (Sum.inl.inj z)),if_neg e]
theorem dE {F:List (Int×Int)}{k:Int}:(bq F k).isSome=true↔k∈F.map (·.1):=by
  unfold bq
  rw [Option.isSome_map,List.find?_isSome]
  simp only [decide_eq_true_eq,List.mem_map]
theorem jC (rk:Int→Int):∀(l:List Int),l≠[]→∃x∈l,∀y∈l,rk y≤rk x
  | [],h=>absurd rfl h
  | [a],_=>⟨a,by simp,fun y hy=>by rw [List.mem_singleton.mp hy];exact Int.le_refl _⟩
  | a::b::l,_=>by
    obtain ⟨x,hx,h⟩:=jC rk (b::l) (by simp)
    by_cases z:rk a≤rk x
    · exact ⟨x,List.mem_cons_of_mem _ hx,fun y hy=>by
        rcases List.mem_cons.mp hy with rfl | hy
        · exact z
        · exact h y hy⟩
    · exact ⟨a,List.mem_cons_self,fun y hy=>by
        rcases List.mem_cons.mp hy with rfl | hy
        · exact Int.le_refl _
        · have:=h y hy;omega⟩
noncomputable def bA (v:av)(k:Int):Int:=(rowOf v k).2.2.1
noncomputable def goal (v:av)(p q:Int):List Int:=(fromF v p q).map (bA v)
structure cu (v:av) (p:Int) (g:Int→Int):Prop where
  one:g 1=1
  step:∀q,0≤q→q < v.1.getD p.toNat 0→q≠1→g q=((goal v p q).map g).sum
theorem bC {v:av}{p q k:Int}(h:k∈fromF v p q):0≤k∧k < (v.2.length:Int)∧(rowOf v k).1=p∧(rowOf v k).2.1=q∧rowOf v k∈v.2:=by
  unfold fromF at h
  obtain ⟨h1,h2⟩:=List.mem_filter.mp h
  have kb:=aL.mp h1
  have h2:=of_decide_eq_true h2
  refine ⟨kb.1,kb.2,congrArg Prod.fst h2,congrArg Prod.snd h2,?_⟩
  unfold rowOf
  rw [List.getD_eq_getElem?_getD,List.getElem?_eq_getElem (by omega)]
  exact List.getElem_mem _
theorem eF {v:av}(hv:aV v){p q z:Int}(h:z∈goal v p q):0≤z∧z < v.1.getD p.toNat 0∧q≠1∧∃r∈v.2,r.1=p∧r.2.1=q∧r.2.2.1=z:=by
  obtain ⟨k,hk,rfl⟩:=List.mem_map.mp h
  obtain ⟨_,_,h1,h2,h3⟩:=bC hk
  have r:=hv.cV h3
  have a:=r.e0;have b:=r.en;have c:=r.s1
  rw [h1] at b
  rw [h2] at c
  exact ⟨a,b,c,_,h3,h1,h2,rfl⟩
theorem cu.uniq {v:av}(hv:aV v){p:Int}(p0:0≤p)(hr:bj v.2 p.toNat){g g':Int→Int}(h:cu v p g)(h':cu v p g'):∀q,0≤q→q < v.1.getD p.toNat 0→g q=g' q:=by
  obtain ⟨rk,hrk⟩:=hr
  intro q q0 q1
  refine Classical.byContradiction fun ne=>?_
  have hne:((ups 0 (v.1.getD p.toNat 0).toNat).filter fun z=>decide (g z≠g' z))≠[]:=fun e=>by
    have:q∈(ups 0 (v.1.getD p.toNat 0).toNat).filter fun z=>decide (g z≠g' z):=List.mem_filter.mpr ⟨aL.mpr ⟨q0,by omega⟩,decide_eq_true ne⟩
    rw [e] at this;cases this
  obtain ⟨x,hx,hmax⟩:=jC rk _ hne
  obtain ⟨x1,x2⟩:=List.mem_filter.mp hx
  have xb:=aL.mp x1
  have x2:g x≠g' x:=of_decide_eq_true x2
  have xn:x≠1:=fun e=>x2 (by rw [e,h.one,h'.one])
  refine x2 ?_
  rw [h.step x xb.1 (by omega) xn,h'.step x xb.1 (by omega) xn]
  congr 1
  refine List.map_congr_left fun z hz=>Classical.byContradiction fun nz=>?_
  obtain ⟨a,b,_,r,r0,r1,r2,r3⟩:=eF hv hz
  have:=hmax z (List.mem_filter.mpr ⟨aL.mpr ⟨a,by omega⟩,decide_eq_true nz⟩)
  have:=hrk r r0 (by omega)
  rw [r2,r3] at this
  omega
noncomputable def gF (F:List (Int×Int))(q:Int):Int:=(bq F q).getD 0
structure df (v:av) (p:Int) (F:List (Int×Int)):Prop where
  one:bq F 1=some 1
  nd:(F.map (·.1)).Nodup
  bd:∀q∈F.map (·.1),0≤q∧q < v.1.getD p.toNat 0
  ok:∀q,q∈F.map (·.1)→q≠1→(∀z∈goal v p q,z∈F.map (·.1))∧gF F q=((goal v p q).map (gF F)).sum
theorem eJ {F:List (Int×Int)}{k y:Int}(hk:k∉F.map (·.1))(z:Int):bq (F++[(k,y)]) z=if z=k then some y else bq F z:=by
  have hn:(bq F k).isSome=false:=by
    cases e:(bq F k).isSome with
    | false=>rfl
    | true=>exact absurd (dE.mp e) hk
  have:=tJ F k y z
  unfold e9 at this
  rw [hn] at this
  simpa using this
theorem df.add {v:av}{p:Int}{F:List (Int×Int)}(h:df v p F){q:Int}(hq:q∉F.map (·.1))(q0:0≤q)(q1:q < v.1.getD p.toNat 0)(hg:∀z∈goal v p q,z∈F.map (·.1)):df v p (F++[(q,((goal v p q).map (gF F)).sum)]):=by
  have keep:∀z,z∈F.map (·.1)→gF (F++[(q,((goal v p q).map (gF F)).sum)]) z=gF F z:=fun z hz=>by
    unfold gF
    rw [eJ hq,if_neg (show¬z=q from fun e=>hq (e▸hz))]
  have one:(1:Int)∈F.map (·.1):=dE.mp (by rw [h.one];rfl)
  have mp:(F++[(q,((goal v p q).map (gF F)).sum)]).map (·.1)=F.map (·.1)++[q]:=by rw [List.map_append];rfl
  refine ⟨?_,?_,fun z hz=>?_,fun z hz zn=>?_⟩
  · rw [eJ hq,if_neg (show¬(1:Int)=q from fun e=>hq (e▸one))];exact h.one
  · rw [mp];exact fB h.nd hq
  · rw [mp] at hz
    rcases List.mem_append.mp hz with w | w
    · exact h.bd z w
    · rw [List.mem_singleton.mp w];exact ⟨q0,q1⟩
  · rw [mp] at hz ⊢
    rcases List.mem_append.mp hz with w | w
    · obtain ⟨a,b⟩:=h.ok z w zn
      refine ⟨fun y hy=>List.mem_append_left _ (a y hy),?_⟩
      rw [keep z w,b]
      congr 1
      exact List.map_congr_left fun y hy=>(keep y (a y hy)).symm
    · rw [List.mem_singleton.mp w]
      refine ⟨fun y hy=>List.mem_append_left _ (hg y hy),?_⟩
      have e:gF (F++[(q,((goal v p q).map (gF F)).sum)]) q=((goal v p q).map (gF F)).sum:=by unfold gF;rw [eJ hq,if_pos rfl];rfl
      rw [e]
      congr 1
      exact List.map_congr_left fun y hy=>(keep y (hg y hy)).symm
theorem df.le {v:av}{p:Int}{F:List (Int×Int)}(h:df v p F)(hs:0≤v.1.getD p.toNat 0):(F.length:Int)≤v.1.getD p.toNat 0:=by
  have:=cE (F.map (·.1)) (ups 0 (v.1.getD p.toNat 0).toNat) h.nd fun x hx=>aL.mpr (by have:=h.bd x hx;omega)
  rw [List.length_map,az] at this
  omega
theorem df.all {v:av}{p:Int}{F:List (Int×Int)}(h:df v p F)(hs:v.1.getD p.toNat 0≤(F.length:Int)):∀q,0≤q→q < v.1.getD p.toNat 0→q∈F.map (·.1):=by
  intro q q0 q1
  refine Classical.byContradiction fun no=>?_
  have:=cE (q::F.map (·.1)) (ups 0 (v.1.getD p.toNat 0).toNat) (List.nodup_cons.mpr ⟨no,h.nd⟩) fun x hx=>by
    rcases List.mem_cons.mp hx with rfl | hx
    · exact aL.mpr (by omega)
    · exact aL.mpr (by have:=h.bd x hx;omega)
  rw [List.length_cons,List.length_map,az] at this
  omega
theorem df.eq {v:av}{p:Int}{F:List (Int×Int)}(h:df v p F)(hs:v.1.getD p.toNat 0≤(F.length:Int)):cu v p (gF F):=by
  refine ⟨by unfold gF;rw [h.one];rfl,fun q q0 q1 qn=>(h.ok q (h.all hs q q0 q1) qn).2⟩
theorem df.next {v:av}(hv:aV v){p:Int}(p0:0≤p)(hr:bj v.2 p.toNat){F:List (Int×Int)}(h:df v p F)(hs:(F.length:Int) < v.1.getD p.toNat 0):∃q,0≤q∧q < v.1.getD p.toNat 0∧q∉F.map (·.1)∧∀z∈goal v p q,z∈F.map (·.1):=by
  obtain ⟨rk,hrk⟩:=hr
  have hne:((ups 0 (v.1.getD p.toNat 0).toNat).filter fun z=>decide (z∉F.map (·.1)))≠[]:=fun e=>by
    have all:∀z∈ups 0 (v.1.getD p.toNat 0).toNat,z∈F.map (·.1):=fun z hz=>Classical.byContradiction fun no=>by
      have:z∈(ups 0 (v.1.getD p.toNat 0).toNat).filter fun z=>decide (z∉F.map (·.1)):=List.mem_filter.mpr ⟨hz,decide_eq_true no⟩
      rw [e] at this;cases this
    have:=cE _ _ (eR _) all
    rw [az,List.length_map] at this
    omega
  obtain ⟨x,hx,hmax⟩:=jC rk _ hne
  obtain ⟨x1,x2⟩:=List.mem_filter.mp hx
  have xb:=aL.mp x1
  refine ⟨x,xb.1,by omega,of_decide_eq_true x2,fun z hz=>Classical.byContradiction fun no=>?_⟩
  obtain ⟨a,b,_,r,r0,r1,r2,r3⟩:=eF hv hz
  have:=hmax z (List.mem_filter.mpr ⟨aL.mpr ⟨a,by omega⟩,decide_eq_true no⟩)
  have:=hrk r r0 (by omega)
  rw [r2,r3] at this
  omega
section
variable {P:Program}{w:World}{K:PySem.W.Frag}{mg:Str→Option Value}{base:Heap}{f:Addr}{fd:FuncData}
noncomputable abbrev kW:Stmt:=top pz
noncomputable abbrev t9:List Str:=["_law_web_here","_law_part_here","_law_on_here","_law_place","_law_goals"]
theorem yD:aE t9 ["_law_web_here","_law_part_here"] (ah kW):=⟨rfl,rfl,rfl,by decide +kernel,rfl,by decide +kernel,by decide +kernel⟩
noncomputable def nU:bS:=fun K ps T=>∃(v:av) (p:Int),ps=[⟨cg,v⟩,⟨ab,p⟩]∧aV v∧0≤p∧p < (v.1.length:Int)∧bj v.2 p.toNat∧T=bP K ip (fun F=>df v p F∧v.1.getD p.toNat 0≤(F.length:Int))
theorem yW    (M:bX mg)(CF:aA P w K mg base "_law_from" 1 (aG yF K))(F:bL K "_law_on" "_law_on" kW f fd)(hm:mg "_law_on"=some (.ref f))(hb:Binds K fd ["_law_web_here","_law_part_here"] []):aA P w K mg base "_law_on" 2 (aG nU K):=by
  have nd:=yD.nd
  have nd1:List.Nodup [("_law_k":Str),"_law_web_here"]:=by decide
  have nd2:List.Nodup [("_law_goal":Str),"_law_on_here"]:=by decide
  refine bJ F yD hm hb (fun qs T ⟨_,_,e,_⟩=>by rw [e];rfl) (fun cdv A outer s H E qs T hr hS=>?_)
  obtain ⟨v,p,rfl,hv,p0,p1,hR,rfl⟩:=hS
  have hu:(A.deeper (envOfC "_law_on" (ah kW) s.heap.objs.size f cdv)).units + 1 < cLine:=Nat.lt_of_le_of_lt (Nat.add_le_add_left (by decide:1≤64) _) hr.units
  have pl:=hv.pl
  have rl:=hv.rl
  have hs:=hv.sz (v.1.getD p.toNat 0) (by rw [List.getD_eq_getElem?_getD,List.getElem?_eq_getElem (by omega)];exact List.getElem_mem _)
  change WS _ _ [.im (aF (af ab) (af aI)) v,.im ab p,.no,.no,.no] _ _
  refine ai (iI 2 lg dm ?_)
  have o0:df v p [(1,1)]:=⟨rfl,by simp,fun q hq=>by (have:q=1:=by simpa using hq);omega,fun q hq qn=>absurd (show q=1 by simpa using hq) qn⟩
  refine ai (gr (fun m Γ=>∃F v3 v4,Γ=[.im (aF (af ab) (af aI)) v,.im ab p,.di (cC F),v3,v4]∧df v p F∧m=(v.1.getD p.toNat 0 - (F.length:Int)).toNat) ⟨[(1,1)],_,_,rfl,o0,rfl⟩ ?_)
  rintro m Γ ⟨F,v3,v4,rfl,hO,rfl⟩
  have hle:=hO.le (by omega)
  refine ⟨_,_,TV.frz (eP (i:=2) rfl) (bD dM (jk M.len (aa 2 rfl)) (aQ (cY (aa 0 rfl)) (aa 1 rfl) (cj p0 p1))),fun h=>?_,fun h=>?_⟩
  · have h : (F.length:Int) < v.1.getD p.toNat 0:=of_decide_eq_true h
    obtain ⟨qs,s0,s1,sn,sg⟩:=hO.next hv p0 hR h
    refine ar (cZ (r:=ab) (fun i Γ=>∃G v3 v4,Γ=[.im (aF (af ab) (af aI)) v,.im ab p,.di (cC G),v3,v4]∧df v p G∧(∀z∈F.map (·.1),z∈G.map (·.1))∧F.length≤G.length∧(qs < (i:Int)→F.length < G.length))
      (cR M.range (aQ (cY (aa 0 rfl)) (aa 1 rfl) (cj p0 p1)) ⟨by omega,by omega⟩) (aB 3) ⟨F,_,_,rfl,hO,fun z hz=>hz,Nat.le_refl _,fun e=>by omega⟩ ?_ ?_)
    · rintro i q Γ hq ⟨G,v3,v4,rfl,hG,hsub,hfl,hq1⟩
      have qb:=aL.mp (List.mem_of_getElem? hq)
      obtain ⟨hi,eq⟩:=fL hq
      have hid:((((fromF v p q).filter fun _=>true).map fun k=>(rowOf v k).2.2.1))=goal v p q:=by rw [List.filter_eq_self.mpr (by simp)];rfl
      have hk:∀k∈fromF v p q,cI v.2 k=some (rowOf v k):=fun k hk=>bV bI (bC hk).1 (bC hk).2.1
      refine ai (gp 4 (own:=["_law_k"]) (fr:=["_law_web_here"]) (ix:=[0]) (ra:=ab) (rb:=ab) (p:=fun _=>true) (f:=fun k=>(rowOf v k).2.2.1) (aJ (so:=ah kW) (N0:=t9) rfl rfl (fun x h=>aC h) (by decide +kernel)) (aN (aP CF hr (ae (aa 0 rfl) (ae (aa 1 rfl) (ae (aa 3 rfl) ao))) ⟨v,p,q,rfl,by omega,rfl⟩))
        (fun C s H ex=>aB 0) (fun x=>⟨.inr rfl,.inl rfl,trivial⟩) (fun C s H ex x hx=>br) (fun C s H ex x hx _=>cS (aQ (bc (aa 1 rfl)) (aa 0 rfl) (hk x hx))) ?_)
      rw [hid]
      have gl:(goal v p q).length≤60:=by
        unfold goal fromF
        rw [List.length_map]
        refine Nat.le_trans (List.length_filter_le _ _) ?_
        rw [az];omega
      refine WS.freeze 4 rfl (bo (by omega)) ?_
      change WS _ _ [.im (aF (af ab) (af aI)) v,.im ab p,.di (cC G),.im ab q,.im (af ab) (goal v p q)] _ _
      have mem:∀z,(bq G z).isSome=true↔z∈G.map (·.1):=fun z=>dE
      have hglen:=hG.le (by omega)
      refine ar (bY (TW.tv (iF (iG 2 true hu (aa 3 rfl) rfl) (fun _=>iO (TV.frz (eP (i:=2) rfl) (bR (dC M.all (bb.im (aU (own:=["_law_goal"]) (fr:=["_law_on_here"]) (ix:=[2]) (ra:=ab) (rb:=aK) (p:=fun _=>true) (f:=fun z=>(bq G z).isSome) (aJ (so:=ah kW) (N0:=t9) rfl rfl (fun x h=>aC h) (by decide +kernel)) (aN (aa 4 rfl))
        (fun C s H ex=>aB 0) (fun x=>⟨.inr rfl,.inl rfl,trivial⟩) (fun C s H ex x hx=>br) (fun C s H ex x hx _=>kO hu (aa 0 rfl) (aa 1 rfl)))))))))) (fun h=>?_) (fun h=>bB ?_))
      · obtain ⟨h1,h2⟩:=Bool.and_eq_true_iff.mp h
        have h1:q∉G.map (·.1):=fun w=>by
          have:=(mem q).mpr w
          rw [← eB] at this
          simp [this] at h1
        have h2:∀z∈goal v p q,z∈G.map (·.1):=fun z hz=>by
          rw [List.all_eq_true] at h2
          exact (mem z).mp (h2 _ (List.mem_map.mpr ⟨z,List.mem_filter.mpr ⟨hz,rfl⟩,rfl⟩))
        have hg2:∀z∈goal v p q,bq G z=some (gF G z):=fun z hz=>by
          have:=(mem z).mpr (h2 z hz)
          unfold gF
          cases e:bq G z with
          | none=>rw [e] at this;cases this
          | some y=>rfl
        have hid2:(((goal v p q).filter fun _=>true).map fun z=>gF G z).sum=((goal v p q).map (gF G)).sum:=by rw [List.filter_eq_self.mpr (by simp)]
        refine ar (lX 2 hu (aa 3 rfl) (EV.frz (eP (i:=2) rfl) (fun _ _ _ _ _ h=>h) (EV.cast (jR M.sum (bb.im (aU (own:=["_law_goal"]) (fr:=["_law_on_here"]) (ix:=[2]) (ra:=ab) (rb:=ab) (p:=fun _=>true) (f:=fun z=>gF G z) (aJ (so:=ah kW) (N0:=t9) rfl rfl (fun x h=>aC h) (by decide +kernel)) (aN (aa 4 rfl))
          (fun C s H ex=>aB 0) (fun x=>⟨.inr rfl,.inl rfl,trivial⟩) (fun C s H ex x hx=>br) (fun C s H ex x hx _=>ir hu (aa 1 rfl) (aa 0 rfl) (hg2 x hx))))) hid2)) rfl (Nat.lt_of_le_of_lt (show G.length≤1000 by omega) (by decide)) ?_)
        have ep:e9 G q ((goal v p q).map (gF G)).sum=G++[(q,((goal v p q).map (gF G)).sum)]:=by
          unfold e9
          rw [if_neg (fun e=>h1 ((mem q).mp e))]
        refine ⟨G++[(q,((goal v p q).map (gF G)).sum)],_,_,by rw [ep];rfl,hG.add h1 qb.1 (by omega) h2,fun z hz=>?_,by rw [List.length_append];omega,fun _=>by rw [List.length_append];simp;omega⟩
        rw [List.map_append];exact List.mem_append_left _ (hsub z hz)
      · refine ⟨G,_,_,rfl,hG,hsub,hfl,fun hlt=>?_⟩
        by_cases e:qs < (i:Int)
        · exact hq1 e
        · have eqq:q=qs:=by omega
          subst eqq
          -- it stands there already
          have hin:q∈G.map (·.1):=Classical.byContradiction fun no=>by
            have a1:(if true=true then !dN (cC G) q else dN (cC G) q)=true:=by
              rw [if_pos rfl,eB]
              cases e2:(bq G q).isSome with
              | false=>rfl
              | true=>exact absurd ((mem q).mp e2) no
            have a2:((((goal v p q).filter fun _=>true).map fun z=>(bq G z).isSome).all id)=true:=by
              rw [List.all_eq_true]
              intro y hy
              obtain ⟨z,hz,rfl⟩:=List.mem_map.mp hy
              exact (mem z).mpr (hsub z (sg z (List.mem_filter.mp hz).1))
            rw [a1,a2] at h
            exact absurd h (by decide)
          have:=cE (q::F.map (·.1)) (G.map (·.1)) (List.nodup_cons.mpr ⟨sn,hO.nd⟩) fun x hx=>by
            rcases List.mem_cons.mp hx with rfl | hx
            · exact hin
            · exact hsub x hx
          rw [List.length_cons,List.length_map,List.length_map] at this
          omega
    · rintro Γ ⟨G,v3,v4,rfl,hG,_,_,hq1⟩
      rw [az] at hq1
      have:=hq1 (by omega)
      have:=hG.le (by omega)
      exact ⟨_,by omega,G,_,_,rfl,hG,rfl⟩
  · have h:¬(F.length:Int) < v.1.getD p.toNat 0:=of_decide_eq_false h
    exact ar (nX 2 rfl ⟨hO,by omega⟩)
end
noncomputable def aT (v:av)(p:Int)(g:Int→Int)(k:Int):Int:=if (rowOf v k).1=p then (((fromF v p (rowOf v k).2.1).filter fun j=>decide (j < k)).map fun j=>g (bA v j)).sum else 0
noncomputable def bt (v:av)(p:Int)(g:Int→Int):List Int:=(ups 0 v.2.length).map (aT v p g)
theorem kU (v:av)(p q:Int):(fromF v p q).Pairwise (· < ·):=by
  unfold fromF
  exact (jd _).filter _
theorem before {v:av}{p q:Int}{i:Nat}{k:Int}(h:(fromF v p q)[i]?=some k):(fromF v p q).filter (fun j=>decide (j < k))=(fromF v p q).take i:=by
  have hp:=kU v p q
  generalize fromF v p q=l at h hp
  induction l generalizing i with
  | nil=>simp at h
  | cons a l ih=>
    obtain ⟨h1,h2⟩:=List.pairwise_cons.mp hp
    cases i with
    | zero=>
      have e:a=k:=by simpa using h
      subst e
      rw [List.take_zero,List.filter_eq_nil_iff]
      intro x hx
      rcases List.mem_cons.mp hx with rfl | hx
      · simp
      · have:=h1 x hx;simp;omega
    | succ i=>
      have h:l[i]?=some k:=by simpa using h
      have:=h1 k (List.mem_of_getElem? h)
      rw [List.filter_cons,decide_eq_true (show a < k by omega),if_pos rfl,List.take_succ_cons,ih h h2]
structure oX (v:av) (p:Int) (g:Int→Int) (n:Int) (q:Int) (i:Nat) (xs:List Int):Prop where
  len:xs.length=v.2.length
  val:∀k,0≤k→k < (v.2.length:Int)→xs.getD k.toNat 0=if (rowOf v k).1=p∧((rowOf v k).2.1 < n∨((rowOf v k).2.1=q∧k∈(fromF v p q).take i)) then aT v p g k else 0
section
variable {P:Program}{w:World}{K:PySem.W.Frag}{mg:Str→Option Value}{base:Heap}{f:Addr}{fd:FuncData}
noncomputable def om:bS:=fun K ps T=>∃(v:av) (p:Int),ps=[⟨cg,v⟩,⟨ab,p⟩]∧aV v∧0≤p∧p < (v.1.length:Int)∧bj v.2 p.toNat∧T=hU K ab (fun ws=>∃g,cu v p g∧ws=bt v p g)
theorem fj {v:av}(hv:aV v){p:Int}(p0:0≤p)(p1:p < (v.1.length:Int))(hR:bj v.2 p.toNat){g g':Int→Int}(h:cu v p g)(h':cu v p g'):bt v p g=bt v p g':=by
  unfold bt
  refine List.map_congr_left fun k hk=>?_
  unfold aT
  split
  · congr 1
    refine List.map_congr_left fun j hj=>?_
    have hj:=(List.mem_filter.mp hj).1
    obtain ⟨_,_,jp,_,jr⟩:=bC hj
    have q:=hv.cV jr
    have a:=q.e0;have b:=q.en
    rw [jp] at b
    exact h.uniq hv p0 hR h' _ a b
  · rfl
theorem kZ {X:Cx}{Γ Γ1:Ga}{N:Ga→Prop}{T:RT}(i:Nat){S:bS}{x y:Str}{k:Nat}{e:Expr}{es:List Expr}{p p1 p2 pos:Pos}{ps:List Pk}{r:Rep Int}{Pd:List Int→Prop}(C:aA X.prog X.w X.K X.mg X.base x k (aG S X.K))(hr:bN k X.A)(ha:HA X (e::es) Γ ps Γ1)(hS:S X.K ps (hU X.K r Pd))(h:∀ys,Pd ys→ys.length≤sizeLine→N (Γ1.set i (.mu r ys)))
    (hg:autoParam (Gl X x) Fc.ag) (hdb:autoParam ((x==("__debug__":Str))=false) Fc.aw) (he:autoParam (starEach (e::es) X.env=(false,eval e X.env)::starEach es X.env) Fc.ag) (hpl:autoParam ((backTo p2 (starEach es X.env)).any (·.1)=false) Fc.ag)
    (hN:autoParam (X.N.Nodup) Fc.dO) (hi:autoParam (X.N[i]?=some y) Fc.ag) (hx:autoParam (Loc X.env.scope y) Fc.dh)
    (hs:autoParam (swapsWith (.Call (.Name x p) (e::es) [] p2) (some (.Name y p1)) pos.line X.env=pure false) Fc.ag) (hf:autoParam (X.fn y=true∨X.env.scope.names.lookup y=some .local) Fc.fe):
    W1 X (.Assign [.Name y p1] (.Call (.Name x p) (e::es) [] p2) pos) Γ N T:=fun σ H0 R0 H R E D dn dr=>
  sS (fP hN hi hx aH hs hf) (c5 C hr ha hS E (fun H1 R1 v H' R' E1 s1 xx t=>by
    obtain ⟨a,vs,ys,rfl,h0,h1,h2,p,z,hP⟩:=t
    have E2:=E1.grow xx
    exact dn _ H' R' _ (E2.setG (v:=.ref a) (en:=.mu r ys) i ⟨a,vs,rfl,h1,h2,p⟩ (fun c hc=>by rw [show c=a by have:=cQ.mp (show c∈refOf (some (.ref a)) from hc);cases this;rfl];exact E1.ext.h.free h0) fun c hc j e _ qj w=>by
      have:c=a:=by have:=cQ.mp (show c∈refOf (some (.ref a)) from hc);cases this;rfl
      subst this
      exact (Ent.cP (E1.ent j e qj) w).1 h0) (s1.trans xx.r) (h ys hP z)) hg hdb he hpl)
theorem gM {X:Cx}{Γ Γ1:Ga}{S:bS}{x:Str}{k:Nat}{e b:Expr}{es:List Expr}{p p2 pos:Pos}{ps:List Pk}{Pd:List (Int×Int)→Prop}{kk y:Int}(hu:X.A.units + 1 < cLine)(C:aA X.prog X.w X.K X.mg X.base x k (aG S X.K))(hr:bN k X.A)(ha:HA X (e::es) Γ ps Γ1)(hS:S X.K ps (bP X.K ip Pd))(hb:EV X b Γ1 ab kk Γ1)(h:∀F,Pd F→bq F kk=some y)
    (hg:autoParam (Gl X x) Fc.ag) (hdb:autoParam ((x==("__debug__":Str))=false) Fc.aw) (he:autoParam (starEach (e::es) X.env=(false,eval e X.env)::starEach es X.env) Fc.ag) (hpl:autoParam ((backTo p2 (starEach es X.env)).any (·.1)=false) Fc.ag) (hs:autoParam (pk b) Fc.l9):EV X (.Subscript (.Call (.Name x p) (e::es) [] p2) b pos) Γ ab y Γ1:=fun σ H0 R0 H R E Q q=>
  eS (n8 hu aH aH hs) (c5 C hr ha hS E (fun H1 R1 v H' R' E1 s1 xx t=>by
    obtain ⟨F,e1,hF⟩:=t
    refine hb σ H0 R0 H' R' (E1.grow xx) _ fun u H2 R2 E2 s2 e2=>?_
    obtain ⟨a,rfl,hp⟩:=ip.mono s2 e1
    cases e2
    have g:=dQ.k (k:=Sum.inl kk) (E2.sub _ _ hp)
    rw [fM,h F hF] at g
    exact ⟨a,_,rfl,g,q _ H2 R2 E2 (s1.trans (xx.r.trans s2)) rfl⟩) hg hdb he hpl)
end
end K1
namespace Fc
open PySem PySem.Spec L2
open PyProof.Rows hiding St
section
variable {X:Cx}{Γ Γ1 Γ2 Γ3:Ga}{α β γ δ:Type}{N:Ga→Prop}{T:RT}
end
section
variable {X:Cx}{Γ Γ1 Γ2 Γ3:Ga}{α β γ δ:Type}{N:Ga→Prop}{T:RT}
noncomputable def et (K:PySem.W.Frag)(r:Rep α)(H R:Hp)(as:List Addr)(xss:List (List α)):Prop:=as.length=xss.length∧∀(i:Nat) (b:Addr) (xs:List α),as[i]?=some b→xss[i]?=some xs→∃ws,H b=some (.lst ws)∧PySem.Paired (r.R K R) ws xs
theorem et.one {K:PySem.W.Frag}{r:Rep α}{H R:Hp}{as:List Addr}{xss:List (List α)}(h:et K r H R as xss){b:Addr}(hb:b∈as):∃ws,H b=some (.lst ws):=by
  obtain ⟨i,hi,rfl⟩:=List.mem_iff_getElem.mp hb
  obtain ⟨ws,h1,_⟩:=h.2 i _ _ (List.getElem?_eq_getElem hi) (List.getElem?_eq_getElem (by rw [← h.1];exact hi))
  exact ⟨ws,h1⟩
theorem et.loc {K:PySem.W.Frag}{r:Rep α}{H R H' R':Hp}{as:List Addr}{xss:List (List α)}(h:et K r H R as xss)(e:∀a∈as,H' a=H a)(s:ak R R'):et K r H' R' as xss:=
  ⟨h.1,fun i b xs h1 h2=>by
    obtain ⟨ws,q1,q2⟩:=h.2 i b xs h1 h2
    exact ⟨ws,(e b (List.mem_of_getElem? h1)).trans q1,Paired.map (fun _ _=>r.mono s) q2⟩⟩
theorem et.put {K:PySem.W.Frag}{r:Rep α}{H R:Hp}{as:List Addr}{xss:List (List α)}(h:et K r H R as xss)(nd:as.Nodup){j:Nat}{b:Addr}{xs:List α}{ws:List V}(hb:as[j]?=some b)(hp:PySem.Paired (r.R K R) ws xs):et K r (upd H b (.lst ws)) R as (xss.set j xs):=by
  refine ⟨by rw [List.length_set];exact h.1,fun i c q h1 h2=>?_⟩
  by_cases hij:i=j
  · subst hij
    rw [hb] at h1;cases h1
    have hl:i < xss.length:=by rw [← h.1];exact (List.getElem?_eq_some_iff.mp hb).1
    rw [List.getElem?_set_self hl] at h2;cases h2
    exact ⟨ws,ay,hp⟩
  · rw [List.getElem?_set_ne (Ne.symm hij)] at h2
    have:c≠b:=fun z=>by
      subst z
      have l1:=(List.getElem?_eq_some_iff.mp h1)
      have l2:=(List.getElem?_eq_some_iff.mp hb)
      exact hij ((List.getElem_inj (h₀:=l1.1) (h₁:=l2.1) nd).mp (l1.2.trans l2.2.symm))
    rw [aD this];exact h.2 i c q h1 h2
theorem et.snoc {K:PySem.W.Frag}{r:Rep α}{H R:Hp}{as:List Addr}{xss:List (List α)}(h:et K r H R as xss){b:Addr}{xs:List α}{ws:List V}(hb:H b=some (.lst ws))(hp:PySem.Paired (r.R K R) ws xs):et K r H R (as++[b]) (xss++[xs]):=by
  refine ⟨by rw [List.length_append,List.length_append,h.1];rfl,fun i c q h1 h2=>?_⟩
  rcases Nat.lt_or_ge i as.length with hl | hl
  · rw [List.getElem?_append_left hl] at h1
    rw [List.getElem?_append_left (by rw [← h.1];exact hl)] at h2
    exact h.2 i c q h1 h2
  · rw [List.getElem?_append_right hl] at h1
    rw [List.getElem?_append_right (by rw [← h.1];exact hl)] at h2
    have e:i - as.length=0:=by
      have:=(List.getElem?_eq_some_iff.mp h1).1
      simp at this;omega
    rw [e] at h1
    rw [← h.1,e] at h2
    simp at h1 h2
    rw [← h1,← h2];exact ⟨ws,hb,hp⟩
noncomputable def jI (r:Rep α)(a:Addr)(as:List Addr)(xss:List (List α)):g6 where
  fp:=a::as
  R:=fun K H R v=>v= .ref a∧H a=some (.lst (as.map .ref))∧et K r H R as xss∧(a::as).Nodup
  loc:=fun hH hR ⟨e,h1,h2,h3⟩=>⟨e,(hH a List.mem_cons_self).trans h1,h2.loc (fun b hb=>hH b (List.mem_cons_of_mem _ hb)) hR,h3⟩
  has :=fun ⟨e,h1,h2,h3⟩ b hb=>by
    rcases List.mem_cons.mp hb with rfl | hb
    · rw [h1];exact Option.some_ne_none _
    · obtain ⟨r,hr⟩:=h2.one hb
      rw [hr];exact Option.some_ne_none _
theorem yz {as:List Addr}{k:Int}{j:Nat}{b:Addr}(hk:fg as.length k=some j)(hb:as[j]?=some b):cI (as.map V.ref) k=some (.ref b):=by
  unfold cI
  rw [List.length_map,hk]
  show (as.map V.ref)[j]?=_
  rw [List.getElem?_map,hb];rfl
theorem xG (i:Nat){x:Str}{b:Expr}{p1 p2:Pos}{r:Rep α}{a:Addr}{as:List Addr}{xss:List (List α)}{k:Int}{j:Nat}{σ:St}{H0 R0 H R:Hp}{Q:VK}(hb:EV X b Γ ab k Γ)(hΓ:Γ[i]?=some (.ob (jI r a as xss)))(hk:fg xss.length k=some j)(E:aj X.K σ H0 R0 H R Γ)
    (q:∀c H' R',aj X.K σ H0 R0 H' R' Γ→ak R R'→as[j]?=some c→Q (.ref c) H')
    (hN:X.N[i]?=some x) (hv:cv X.env.scope x) (hd:(x==("__debug__":Str))=false) (hcd:(x==("__classdict__":Str))=false) (hsx:eM b):c4 X (.Subscript (.Name x p1) b p2) σ H Q:=by
  obtain ⟨⟨v,ea,rfl,ha,hr,_⟩,hR⟩:=E.ent i _ hΓ
  refine eS (fm dX (a9 hN hv hd hcd) aH hsx) ⟨.ref a,at_of ea,hb σ H0 R0 H R E _ fun u H2 R2 E2 s2 e2=>?_⟩
  obtain ⟨⟨v,ea2,e3,ha2,hr2,nd⟩,hR2⟩:=E2.ent i _ hΓ
  have hl:j < as.length:=by rw [hr2.1];exact (ku hk).2.1
  exact ⟨a,_,k,.ref as[j],rfl,e2,aX.of ha2,yz (by rw [hr2.1];exact hk) (List.getElem?_eq_getElem hl),q _ H2 R2 E2 s2 (List.getElem?_eq_getElem hl)⟩
theorem pA (i:Nat){x:Str}{b e:Expr}{p1 p2 ap cp pos:Pos}{r:Rep α}{a:Addr}{as:List Addr}{xss:List (List α)}{xs:List α}{k:Int}{j:Nat}{y:α}(hb:EV X b Γ ab k Γ)(he:EV X e Γ r y Γ)(hΓ:Γ[i]?=some (.ob (jI r a as xss)))(hk:fg xss.length k=some j)(hx:xss[j]?=some xs)(hz:xs.length < sizeLine)(h:N (Γ.set i (.ob (jI r a as (xss.set j (xs++[y]))))))
    (hN:autoParam (X.N[i]?=some x) Fc.ag) (hv:autoParam (cv X.env.scope x) Fc.bW)
    (hd:autoParam ((x==("__debug__":Str))=false) Fc.aw) (hcd:autoParam ((x==("__classdict__":Str))=false) Fc.aw) (hsx:autoParam (eM b) Fc.l9)
    (hsw:autoParam (swapsWith (.Call (.Attribute (.Subscript (.Name x p1) b p2) "append" ap) [e] [] cp) none pos.line X.env=pure false) Fc.ag)
    (hbase:autoParam (attributeBase (.Subscript (.Name x p1) b p2) "append" X.env (eval (.Subscript (.Name x p1) b p2) X.env)=eval (.Subscript (.Name x p1) b p2) X.env) Fc.ag)
    (hfew:autoParam (((backTo cp (starEach [e] X.env)).all (fun x=> !x.1)&&(backToKw cp (keywordEach [] X.env)).all (fun x=>x.1.isSome)
      &&decide ([e].length + ([]:List Keyword).length + (if ([]:List Keyword).isEmpty then 0 else 1) < 30))=true) Fc.ag)
    (hline:autoParam ((ap.endLine==cp.line)=true) Fc.ag) (hs:autoParam (starEach [e] X.env=(false,eval e X.env)::starEach [] X.env) Fc.ag):W1 X (.Expr (.Call (.Attribute (.Subscript (.Name x p1) b p2) "append" ap) [e] [] cp) pos) Γ N T:=fun σ H0 R0 H R E D dn dr=>by
  refine sS (fz (jy PySem.F.plainAttrs_list PySem.F.slot_list_append PySem.F.type_list_append lh aH (ba aH bU hs) hbase hfew hline hs rfl) hsw) ?_
  refine xG i hb hΓ hk E (fun c H1 R1 E1 s1 hc=>?_) hN hv hd hcd hsx
  obtain ⟨⟨v,ea1,rfl,ha1,hr1,nd1⟩,hR1⟩:=E1.ent i _ hΓ
  obtain ⟨ws1,q1,q2⟩:=hr1.2 j c xs hc hx
  refine ⟨.inl ⟨rfl,_,aX.of q1⟩,he σ H0 R0 H1 R1 E1 _ fun u H2 R2 E2 s2 e2=>?_⟩
  obtain ⟨⟨v,ea2,rfl,ha2,hr2,nd2⟩,hR2⟩:=E2.ent i _ hΓ
  obtain ⟨ws2,q1,q2⟩:=hr2.2 j c xs hc hx
  obtain ⟨n1,n2⟩:=List.nodup_cons.mp nd2
  have cm:c∈as:=List.mem_of_getElem? hc
  refine ⟨c,ws2,u,rfl,rfl,q1,by rw [q2.length];exact hz,?_⟩
  refine dn σ _ R2 _ (E2.nj (en:=.ob (jI r a as (xss.set j (xs++[y])))) hΓ (List.mem_cons_of_mem _ cm) ⟨⟨.ref a,ea2,rfl,?_,hr2.put n2 hc (bO q2 (.cons e2 .nil)),nd2⟩,hR2⟩ fun c w=>.inl w) (s1.trans s2) h
  rw [aD (show a≠c from fun z=>n1 (z▸cm))];exact ha2
noncomputable def Ay (K:PySem.W.Frag)(r:Rep α)(P:List (List α)→Prop):RT:=fun H0 v H' R'=>∃a as xss,v= .ref a∧(∀b∈a::as,H0 b=none∧R' b=none)∧H' a=some (.lst (as.map .ref))∧et K r H' R' as xss∧(a::as).Nodup∧P xss
theorem xm (i:Nat){x:Str}{p1 pos:Pos}{r:Rep α}{P:List (List α)→Prop}{a:Addr}{as:List Addr}{xss:List (List α)}(hΓ:Γ[i]?=some (.ob (jI r a as xss)))(h:P xss)(hN:autoParam (X.N[i]?=some x) Fc.ag)(hv:autoParam (cv X.env.scope x) Fc.bW)
    (hd:autoParam ((x==("__debug__":Str))=false) Fc.aw) (hcd:autoParam ((x==("__classdict__":Str))=false) Fc.aw):W1 X (.Return (some (.Name x p1)) pos) Γ N (Ay X.K r P):=fun σ H0 R0 H R E D dn dr=>by
  obtain ⟨⟨v,ea,rfl,ha,hr,nd⟩,hR⟩:=E.ent i _ hΓ
  exact sS (dB (a9 hN hv hd hcd)) ⟨.ref a,at_of ea,dr _ H R E.ext ⟨a,as,xss,rfl,fun b hb=>⟨E.nw i _ b hΓ hb,hR b hb⟩,ha,hr,nd,h⟩⟩
noncomputable def f9 (R H:Hp)(l:List Addr):Hp:=fun b=>if b∈l then H b else R b
theorem uQ (i:Nat){x:Str}{p1 pos:Pos}{r:Rep α}{P:List (List α)→Prop}{a:Addr}{as:List Addr}{xss:List (List α)}(hΓ:Γ[i]?=some (.ob (jI r a as xss)))(hz:xss.length≤sizeLine)(hzi:∀xs∈xss,xs.length≤sizeLine)(h:P xss)(hN:autoParam (X.N[i]?=some x) Fc.ag)(hv:autoParam (cv X.env.scope x) Fc.bW)
    (hd:autoParam ((x==("__debug__":Str))=false) Fc.aw) (hcd:autoParam ((x==("__classdict__":Str))=false) Fc.aw):W1 X (.Return (some (.Name x p1)) pos) Γ N (hU X.K (af r) P):=fun σ H0 R0 H R E D dn dr=>by
  obtain ⟨⟨v,ea,rfl,ha,hr,nd⟩,hR⟩:=E.ent i _ hΓ
  obtain ⟨n1,n2⟩:=List.nodup_cons.mp nd
  have sR:ak R (f9 R H as):=fun b o q=>by
    unfold f9
    split
    · rename_i hb
      rw [hR b (List.mem_cons_of_mem _ hb)] at q;cases q
    · exact q
  have sH:ak (f9 R H as) H:=fun b o q=>by
    unfold f9 at q
    split at q
    · exact q
    · exact E.sub b o q
  have pr :PySem.Paired ((af r).R X.K (f9 R H as)) (as.map .ref) xss:=by
    have key:∀(bs:List Addr) (yss:List (List α)),(∀b∈bs,b∈as)→et X.K r H R bs yss→(∀xs∈yss,xs.length≤sizeLine)→PySem.Paired ((af r).R X.K (f9 R H as)) (bs.map .ref) yss:=by
      intro bs
      induction bs with
      | nil=>intro yss _ h _;cases yss with
        | nil=>exact .nil
        | cons _ _=>exact absurd h.1 (by simp)
      | cons b bs ih=>intro yss hm h hz;cases yss with
        | nil=>exact absurd h.1 (by simp)
        | cons ys yss=>
          obtain ⟨ws,q1,q2⟩:=h.2 0 b ys rfl rfl
          refine .cons ⟨b,ws,rfl,?_,Paired.map (fun _ _=>r.mono sR) q2,hz ys List.mem_cons_self⟩ (ih yss (fun c hc=>hm c (List.mem_cons_of_mem _ hc)) ⟨by simpa using h.1,fun i c xs h1 h2=>h.2 (i + 1) c xs (by simpa using h1) (by simpa using h2)⟩ fun xs hx=>hz xs (List.mem_cons_of_mem _ hx))
          unfold f9
          rw [if_pos (hm b List.mem_cons_self)];exact q1
    exact key as xss (fun _ h=>h) hr hzi
  refine sS (dB (a9 hN hv hd hcd)) ⟨.ref a,at_of ea,dr _ H (f9 R H as) ⟨E.ext.h,E.ext.r.trans sR,sH,fun b hb=>?_⟩ ⟨a,_,xss,rfl,E.nw i _ a hΓ List.mem_cons_self,ha,?_,pr,hz,h⟩⟩
  · unfold f9
    rw [if_neg fun z=>hb (E.nw i _ b hΓ (List.mem_cons_of_mem _ z))]
    exact E.ext.old b hb
  · unfold f9
    rw [if_neg n1];exact hR a List.mem_cons_self
end
noncomputable def FlE:Ent→Prop
  | .no=>True
  | .im _ _=>True
  | _=>False
noncomputable def nt:Ga→Prop
  | []=>True
  | e::r=>FlE e∧nt r
theorem nt.fp:∀{Γ:Ga},nt Γ→∀(i:Nat) (e:Ent),Γ[i]?=some e→∀o,e.fp o=[]
  | e::_,⟨h,_⟩,0,_,q,o=>by
    cases q
    cases e with
    | no=>rfl
    | im _ _=>rfl
    | mu _ _=>exact h.elim
    | di _=>exact h.elim
    | ob _=>exact h.elim
  | _::r,⟨_,h⟩,i + 1,e,q,o=>nt.fp h i e (by simpa using q) o
  | [],_,i,e,q,o=>by simp at q
theorem aj.um {K:PySem.W.Frag}{σ:St}{H0 R0 H R:Hp}{Γ:Ga}(E:aj K σ H0 R0 H R Γ)(fl:nt Γ):aj K σ H R H R Γ:=
  ⟨⟨ak.refl _,ak.refl _,E.sub,fun _ _=>rfl⟩,E.ent,(fun i e a q w=>by rw [fl.fp i e q] at w;cases w),(fun i j e e' a q q' w w'=>by rw [fl.fp i e q] at w;cases w),E.len⟩
section
variable {X:Cx}{Γ Γ1 Γ2 Γ3:Ga}{α β γ δ:Type}{N:Ga→Prop}{T:RT}
noncomputable def we (X:Cx)(e:Expr)(Γ:Ga){α:Type}(r:Rep α)(P:List α→Prop)(Γ':Ga):Prop:=
  ∀(σ:St) (H0 R0 H R:Hp),aj X.K σ H0 R0 H R Γ→∀Q:VK,(∀a vs ys H' R',aj X.K σ H0 R0 H' R' Γ'→ak R R'→H' a=some (.lst vs)→R' a=none→H0 a=none→Off a σ Γ'→PySem.Paired (r.R X.K R') vs ys→ys.length≤sizeLine→P ys→Q (.ref a) H')→c4 X e σ H Q
theorem bb.evr {e:Expr}{r:Rep α}{ys:List α}{P:List α→Prop}(h:bb X e Γ r ys Γ1)(hp:P ys):we X e Γ r P Γ1:=fun σ H0 R0 H R E Q q=>h σ H0 R0 H R E Q fun a vs H' R' E' s' h1 h2 h3 h4 h5 h6=>q a vs ys H' R' E' s' h1 h2 h3 h4 h5 h6 hp
theorem oS {tg elt:Expr}{scope:Scope}{cl:List (Str×Addr)}{own fr:List Str}{ix:List Nat}{ra:Rep α}{rb:Rep β}{xs:List α}{P:α→List β→Prop}{bf:α→Ga→Ga}{J:It}{σ:St}{H0 R0 H1 R1:Hp}{Q:VK}(E1:aj X.K σ H0 R0 H1 R1 Γ1)(src:Src X.K J R1 ra xs)(hz:xs.length≤sizeLine)
    (hb:∀(C:Addr) (s:Shared) (H:Hp) (ex:List Addr),BG (ax X scope cl C (own++fr) s H ex) tg ra bf) (hw:∀x,Wk (bf x (bK own ix Γ1)) (bK own ix Γ1)) (hfl:∀x,nt (bf x (bK own ix Γ1)))
    (he:∀(C:Addr) (s:Shared) (H:Hp) (ex:List Addr) x,x∈xs→we (ax X scope cl C (own++fr) s H ex) elt (bf x (bK own ix Γ1)) rb (P x) (bf x (bK own ix Γ1)))
    (q:∀a bs yss H' R',Ext H1 R1 H' R'→H' a=none→et X.K rb H' R' bs yss→bs.Nodup→(∀b∈bs,H1 b=none∧R' b=none)→PySem.Paired P xs yss→(∀ys∈yss,ys.length≤sizeLine)→Q (.ref a) (upd H' a (.lst (bs.map .ref)))):
    ∃ W :Nat→Nat→List V→St→Hp→Prop,(∃m,W 0 m [] (cW own ix σ) H1)∧∀i m ys σ' H',W i m ys σ' H'→
      ys.length≤sizeLine∧((J.stop i H'∧∀p,H' p=none→Q (.ref p) (upd H' p (.lst ys)))∨
      (J.go i H'∧∀x H2,J.yld i H' x H2→(fun v σ H Q=>∀C s Hh ex,eC (ax X scope cl C (own++fr) s Hh ex) tg v σ H Q:TG) x σ' H2 fun σ2 H3=>(fun σ H Q=>∀C s Hh ex,fc (ax X scope cl C (own++fr) s Hh ex) [] σ H Q:TT) σ2 H3 fun b H4=>
        if b=true then (fun σ H Q=>∀C s Hh ex,c4 (ax X scope cl C (own++fr) s Hh ex) elt σ H Q:TE) σ2 H4 fun v H5=>∃m',m' < m∧W (i + 1) m' (ys++[v]) σ2 H5 else∃m',m' < m∧W (i + 1) m' ys σ2 H4)):=by
  refine ⟨fun i m ys σ' H'=>m=xs.length - i∧i≤xs.length∧∃R' bs yss,aj X.K σ' H1 R1 H' R' (bK own ix Γ1)∧ys=bs.map .ref∧et X.K rb H' R' bs yss∧bs.Nodup∧(∀b∈bs,H1 b=none∧R' b=none)∧PySem.Paired P (xs.take i) yss∧∀ys∈yss,ys.length≤sizeLine,⟨_,rfl,Nat.zero_le _,R1,[],[],jf E1 own ix,rfl,⟨rfl,fun i b r h1=>by simp at h1⟩,List.nodup_nil,(fun b hb=>by cases hb),(.nil:PySem.Paired P [] []),(fun ys hy=>by cases hy)⟩,?_⟩
  rintro i m ys σ' H' ⟨rfl,hle,R',bs,yss,E',rfl,hrs,hnd,hbs,pq,hsz⟩
  have hbl:bs.length=i:=by rw [hrs.1,← pq.length,List.length_take];omega
  have hys:(bs.map V.ref).length≤sizeLine:=by rw [List.length_map,hbl];omega
  obtain ⟨sgo,sstop⟩:=src H' R' E'.ext.r E'.sub i
  refine ⟨hys,?_⟩
  by_cases hlt:i < xs.length
  · obtain ⟨go,yl⟩:=sgo _ (List.getElem?_eq_getElem hlt)
    have hmem:xs[i]∈xs:=List.getElem_mem hlt
    have tk:(xs.take (i + 1))=xs.take i++[xs[i]]:=by rw [List.take_succ,List.getElem?_eq_getElem hlt];rfl
    refine .inr ⟨go,fun v H2 hy C s Hh ex=>?_⟩
    obtain ⟨R2,x2,hr⟩:=yl v H2 hy
    refine hb C s Hh ex σ' H1 R1 H2 R2 _ v _ (E'.grow x2) hr _ fun σ2 E2=>?_
    intro C s Hh ex
    refine (br (X:=ax X scope cl C (own++fr) s Hh ex)) σ2 H2 R2 H2 R2 (E2.um (hfl _)) _ fun H4 R4 E4 s4=>?_
    rw [if_pos rfl]
    intro C s Hh ex
    refine he C s Hh ex _ hmem σ2 H4 R4 H4 R4 (E4.um (hfl _)) _ fun a vs zs H5 R5 E5 s5 ha hR h0 off pp hz' hP=>?_
    have x5:Ext H' R' H5 R5:=x2.trans (E4.ext.trans E5.ext)
    have x25:Ext H2 R2 H5 R5:=E4.ext.trans E5.ext
    have hin:∀b∈bs,H' b≠none:=fun b hb=>by
      obtain ⟨r,hr⟩:=hrs.one hb
      rw [hr];exact Option.some_ne_none _
    have hold:∀b∈bs,b≠a:=fun b hb e=>by
      have:H4 b≠none:=ak.some (x2.h.trans E4.ext.h) (hin b hb)
      exact this (e▸h0)
    refine ⟨xs.length - (i + 1),by omega,rfl,hlt,R5,bs++[a],yss++[zs],(E2.grow x25).weak (hw _),by rw [List.map_append];rfl,?_,?_,fun b hb=>?_,?_,fun ys hy=>?_⟩
    · refine et.snoc (et.loc hrs (fun c hc=>?_) x5.r) ha pp
      cases e:H' c with
      | none=>exact absurd e (hin c hc)
      | some u=>exact x5.h c u e
    · exact fB hnd fun z=>hold a z rfl
    · rcases List.mem_append.mp hb with z | z
      · exact ⟨(hbs b z).1,(x5.old b (hin b z)).trans (hbs b z).2⟩
      · rw [List.mem_singleton.mp z]
        exact ⟨(E'.ext.h.trans (x2.h.trans E4.ext.h)).free h0,hR⟩
    · rw [tk]
      exact bO pq (.cons hP .nil)
    · rcases List.mem_append.mp hy with z | z
      · exact hsz ys z
      · rw [List.mem_singleton.mp z];exact hz'
  · have e:i=xs.length:=by omega
    subst e
    rw [List.take_length] at pq
    exact .inl ⟨sstop (Nat.le_refl _),fun a ha=>q a bs yss H' R' E'.ext ha hrs hnd hbs pq hsz⟩
theorem vf (i:Nat){y:Str}{py spos:Pos}{tg elt iter:Expr}{scope:Scope}{pos:Pos}{cl:List (Str×Addr)}{own fr:List Str}{ix:List Nat}{ra:Rep α}{rb:Rep β}{xs:List α}{P:α→List β→Prop}{bf:α→Ga→Ga}
    (S:cF X scope cl own fr ix) (hit:IV X tg iter Γ ra xs Γ1)
    (hb:∀(C:Addr) (s:Shared) (H:Hp) (ex:List Addr),BG (ax X scope cl C (own++fr) s H ex) tg ra bf) (hw:∀x,Wk (bf x (bK own ix Γ1)) (bK own ix Γ1)) (hfl:∀x,nt (bf x (bK own ix Γ1)))
    (he:∀(C:Addr) (s:Shared) (H:Hp) (ex:List Addr) x,x∈xs→we (ax X scope cl C (own++fr) s H ex) elt (bf x (bK own ix Γ1)) rb (P x) (bf x (bK own ix Γ1)))
    (h:∀a bs yss,PySem.Paired P xs yss→(∀ys∈yss,ys.length≤sizeLine)→N (Γ1.set i (.ob (jI rb a bs yss))))
    (hsw:autoParam (swapsWith (.ListComp elt [⟨tg,iter,[],0⟩] scope pos) (some (.Name y py)) spos.line X.env=pure true) Fc.ag)
    (hN:autoParam (X.N.Nodup) Fc.dO) (hi':X.N[i]?=some y:=by rfl) (hx:autoParam (Loc X.env.scope y) Fc.dh)
    (hc:autoParam (X.calm=true) Fc.ag) (hs:autoParam (∀x,foldedSetIterable iter X.env x=pure x) Fc.cJ) (hf:autoParam (X.fn y=true∨X.env.scope.names.lookup y=some .local) Fc.fe):
    W1 X (.Assign [.Name y py] (.ListComp elt [⟨tg,iter,[],0⟩] scope pos) spos) Γ N T:=fun σ H0 R0 H R E D dn dr=>by
  obtain ⟨wi,hi,hit⟩:=hit
  refine sS (gU (i:=i) (g:=fun v σ H Q=>∀C s Hh ex,eC (ax X scope cl C (own++fr) s Hh ex) tg v σ H Q) (tc:=fun σ H Q=>∀C s Hh ex,fc (ax X scope cl C (own++fr) s Hh ex) [] σ H Q) (te:=fun σ H Q=>∀C s Hh ex,c4 (ax X scope cl C (own++fr) s Hh ex) elt σ H Q) hsw hN hi' hx hc S hi
    (fun C s H ex=>⟨fun pins s1 σ H v u Q I r h=>h C s _ ex pins s1 u I r,fun pins s1 σ H Q I h=>h C s _ ex pins s1 I,fun pins s1 σ H Q I h=>h C s _ ex pins s1 I⟩) hs hf) ?_
  refine hit σ H0 R0 H R E _ fun J H1 R1 E1 s1 hz src=>oS (Q:=fun v H'=>D.nx (σ.set i (some v)) H') E1 src hz hb hw hfl he fun a bs yss H' R' xx ha hg hnd hbs pq hsz=>?_
  have E2:=E1.grow xx
  have E3:=E2.grow (Ext.cO E2.sub ha (.lst (bs.map .ref)))
  have inb:∀c∈bs,H' c≠none:=fun c hc=>by
    obtain ⟨r,hr⟩:=hg.one hc
    rw [hr];exact Option.some_ne_none _
  have nab:a∉bs:=fun z=>inb a z ha
  refine dn _ _ R' _ (E3.setG (en:=.ob (jI rb a bs yss)) i ⟨⟨.ref a,rfl,rfl,ay,hg.loc (fun c hc=>aD fun z=>nab (z▸hc)) (ak.refl _),List.nodup_cons.mpr ⟨nab,hnd⟩⟩,fun b hb=>?_⟩ (fun b hb=>?_) fun b hb j e _ qj w=>?_) (s1.trans xx.r) (h a bs yss pq hsz)
  · rcases List.mem_cons.mp hb with rfl | hb
    · exact E2.sub.free ha
    · exact (hbs b hb).2
  · rcases List.mem_cons.mp hb with rfl | hb
    · exact E2.ext.h.free ha
    · exact E1.ext.h.free (hbs b hb).1
  · rcases List.mem_cons.mp hb with rfl | hb
    · exact E2.off ha j e qj w
    · exact (Ent.cP (E1.ent j e qj) w).1 (hbs b hb).1
end
section
variable {X:Cx}{Γ Γ1 Γ2 Γ3:Ga}{α β γ δ:Type}{N:Ga→Prop}{T:RT}
theorem wQ (i:Nat){x:Str}{e:Expr}{p1 pos:Pos}{a c:Int}(he:EV X e Γ ab c Γ)(hΓ:Γ[i]?=some (.im ab a))(h:N (Γ.set i (.im ab (a + c))))
    (hN:autoParam (X.N.Nodup) Fc.dO) (hi:autoParam (X.N[i]?=some x) Fc.ag) (hx:autoParam (Loc X.env.scope x) Fc.dh)
    (hf:autoParam (X.fn x=true∨X.env.scope.names.lookup x=some .local) Fc.fe):
    W1 X (.AugAssign (.Name x p1) .Add e pos) Γ N T:=fun σ H0 R0 H R E D dn dr=>by
  obtain ⟨v,ea,hr⟩:=E.ent i _ hΓ
  cases (show v=V.int a from hr)
  refine sS (p7 hN hi hx aH xk hf) ⟨.int a,at_of ea,he σ H0 R0 H R E _ fun u H2 R2 E2 s2 e2=>?_⟩
  cases (show u=V.int c from e2)
  exact ⟨a,c,rfl,rfl,dn _ H2 R2 _ (E2.set i (r:=ab) (x:=a + c) rfl) s2 h⟩
theorem w_subN (i:Nat){x:Str}{e:Expr}{p1 pos:Pos}{a c:Int}(he:EV X e Γ ab c Γ)(hΓ:Γ[i]?=some (.im ab a))(h:N (Γ.set i (.im ab (a - c))))
    (hN:autoParam (X.N.Nodup) Fc.dO) (hi:autoParam (X.N[i]?=some x) Fc.ag) (hx:autoParam (Loc X.env.scope x) Fc.dh)
    (hf:autoParam (X.fn x=true∨X.env.scope.names.lookup x=some .local) Fc.fe):
    W1 X (.AugAssign (.Name x p1) .Sub e pos) Γ N T:=fun σ H0 R0 H R E D dn dr=>by
  obtain ⟨v,ea,hr⟩:=E.ent i _ hΓ
  cases (show v=V.int a from hr)
  refine sS (p7 hN hi hx aH wJ hf) ⟨.int a,at_of ea,he σ H0 R0 H R E _ fun u H2 R2 E2 s2 e2=>?_⟩
  cases (show u=V.int c from e2)
  exact ⟨a,c,rfl,rfl,dn _ H2 R2 _ (E2.set i (r:=ab) (x:=a - c) rfl) s2 h⟩
end
section
variable {X:Cx}{Γ Γ1 Γ2 Γ3:Ga}{α β γ δ:Type}{N:Ga→Prop}{T:RT}
noncomputable def A7:Rep (Int→Bool):=⟨fun K H v g=>∃kvs,kc.R K H v kvs∧∀k,dN kvs k=g k,fun s ⟨kvs,a,b⟩=>⟨kvs,kc.mono s a,b⟩⟩
theorem u6 {a b:Expr}{pos:Pos}{g:Int→Bool}{k:Int}(hu:X.A.units + 1 < cLine)(ha:EV X a Γ ab k Γ1)(hb:EV X b Γ1 A7 g Γ2)(hm:behindInMarks .In b=false:=by first | exact jw _ | with_unfolding_all rfl):EV X (.Compare a [.In] [b] pos) Γ aK (g k) Γ2:=by
  intro σ H0 R0 H R E Q q
  refine eS (rm (mH hu aH aH) hm) (ha σ H0 R0 H R E _ fun v H1 R1 E1 s1 e1=>hb σ H0 R0 H1 R1 E1 _ fun u H2 R2 E2 s2 e2=>?_)
  cases e1
  obtain ⟨kvs,⟨p,rfl,hp⟩,hk⟩:=e2
  refine ⟨p,_,rfl,dQ.k (k:=Sum.inl k) (E2.sub _ _ hp),?_⟩
  rw [gz,hk]
  exact q _ H2 R2 E2 (s1.trans s2) rfl
theorem sq {S:bS}{x:Str}{k:Nat}{e:Expr}{es:List Expr}{p pos:Pos}{ps:List Pk}{r:Rep α}{Pd:α→Prop}{r':Rep β}{y:β}(C:aA X.prog X.w X.K X.mg X.base x k (aG S X.K))(hr:bN k X.A)(ha:HA X (e::es) Γ ps Γ1)(hS:S X.K ps (bP X.K r Pd))(hc:∀(R:Hp) v z,Pd z→r.R X.K R v z→r'.R X.K R v y)
    (hg:autoParam (Gl X x) Fc.ag) (hdb:autoParam ((x==("__debug__":Str))=false) Fc.aw) (he:autoParam (starEach (e::es) X.env=(false,eval e X.env)::starEach es X.env) Fc.ag) (hpl:autoParam ((backTo pos (starEach es X.env)).any (·.1)=false) Fc.ag):EV X (.Call (.Name x p) (e::es) [] pos) Γ r' y Γ1:=fun σ H0 R0 H R E Q q=>
  c5 C hr ha hS E (fun H1 R1 v H' R' E1 s1 xx t=>by
    obtain ⟨z,e1,hz⟩:=t
    exact q v H' R' (E1.grow xx) (s1.trans xx.r) (hc _ _ _ hz e1)) hg hdb he hpl
end
end Fc
namespace K1
open PySem L2 Fc
open PySem.Spec hiding Row
open PyProof.Rows hiding St
open PySem.Builtin.Int (intBits)
section
variable {P:Program}{w:World}{K:PySem.W.Frag}{mg:Str→Option Value}{base:Heap}{f:Addr}{fd:FuncData}
noncomputable abbrev uz:Stmt:=top nE
theorem vW:aE ["web"] ["web"] (ah uz):=⟨rfl,rfl,rfl,by decide +kernel,rfl,by decide +kernel,by decide +kernel⟩
noncomputable def Ae:bS:=fun K ps T=>∃v:av,ps=[⟨cg,v⟩]∧aV v∧T=bP K kD (fun _=>True)
theorem z5 (CW:aA P w K mg base "is_web" 5 (aG AM K))(F:bL K "need_web" "need_web" uz f fd)(hm:mg "need_web"=some (.ref f))(hb:Binds K fd ["web"] []):aA P w K mg base "need_web" 6 (aG Ae K):=by
  have nd:=vW.nd
  refine nk F vW hm hb (fun qs T ⟨_,e,_⟩=>by rw [e];rfl) (fun cdv A outer s H E qs T hr hS=>?_)
  obtain ⟨v,rfl,hv,rfl⟩:=hS
  have pl:=hv.pl
  have rl:=hv.rl
  refine ⟨fun _ _ _=>⟨(),rfl,trivial⟩,?_⟩
  change WS _ _ [.im cg v] _ _
  refine ar (bY (bZ (bR (aP CW hr (ae (aa 0 rfl) ao) ⟨v,rfl,by omega,by omega,rfl⟩))) (fun h=>?_) (fun h=>bB trivial))
  rw [hv.yR] at h;exact absurd h (by decide)
end
section
variable {P:Program}{w:World}{K:PySem.W.Frag}{mg:Str→Option Value}{base:Heap}{f:Addr}{fd:FuncData}
noncomputable abbrev ui:Stmt:=top pO
theorem vM:aE ["web","part"] ["web","part"] (ah ui):=⟨rfl,rfl,rfl,by decide +kernel,rfl,by decide +kernel,by decide +kernel⟩
noncomputable def Ap:bS:=fun K ps T=>∃(v:av) (p:Int),ps=[⟨cg,v⟩,⟨ab,p⟩]∧0≤p∧p < (v.1.length:Int)∧T=bP K aK (· =true)
theorem z9 (M:bX mg)(CI:aA P w K mg base "is_whole" 1 (aG qX K))(F:bL K "is_part" "is_part" ui f fd)(hm:mg "is_part"=some (.ref f))(hb:Binds K fd ["web","part"] []):aA P w K mg base "is_part" 2 (aG Ap K):=by
  have nd:=vM.nd
  refine bJ F vM hm hb (fun qs T ⟨_,_,e,_⟩=>by rw [e];rfl) (fun cdv A outer s H E qs T hr hS=>?_)
  obtain ⟨v,p,rfl,p0,p1,rfl⟩:=hS
  change WS _ _ [.im (aF (af ab) (af aI)) v,.im ab p] _ _
  refine ar (bH (d8 (aP CI hr (ae (aa 1 rfl) ao) ⟨p,rfl,rfl⟩) (fun _=>ei (fN eL dM au (aa 1 rfl) (cN M.len (cY (aa 0 rfl)))))) ?_)
  simp [p0,p1]
noncomputable abbrev uj:Stmt:=top lZ
theorem xX:aE ["web","part"] ["web","part"] (ah uj):=⟨rfl,rfl,rfl,by decide +kernel,rfl,by decide +kernel,by decide +kernel⟩
noncomputable def AF:bS:=fun K ps T=>∃(v:av) (p:Int),ps=[⟨cg,v⟩,⟨ab,p⟩]∧aV v∧0≤p∧p < (v.1.length:Int)∧T=bP K kD (fun _=>True)
theorem y4 (CN:aA P w K mg base "need_web" 6 (aG Ae K))(CI:aA P w K mg base "is_part" 2 (aG Ap K))(F:bL K "need_part" "need_part" uj f fd)(hm:mg "need_part"=some (.ref f))(hb:Binds K fd ["web","part"] []):aA P w K mg base "need_part" 7 (aG AF K):=by
  have nd:=xX.nd
  have CI:=CI.mono (show 2≤6 by decide)
  refine nk F xX hm hb (fun qs T ⟨_,_,e,_⟩=>by rw [e];rfl) (fun cdv A outer s H E qs T hr hS=>?_)
  obtain ⟨v,p,rfl,hv,p0,p1,rfl⟩:=hS
  refine ⟨fun _ _ _=>⟨(),rfl,trivial⟩,?_⟩
  change WS _ _ [.im cg v,.im ab p] _ _
  refine ai (fv CN hr (ae (aa 0 rfl) ao) ⟨v,rfl,hv,rfl⟩ ?_)
  refine ar (bY (bZ (bR (aP CI hr (ae (aa 0 rfl) (ae (aa 1 rfl) ao)) ⟨v,p,rfl,p0,p1,rfl⟩))) (fun h=>?_) (fun h=>bB trivial))
  exact absurd h (by decide)
end
open Classical in
noncomputable def jo (v:av)(p:Int):Bool:=decide (bj v.2 p.toNat)
theorem Reach.head {es:List (Int×Int)}{a b:Int}(h:(a,b)∈es){k:Int}(r:Reach es b k):Reach es a k:=Reach.sub (.step .base h) (fun _ _ x y=>.step x y) r
open Classical in
noncomputable def cX (es:List (Int×Int))(a:Int):Nat:=((ups 0 16).filter fun k=>decide (Reach es a k)).length
open Classical in
theorem n9 {es:List (Int×Int)}{a b:Int}(h:(a,b)∈es)(hn:¬Reach es b a)(a0:0≤a)(a1:a < 16):cX es b < cX es a:=by
  unfold cX
  have nd:∀g:Int→Bool,((ups 0 16).filter g).Nodup:=fun g=>(eR 16).filter g
  have:=fR (xs:=a::(ups 0 16).filter fun k=>decide (Reach es b k)) (ys:=(ups 0 16).filter fun k=>decide (Reach es a k)) (List.nodup_cons.mpr ⟨fun hm=>hn (of_decide_eq_true (List.mem_filter.mp hm).2),nd _⟩) fun x hx=>by
    rcases List.mem_cons.mp hx with rfl | hx
    · exact List.mem_filter.mpr ⟨aL.mpr ⟨a0,by omega⟩,decide_eq_true .base⟩
    · obtain ⟨m1,m2⟩:=List.mem_filter.mp hx
      exact List.mem_filter.mpr ⟨m1,decide_eq_true (Reach.head h (of_decide_eq_true m2))⟩
  rw [List.length_cons] at this
  omega
theorem fE {v:av}(hv:aV v){p:Int}(p0:0≤p):bj v.2 p.toNat↔∀t∈fwd v.2 p,¬Reach (fwd v.2 p) t.2 t.1:=by
  have ep:((p.toNat:Nat):Int)=p:=by omega
  constructor
  · rintro ⟨rk,hrk⟩ ⟨a,b⟩ ht hR
    have up:∀x y,(x,y)∈fwd v.2 p→rk x < rk y:=fun x y h=>by
      obtain ⟨r,hr,r1,r2,r3⟩:=dH.mp h
      rw [← r2,← r3];exact hrk r hr (by omega)
    have:rk b≤rk a:=Reach.sub (P:=fun k=>rk b≤rk k) (Int.le_refl _) (fun x y hx hxy=>Int.le_trans hx (Int.le_of_lt (up x y hxy))) hR
    have:=up a b ht
    omega
  · intro h
    refine ⟨fun q=> -(cX (fwd v.2 p) q:Int),fun r hr r1=>?_⟩
    have ht:(r.2.1,r.2.2.1)∈fwd v.2 p:=dH.mpr ⟨r,hr,by omega,rfl,rfl⟩
    have rp:=hv.cV hr
    have s0:=rp.s0;have sn:=rp.sn;have q1:=rp.p1;have q0:=rp.p0
    have sz:=hv.sz (v.1.getD r.1.toNat 0) (by rw [List.getD_eq_getElem?_getD,List.getElem?_eq_getElem (by omega)];exact List.getElem_mem _)
    have:=n9 ht (h _ ht) s0 (by omega)
    show -(cX (fwd v.2 p) r.2.1:Int) < -(cX (fwd v.2 p) r.2.2.1:Int)
    omega
open Classical in
noncomputable def gq (es:List (Int×Int))(s k:Int):Bool:=decide (Reach es s k)
section
variable {P:Program}{w:World}{K:PySem.W.Frag}{mg:Str→Option Value}{base:Heap}{f:Addr}{fd:FuncData}
noncomputable def Am:bS:=fun K ps T=>∃(v:av) (p:Int),ps=[⟨cg,v⟩,⟨ab,p⟩]∧aV v∧0≤p∧p < (v.1.length:Int)∧T=bP K aK (· =jo v p)
noncomputable abbrev mD:Stmt:=top nH
noncomputable abbrev xO:List Str:=["web","part","leads"]
theorem xg:aE xO ["web","part"] (ah mD):=⟨rfl,rfl,rfl,by decide +kernel,rfl,by decide +kernel,by decide +kernel⟩
theorem yG (M:bX mg)(CN:aA P w K mg base "need_part" 7 (aG AF K))(CR:aA P w K mg base "reached" 1 (aG wM K))(F:bL K "is_loose" "is_loose" mD f fd)(hm:mg "is_loose"=some (.ref f))(hb:Binds K fd ["web","part"] []):aA P w K mg base "is_loose" 8 (aG Am K):=by
  have nd:=xg.nd
  have nd1:List.Nodup [("row":Str),"part"]:=by decide
  have nd2:List.Nodup [("lead":Str),"leads"]:=by decide
  have CR:=CR.mono (show 1≤7 by decide)
  refine bJ F xg hm hb (fun qs T ⟨_,_,e,_⟩=>by rw [e];rfl) (fun cdv A outer s H E qs T hr hS=>?_)
  obtain ⟨v,p,rfl,hv,p0,p1,rfl⟩:=hS
  have hu:(A.deeper (envOfC "is_loose" (ah mD) s.heap.objs.size f cdv)).units + 1 < cLine:=Nat.lt_of_le_of_lt (Nat.add_le_add_left (by decide:1≤64) _) hr.units
  have rl:=hv.rl
  change WS _ _ [.im (aF (af ab) (af aI)) v,.im ab p,.no] _ _
  refine ai (fv CN hr (ae (aa 0 rfl) (ae (aa 1 rfl) ao)) ⟨v,p,rfl,hv,p0,p1,rfl⟩ ?_)
  refine ai (aZ 2 (bb.im (aU (own:=["row"]) (fr:=["part"]) (ix:=[1]) (p:=fun r=>decide (r.1=p)) (f:=fun r=>(r.2.1,r.2.2.1)) (aJ (so:=ah mD) (N0:=xO) rfl rfl (fun x h=>aC h) (by decide +kernel)) (aN (bc (aa 0 rfl)))
      (fun C s H ex=>aB 0) (fun x=>⟨.inr rfl,.inl rfl,trivial⟩) (fun C s H ex x hx=>d5 (bD dA (dW (aa 0 rfl)) (aa 1 rfl))) (fun C s H ex x hx _=>da (ae (c9 (aa 0 rfl)) (ae (cS (aa 0 rfl)) ao))))) ?_)
  change WS _ _ [.im (aF (af ab) (af aI)) v,.im ab p,.im (af i7) (fwd v.2 p)] _ _
  have fl:(fwd v.2 p).length≤100000:=by
    unfold fwd
    rw [List.length_map]
    have:=List.length_filter_le (fun r:Row=>decide (r.1=p)) v.2
    omega
  refine ar (bH (ql (qt M.any (bb.im (aU (own:=["lead"]) (fr:=["leads"]) (ix:=[2]) (ra:=i7) (rb:=aK) (p:=fun _=>true) (f:=fun t=>gq (fwd v.2 p) t.2 t.1) (aJ (so:=ah mD) (N0:=xO) rfl rfl (fun x h=>aC h) (by decide +kernel)) (aN (aa 2 rfl))
      (fun C s H ex=>aB 0) (fun x=>⟨.inr rfl,.inl rfl,trivial⟩) (fun C s H ex x hx=>br) (fun C s H ex x hx _=>u6 (g:=gq (fwd v.2 p) x.2) hu (cY (aa 0 rfl)) (sq CR hr (ae (aa 1 rfl) (ae (bc (aa 0 rfl)) ao)) ⟨_,_,rfl,fl,rfl⟩ fun R u z hz hR=>⟨z,hR,fun k=>?_⟩)))))) ?_)
  · rw [Bool.eq_iff_iff]
    unfold gq
    classical
    show _↔decide (Reach (fwd v.2 p) x.2 k)=true
    rw [decide_eq_true_iff,← hz.2 k]
    unfold dN
    rw [List.any_eq_true,List.mem_map]
    constructor
    · rintro ⟨q,h,e⟩;exact ⟨q,h,of_decide_eq_true e⟩
    · rintro ⟨q,h,e⟩;exact ⟨q,h,decide_eq_true e⟩
  · unfold jo
    classical
    rw [Bool.eq_iff_iff]
    show _↔decide (bj v.2 p.toNat)=true
    rw [decide_eq_true_eq,fE hv p0,Bool.not_eq_true',List.any_eq_false]
    constructor
    · intro h t ht hR
      refine h (gq (fwd v.2 p) t.2 t.1) (List.mem_map.mpr ⟨t,List.mem_filter.mpr ⟨ht,rfl⟩,rfl⟩) ?_
      unfold gq;exact decide_eq_true hR
    · intro h b hb
      obtain ⟨t,ht,rfl⟩:=List.mem_map.mp hb
      unfold gq
      have:=h t (List.mem_filter.mp ht).1
      simpa using this
end
theorem iY {α β:Type}{P:α→List β→Prop}(hp:∀x ys,P x ys→ys=[]):∀{xs:List α} {yss:List (List β)},PySem.Paired P xs yss→yss=List.replicate xs.length []
  | _,_,.nil=>rfl
  | _,_,.cons h t=>by rw [List.length_cons,List.replicate_succ,iY hp t,hp _ _ h]
noncomputable def fi (v:av)(p:Int)(i:Nat)(q:Int):List Int:=(ups 0 i).filter fun k=>decide (((rowOf v k).1,(rowOf v k).2.1)=(p,q))
theorem gO (i:Nat):ups 0 (i + 1)=ups 0 i++[(i:Int)]:=by
  unfold ups
  rw [List.range_succ,List.map_append]
  simp
theorem jO (v:av)(p:Int)(i:Nat)(q:Int):fi v p (i + 1) q=fi v p i q++(if (rowOf v (i:Int)).1=p∧(rowOf v (i:Int)).2.1=q then [(i:Int)] else []):=by
  unfold fi
  rw [gO,List.filter_append]
  congr 1
  by_cases h:(rowOf v (i:Int)).1=p∧(rowOf v (i:Int)).2.1=q
  · rw [if_pos h,List.filter_cons_of_pos (by simp [h.1,h.2])];rfl
  · rw [if_neg h,List.filter_cons_of_neg (by simp;exact fun a b=>h ⟨a,b⟩)];rfl
noncomputable def eA (v:av)(p:Int)(n i:Nat):List (List Int):=(ups 0 n).map (fi v p i)
noncomputable def dy (v:av)(p:Int):List (List Int):=(ups 0 (v.1.getD p.toNat 0).toNat).map (fromF v p)
theorem fF (v:av)(p:Int)(n i:Nat):(eA v p n i).length=n:=by unfold eA;rw [List.length_map,az]
theorem eI {n j:Nat}(h:j < n):(ups 0 n)[j]?=some (j:Int):=by unfold ups;rw [List.getElem?_map,List.getElem?_range h];simp
theorem kC {v:av}{p:Int}{n i j:Nat}(h:j < n):(eA v p n i)[j]?=some (fi v p i (j:Int)):=by unfold eA;rw [List.getElem?_map,eI h];rfl
theorem qO {v:av}{p:Int}{n i:Nat}(h:(rowOf v (i:Int)).1≠p):eA v p n (i + 1)=eA v p n i:=by
  unfold eA
  refine List.map_congr_left fun q hq=>?_
  rw [jO,if_neg (fun z=>h z.1),List.append_nil]
theorem sQ {v:av}{p:Int}{n i:Nat}(h:(rowOf v (i:Int)).1=p)(s0:0≤(rowOf v (i:Int)).2.1)(s1:(rowOf v (i:Int)).2.1 < (n:Int)):(eA v p n i).set (rowOf v (i:Int)).2.1.toNat (fi v p i (rowOf v (i:Int)).2.1++[(i:Int)])=eA v p n (i + 1):=by
  apply List.ext_getElem?
  intro j
  by_cases hj:j < n
  · rw [kC hj,jO]
    by_cases e:(rowOf v (i:Int)).2.1.toNat=j
    · subst e
      rw [List.getElem?_set_self (by rw [fF];exact hj),if_pos ⟨h,by omega⟩]
      rw [show (((rowOf v (i:Int)).2.1.toNat:Nat):Int)=(rowOf v (i:Int)).2.1 by omega]
    · rw [List.getElem?_set_ne e,kC hj,if_neg (fun z=>e (by have:=z.2;omega)),List.append_nil]
  · rw [List.getElem?_eq_none (by rw [List.length_set,fF];omega),List.getElem?_eq_none (by rw [fF];omega)]
theorem lD (v:av)(p:Int)(i:Nat)(q:Int):(fi v p i q).length≤i:=by
  unfold fi
  refine Nat.le_trans (List.length_filter_le _ _) ?_
  rw [az];exact Nat.le_refl _
section
variable {P:Program}{w:World}{K:PySem.W.Frag}{mg:Str→Option Value}{base:Heap}{f:Addr}{fd:FuncData}
noncomputable abbrev pY:Stmt:=top jN
noncomputable abbrev AN:List Str:=["web","part","leaving","number","row"]
theorem xQ:aE AN ["web","part"] (ah pY):=⟨rfl,rfl,rfl,by decide +kernel,rfl,by decide +kernel,by decide +kernel⟩
noncomputable def uD (fr:Bool):bS:=fun K ps T=>∃(v:av) (p:Int),ps=[⟨cg,v⟩,⟨ab,p⟩]∧aV v∧0≤p∧p < (v.1.length:Int)∧T=if fr=true then hU K (af ab) (· =dy v p) else Ay K ab (· =dy v p)
theorem yU (fr:Bool)(M:bX mg)(F:bL K "rows_leaving" "rows_leaving" pY f fd)(hm:mg "rows_leaving"=some (.ref f))(hb:Binds K fd ["web","part"] []):aA P w K mg base "rows_leaving" 1 (aG (uD fr) K):=by
  have nd:=xQ.nd
  have ndc:List.Nodup [("place":Str)]:=by decide
  refine bJ F xQ hm hb (fun qs T ⟨_,_,e,_⟩=>by rw [e];rfl) (fun cdv A outer s H E qs T hr hS=>?_)
  obtain ⟨v,p,rfl,hv,p0,p1,rfl⟩:=hS
  have pl:=hv.pl
  have rl:=hv.rl
  have hn:cI v.1 p=some (v.1.getD p.toNat 0):=cj p0 p1
  have nb:=hv.sz (v.1.getD p.toNat 0) (by rw [List.getD_eq_getElem?_getD,List.getElem?_eq_getElem (by omega)];exact List.getElem_mem _)
  generalize hN:v.1.getD p.toNat 0=n at hn nb
  change WS _ _ [.im (aF (af ab) (af aI)) v,.im ab p,.no,.no,.no] _ _
  refine ai (vf 2 (own:=["place"]) (fr:=[]) (ix:=[]) (ra:=ab) (rb:=ab) (P:=fun _ ys=>ys=[]) (aJ (so:=ah pY) (N0:=AN) rfl rfl (fun x h=>aC h) (by decide +kernel)) (cR M.range (aQ (cY (aa 0 rfl)) (aa 1 rfl) hn) ⟨by omega,by omega⟩)
    (fun C s H ex=>aB 0) (fun x=>⟨.inr rfl,trivial⟩) (fun x=>⟨trivial,trivial⟩) (fun C s H ex x hx=>bb.evr (bh bF (by decide)) rfl) fun a bs yss pq _=>?_)
  have ey:=iY (fun _ _ h=>h) pq
  rw [az] at ey
  have e0:List.replicate n.toNat ([]:List Int)=eA v p n.toNat 0:=by
    unfold eA fi
    apply List.ext_getElem?
    intro j
    rw [List.getElem?_replicate,List.getElem?_map]
    by_cases hj:j < n.toNat
    · rw [if_pos hj,eI hj];rfl
    · rw [if_neg hj,List.getElem?_eq_none (by rw [az];omega)];rfl
  rw [e0] at ey
  subst ey
  refine ai (cZ (r:=aF ab aI) (fun i Γ=>∃v3 v4,Γ=[.im (aF (af ab) (af aI)) v,.im ab p,.ob (jI ab a bs (eA v p n.toNat i)),v3,v4])
    (kB M.enumerate (bc (aa 0 rfl))) (gH 3 4) ⟨_,_,rfl⟩ ?_ ?_)
  · rintro i x Γ hx ⟨v3,v4,rfl⟩
    obtain ⟨e1,e2⟩:=iK hx
    have il:=(List.getElem?_eq_some_iff.mp e2).1
    have er:rowOf v i=x.2:=by unfold rowOf;rw [List.getD_eq_getElem?_getD,show ((i:Int)).toNat=i by omega,e2];rfl
    refine ar (bY (bD dA (dW (aa 4 rfl)) (aa 1 rfl)) (fun h=>?_) (fun h=>bB ?_))
    · have h:x.2.1=p:=of_decide_eq_true h
      have rp:=hv.cV (List.mem_of_getElem? e2)
      have q0:=rp.s0
      have q1:=rp.sn
      rw [h,hN] at q1
      have len:=fF v p n.toNat i
      refine ar (pA 2 (c9 (aa 4 rfl)) (aa 3 rfl) rfl (eX q0 (by omega)) (kC (j:=x.2.2.1.toNat) (by omega)) (Nat.lt_of_le_of_lt (Nat.le_trans (lD v p i _) (show i≤100 by omega)) (by decide)) ?_)
      refine ⟨.im ab x.1,.im aI x.2,?_⟩
      have:=sQ (v:=v) (p:=p) (n:=n.toNat) (i:=i) (by rw [er];exact h) (by rw [er];exact q0) (by rw [er];omega)
      rw [er] at this
      rw [e1,show ((x.2.2.1.toNat:Nat):Int)=x.2.2.1 by omega,this]
      rfl
    · have h:x.2.1≠p:=of_decide_eq_false h
      refine ⟨.im ab x.1,.im aI x.2,?_⟩
      rw [qO (by rw [er];exact h)]
      rfl
  · rintro Γ ⟨v3,v4,rfl⟩
    rw [eO]
    have e:eA v p n.toNat v.2.length=dy v p:=by unfold dy;rw [hN];rfl
    rw [e]
    have ll:(dy v p).length≤16:=by rw [← e,fF];omega
    cases fr with
    | false=>exact ar (xm 2 rfl rfl)
    | true=>
      refine ar (uQ 2 rfl (bo (by omega)) (fun xs hx=>?_) rfl)
      rw [← e] at hx
      obtain ⟨q,_,rfl⟩:=List.mem_map.mp hx
      exact bo (Nat.le_trans (lD v p _ q) (by omega))
end
end K1
namespace Fc
open PySem PySem.Spec L2
open PyProof.Rows hiding St
section
variable {X:Cx}{Γ Γ1 Γ2 Γ3:Ga}{α β γ δ:Type}{N:Ga→Prop}{T:RT}
theorem pv {x:Str}{pos:Pos}{n:Int}{t:Tok}(hm:X.mg x=some (.int n t))(hg:autoParam (Gl X x) Fc.ag)(hd:autoParam ((x==("__debug__":Str))=false) Fc.aw):lR X (.Name x pos) Γ n:=fun σ H0 R0 H R E H' Q q=>eS (nQ (v:=.int n) hg hm ⟨t,rfl⟩ hd) q
theorem oG {S:bS}{x:Str}{k:Nat}{e:Expr}{es:List Expr}{p p2 pos:Pos}{ps:List Pk}{r:Rep α}{Pd Pd':List α→Prop}(C:aA X.prog X.w X.K X.mg X.base x k (aG S X.K))(hr:bN k X.A)(ha:HA X (e::es) Γ ps Γ1)(hS:S X.K ps (hU X.K r Pd))(h:∀z,Pd z→Pd' z)
    (hg:autoParam (Gl X x) Fc.ag) (hdb:autoParam ((x==("__debug__":Str))=false) Fc.aw) (he:autoParam (starEach (e::es) X.env=(false,eval e X.env)::starEach es X.env) Fc.ag) (hpl:autoParam ((backTo p2 (starEach es X.env)).any (·.1)=false) Fc.ag):
    W1 X (.Return (some (.Call (.Name x p) (e::es) [] p2)) pos) Γ N (hU X.K r Pd'):=fun σ H0 R0 H R E D dn dr=>
  sS (dB aH) (c5 C hr ha hS E (fun H1 R1 v H' R' E1 s1 xx t=>by
    obtain ⟨a,vs,ys,rfl,h0,h1,h2,p,z,hP⟩:=t
    exact dr _ H' R' ((E1.grow xx).ext) ⟨a,vs,ys,rfl,E1.ext.h.free h0,h1,h2,p,z,h ys hP⟩) hg hdb he hpl)
end
end Fc
namespace K1
open PySem L2 Fc
open PySem.Spec hiding Row
open PyProof.Rows hiding St
open PySem.Builtin.Int (intBits)
theorem zV {v:av}(hv:aV v){p:Int}(p0:0≤p)(p1:p < (v.1.length:Int))(hR:bj v.2 p.toNat):∃g,cu v p g:=by
  have hs:=hv.sz (v.1.getD p.toNat 0) (by rw [List.getD_eq_getElem?_getD,List.getElem?_eq_getElem (by omega)];exact List.getElem_mem _)
  have o0:df v p [(1,1)]:=⟨rfl,by simp,fun q hq=>by (have:q=1:=by simpa using hq);omega,fun q hq qn=>absurd (show q=1 by simpa using hq) qn⟩
  have go:∀(m:Nat) (F:List (Int×Int)),df v p F→m=(v.1.getD p.toNat 0 - (F.length:Int)).toNat→∃g,cu v p g:=by
    intro m
    induction m with
    | zero=>exact fun F h e=>⟨_,h.eq (by omega)⟩
    | succ m ih=>
      intro F h e
      obtain ⟨q,q0,q1,qn,qg⟩:=h.next hv p0 hR (by omega)
      exact ih _ (h.add qn q0 q1 qg) (by rw [List.length_append,List.length_singleton];omega)
  exact go _ _ o0 rfl
open Classical in
noncomputable def onG (v:av)(p:Int):Int→Int:=if h:∃g,cu v p g then Classical.choose h else fun _=>0
theorem cw {v:av}(hv:aV v){p:Int}(p0:0≤p)(p1:p < (v.1.length:Int))(hR:bj v.2 p.toNat):cu v p (onG v p):=by
  have h:=zV hv p0 p1 hR
  unfold onG
  rw [dif_pos h]
  exact Classical.choose_spec h
theorem df.get {v:av}(hv:aV v){p:Int}(p0:0≤p)(p1:p < (v.1.length:Int))(hR:bj v.2 p.toNat){F:List (Int×Int)}(h1:df v p F)(h2:v.1.getD p.toNat 0≤(F.length:Int)){q:Int}(q0:0≤q)(q1:q < v.1.getD p.toNat 0):bq F q=some (onG v p q):=by
  have e:=(h1.eq h2).uniq hv p0 hR (cw hv p0 p1 hR) q q0 q1
  have:=dE.mpr (h1.all h2 q q0 q1)
  unfold gF at e
  cases e2:bq F q with
  | none=>rw [e2] at this;cases this
  | some y=>rw [e2] at e;exact congrArg some e
theorem ez {v:av}{p:Int}:(dy v p).length=(v.1.getD p.toNat 0).toNat:=by unfold dy;rw [List.length_map,az]
theorem rh {v:av}{p:Int}{i:Nat}{x:List Int}(h:(dy v p)[i]?=some x):i < (v.1.getD p.toNat 0).toNat∧x=fromF v p (i:Int):=by
  have il:=(List.getElem?_eq_some_iff.mp h).1
  rw [ez] at il
  unfold dy at h
  rw [List.getElem?_map,eI il] at h
  exact ⟨il,(Option.some.inj h).symm⟩
section
variable {P:Program}{w:World}{K:PySem.W.Frag}{mg:Str→Option Value}{base:Heap}{f:Addr}{fd:FuncData}
noncomputable abbrev uE:Stmt:=top lK
theorem yE:aE ["web","part"] ["web","part"] (ah uE):=⟨rfl,rfl,rfl,by decide +kernel,rfl,by decide +kernel,by decide +kernel⟩
noncomputable def rD:bS:=fun K ps T=>∃(v:av) (p:Int),ps=[⟨cg,v⟩,⟨ab,p⟩]∧aV v∧0≤p∧p < (v.1.length:Int)∧bj v.2 p.toNat∧T=bP K kD (fun _=>True)
theorem yX (CI:aA P w K mg base "is_loose" 8 (aG Am K))(F:bL K "need_loose" "need_loose" uE f fd)(hm:mg "need_loose"=some (.ref f))(hb:Binds K fd ["web","part"] []):aA P w K mg base "need_loose" 9 (aG rD K):=by
  have nd:=yE.nd
  refine nk F yE hm hb (fun qs T ⟨_,_,e,_⟩=>by rw [e];rfl) (fun cdv A outer s H E qs T hr hS=>?_)
  obtain ⟨v,p,rfl,hv,p0,p1,hR,rfl⟩:=hS
  refine ⟨fun _ _ _=>⟨(),rfl,trivial⟩,?_⟩
  change WS _ _ [.im cg v,.im ab p] _ _
  refine ar (bY (bZ (bR (aP CI hr (ae (aa 0 rfl) (ae (aa 1 rfl) ao)) ⟨v,p,rfl,hv,p0,p1,rfl⟩))) (fun h=>?_) (fun h=>bB trivial))
  have:jo v p=true:=by
    unfold jo
    classical
    exact decide_eq_true hR
  rw [this] at h
  exact absurd h (by decide)
noncomputable abbrev lr:Stmt:=top oQ
noncomputable abbrev uC:List Str:=["web","part","leaving","known","place","numbers","following"]
theorem w8:aE uC ["web","part"] (ah lr):=⟨rfl,rfl,rfl,by decide +kernel,rfl,by decide +kernel,by decide +kernel⟩
theorem y9    (M:bX mg)(CL:aA P w K mg base "rows_leaving" 1 (aG (uD true) K))(F:bL K "ways_on" "ways_on" lr f fd)(hm:mg "ways_on"=some (.ref f))(hb:Binds K fd ["web","part"] []):aA P w K mg base "ways_on" 2 (aG nU K):=by
  have nd:=w8.nd
  have nd1:List.Nodup [("number":Str),"web"]:=by decide
  have nd2:List.Nodup [("to":Str),"known"]:=by decide
  obtain ⟨t2,hEND⟩:=M.end_
  refine bJ F w8 hm hb (fun qs T ⟨_,_,e,_⟩=>by rw [e];rfl) (fun cdv A outer s H E qs T hr hS=>?_)
  obtain ⟨v,p,rfl,hv,p0,p1,hR,rfl⟩:=hS
  have hu:(A.deeper (envOfC "ways_on" (ah lr) s.heap.objs.size f cdv)).units + 1 < cLine:=Nat.lt_of_le_of_lt (Nat.add_le_add_left (by decide:1≤64) _) hr.units
  have pl:=hv.pl
  have rl:=hv.rl
  have hs:=hv.sz (v.1.getD p.toNat 0) (by rw [List.getD_eq_getElem?_getD,List.getElem?_eq_getElem (by omega)];exact List.getElem_mem _)
  have ll:=ez (v:=v) (p:=p)
  change WS _ _ [.im (aF (af ab) (af aI)) v,.im ab p,.no,.no,.no,.no,.no] _ _
  refine ai (aZ 2 (bb.im (fQ CL hr (ae (aa 0 rfl) (ae (aa 1 rfl) ao)) ⟨v,p,rfl,hv,p0,p1,rfl⟩)) ?_)
  refine ai (iI 3 (pv hEND) dm ?_)
  have o0:df v p [(1,1)]:=⟨rfl,by simp,fun q hq=>by (have:q=1:=by simpa using hq);omega,fun q hq qn=>absurd (show q=1 by simpa using hq) qn⟩
  refine ai (gr (fun m Γ=>∃F v4 v5 v6,Γ=[.im (aF (af ab) (af aI)) v,.im ab p,.im (af (af ab)) (dy v p),.di (cC F),v4,v5,v6]∧df v p F∧m=(v.1.getD p.toNat 0 - (F.length:Int)).toNat) ⟨[(1,1)],_,_,_,rfl,o0,rfl⟩ ?_)
  rintro m Γ ⟨F,v4,v5,v6,rfl,hO,rfl⟩
  have hle:=hO.le (by omega)
  refine ⟨_,_,TV.frz (eP (i:=3) rfl) (bD dM (jk M.len (aa 3 rfl)) (cN M.len (aa 2 rfl))),fun h=>?_,fun h=>?_⟩
  · have h : (F.length:Int) < v.1.getD p.toNat 0:=by have:=of_decide_eq_true h;omega
    obtain ⟨qs,s0,s1,sn,sg⟩:=hO.next hv p0 hR h
    refine ar (cZ (r:=aF ab (af ab)) (fun i Γ=>∃G v4 v5 v6,Γ=[.im (aF (af ab) (af aI)) v,.im ab p,.im (af (af ab)) (dy v p),.di (cC G),v4,v5,v6]∧df v p G∧(∀z∈F.map (·.1),z∈G.map (·.1))∧F.length≤G.length∧(qs < (i:Int)→F.length < G.length))
      (kB M.enumerate (aa 2 rfl)) (gH 4 5) ⟨F,_,_,_,rfl,hO,fun z hz=>hz,Nat.le_refl _,fun e=>by omega⟩ ?_ ?_)
    · rintro i x Γ hx ⟨G,v4,v5,v6,rfl,hG,hsub,hfl,hq1⟩
      obtain ⟨e1,e2⟩:=iK hx
      obtain ⟨il,e3⟩:=rh e2
      obtain ⟨q,ns⟩:=x
      have e1:q=(i:Int):=e1
      have e3:ns=fromF v p (i:Int):=e3
      rw [← e1] at e3
      subst e3
      have hid:((((fromF v p q).filter fun _=>true).map fun k=>(rowOf v k).2.2.1))=goal v p q:=by rw [List.filter_eq_self.mpr (by simp)];rfl
      have hk:∀k∈fromF v p q,cI v.2 k=some (rowOf v k):=fun k hk=>bV bI (bC hk).1 (bC hk).2.1
      change WS _ _ [.im (aF (af ab) (af aI)) v,.im ab p,.im (af (af ab)) (dy v p),.di (cC G),.im ab q,.im (af ab) (fromF v p q),v6] _ _
      refine ai (gp 6 (own:=["number"]) (fr:=["web"]) (ix:=[0]) (ra:=ab) (rb:=ab) (p:=fun _=>true) (f:=fun k=>(rowOf v k).2.2.1) (aJ (so:=ah lr) (N0:=uC) rfl rfl (fun x h=>aC h) (by decide +kernel)) (aN (aa 5 rfl))
        (fun C s H ex=>aB 0) (fun x=>⟨.inr rfl,.inl rfl,trivial⟩) (fun C s H ex x hx=>br) (fun C s H ex x hx _=>cS (aQ (bc (aa 1 rfl)) (aa 0 rfl) (hk x hx))) ?_)
      rw [hid]
      have gl:(goal v p q).length≤60:=by
        unfold goal fromF
        rw [List.length_map]
        refine Nat.le_trans (List.length_filter_le _ _) ?_
        rw [az];omega
      refine WS.freeze 6 rfl (bo (by omega)) ?_
      change WS _ _ [.im (aF (af ab) (af aI)) v,.im ab p,.im (af (af ab)) (dy v p),.di (cC G),.im ab q,.im (af ab) (fromF v p q),.im (af ab) (goal v p q)] _ _
      have mem:∀z,(bq G z).isSome=true↔z∈G.map (·.1):=fun z=>dE
      have hglen:=hG.le (by omega)
      refine ar (bY (TW.tv (iF (iG 3 true hu (aa 4 rfl) rfl) (fun _=>iO (TV.frz (eP (i:=3) rfl) (bR (dC M.all (bb.im (aU (own:=["to"]) (fr:=["known"]) (ix:=[3]) (ra:=ab) (rb:=aK) (p:=fun _=>true) (f:=fun z=>(bq G z).isSome) (aJ (so:=ah lr) (N0:=uC) rfl rfl (fun x h=>aC h) (by decide +kernel)) (aN (aa 6 rfl))
        (fun C s H ex=>aB 0) (fun x=>⟨.inr rfl,.inl rfl,trivial⟩) (fun C s H ex x hx=>br) (fun C s H ex x hx _=>kO hu (aa 0 rfl) (aa 1 rfl)))))))))) (fun h=>?_) (fun h=>bB ?_))
      · obtain ⟨h1,h2⟩:=Bool.and_eq_true_iff.mp h
        have h1:q∉G.map (·.1):=fun w=>by
          have:=(mem q).mpr w
          rw [← eB] at this
          simp [this] at h1
        have h2:∀z∈goal v p q,z∈G.map (·.1):=fun z hz=>by
          rw [List.all_eq_true] at h2
          exact (mem z).mp (h2 _ (List.mem_map.mpr ⟨z,List.mem_filter.mpr ⟨hz,rfl⟩,rfl⟩))
        have hg2:∀z∈goal v p q,bq G z=some (gF G z):=fun z hz=>by
          have:=(mem z).mpr (h2 z hz)
          unfold gF
          cases e:bq G z with
          | none=>rw [e] at this;cases this
          | some y=>rfl
        have hid2:(((goal v p q).filter fun _=>true).map fun z=>gF G z).sum=((goal v p q).map (gF G)).sum:=by rw [List.filter_eq_self.mpr (by simp)]
        refine ar (lX 3 hu (aa 4 rfl) (EV.frz (eP (i:=3) rfl) (fun _ _ _ _ _ h=>h) (EV.cast (jR M.sum (bb.im (aU (own:=["to"]) (fr:=["known"]) (ix:=[3]) (ra:=ab) (rb:=ab) (p:=fun _=>true) (f:=fun z=>gF G z) (aJ (so:=ah lr) (N0:=uC) rfl rfl (fun x h=>aC h) (by decide +kernel)) (aN (aa 6 rfl))
          (fun C s H ex=>aB 0) (fun x=>⟨.inr rfl,.inl rfl,trivial⟩) (fun C s H ex x hx=>br) (fun C s H ex x hx _=>ir hu (aa 1 rfl) (aa 0 rfl) (hg2 x hx))))) hid2)) rfl (Nat.lt_of_le_of_lt (show G.length≤1000 by omega) (by decide)) ?_)
        have ep:e9 G q ((goal v p q).map (gF G)).sum=G++[(q,((goal v p q).map (gF G)).sum)]:=by
          unfold e9
          rw [if_neg (fun e=>h1 ((mem q).mp e))]
        refine ⟨G++[(q,((goal v p q).map (gF G)).sum)],_,_,_,by rw [ep];rfl,hG.add h1 (by omega) (by omega) h2,fun z hz=>?_,by rw [List.length_append];omega,fun _=>by rw [List.length_append];simp;omega⟩
        rw [List.map_append];exact List.mem_append_left _ (hsub z hz)
      · refine ⟨G,_,_,_,rfl,hG,hsub,hfl,fun hlt=>?_⟩
        by_cases e:qs < (i:Int)
        · exact hq1 e
        · have eqq:q=qs:=by omega
          subst eqq
          have hin:q∈G.map (·.1):=Classical.byContradiction fun no=>by
            have a1:(if true=true then !dN (cC G) q else dN (cC G) q)=true:=by
              rw [if_pos rfl,eB]
              cases e2:(bq G q).isSome with
              | false=>rfl
              | true=>exact absurd ((mem q).mp e2) no
            have a2:((((goal v p q).filter fun _=>true).map fun z=>(bq G z).isSome).all id)=true:=by
              rw [List.all_eq_true]
              intro y hy
              obtain ⟨z,hz,rfl⟩:=List.mem_map.mp hy
              exact (mem z).mpr (hsub z (sg z (List.mem_filter.mp hz).1))
            rw [a1,a2] at h
            exact absurd h (by decide)
          have:=cE (q::F.map (·.1)) (G.map (·.1)) (List.nodup_cons.mpr ⟨sn,hO.nd⟩) fun x hx=>by
            rcases List.mem_cons.mp hx with rfl | hx
            · exact hin
            · exact hsub x hx
          rw [List.length_cons,List.length_map,List.length_map] at this
          omega
    · rintro Γ ⟨G,v4,v5,v6,rfl,hG,_,_,hq1⟩
      rw [eO,ez] at hq1
      have:=hq1 (by omega)
      have:=hG.le (by omega)
      exact ⟨_,by omega,G,_,_,_,rfl,hG,rfl⟩
  · have h:¬(F.length:Int) < v.1.getD p.toNat 0:=by have:=of_decide_eq_false h;omega
    exact ar (nX 3 rfl ⟨hO,by omega⟩)
noncomputable abbrev pU:Stmt:=top nq
noncomputable abbrev nWI:List Str:=["web","part","known","told","numbers","total","number"]
theorem xy:aE nWI ["web","part"] (ah pU):=⟨rfl,rfl,rfl,by decide +kernel,rfl,by decide +kernel,by decide +kernel⟩
theorem zy    (M:bX mg)(CN:aA P w K mg base "ways_on" 2 (aG nU K))(CL:aA P w K mg base "rows_leaving" 1 (aG (uD true) K))(F:bL K "worths_in" "worths_in" pU f fd)(hm:mg "worths_in"=some (.ref f))(hb:Binds K fd ["web","part"] []):aA P w K mg base "worths_in" 3 (aG om K):=by
  have nd:=xy.nd
  have CN:=CN.mono (show 2≤2 by decide)
  have CL:=CL.mono (show 1≤2 by decide)
  refine bJ F xy hm hb (fun qs T ⟨_,_,e,_⟩=>by rw [e];rfl) (fun cdv A outer s H E qs T hr hS=>?_)
  obtain ⟨v,p,rfl,hv,p0,p1,hR,rfl⟩:=hS
  have hu:(A.deeper (envOfC "worths_in" (ah pU) s.heap.objs.size f cdv)).units + 1 < cLine:=Nat.lt_of_le_of_lt (Nat.add_le_add_left (by decide:1≤64) _) hr.units
  have pl:=hv.pl
  have rl:=hv.rl
  have hs:=hv.sz (v.1.getD p.toNat 0) (by rw [List.getD_eq_getElem?_getD,List.getElem?_eq_getElem (by omega)];exact List.getElem_mem _)
  have ll:=ez (v:=v) (p:=p)
  change WS _ _ [.im (aF (af ab) (af aI)) v,.im ab p,.no,.no,.no,.no,.no] _ _
  refine ai (kQ 2 CN hr (ae (aa 0 rfl) (ae (aa 1 rfl) ao)) ⟨v,p,rfl,hv,p0,p1,hR,rfl⟩ ?_)
  rintro D ⟨hD,hDl⟩
  have hE:=cw hv p0 p1 hR
  have hget:∀z,0≤z→z < v.1.getD p.toNat 0→bq D z=some (onG v p z):=fun z z0 z1=>df.get hv p0 p1 hR hD hDl z0 z1
  generalize onG v p=g at hE hget
  refine ai (dq 3 (r:=ab) (vF (bb.im (bh (aO au bF) (by show 1≤sizeLine;decide))) (cN M.len (bc (aa 0 rfl))) (by omega) (by omega) (bo (by simp;omega))) ?_)
  rw [rep0,show ((v.2.length:Int)).toNat=v.2.length by omega]
  have rp:∀k,0≤k→k < (v.2.length:Int)→tH v.1 (rowOf v k):=fun k k0 k1=>hv.cV (by unfold rowOf;rw [List.getD_eq_getElem?_getD,List.getElem?_eq_getElem (by omega)];exact List.getElem_mem _)
  have w0:oX v p g 0 0 0 (List.replicate v.2.length 0):=by
    refine ⟨List.length_replicate,fun k k0 k1=>?_⟩
    rw [List.getD_eq_getElem?_getD,List.getElem?_replicate,if_pos (by omega),if_neg]
    · rfl
    · rintro ⟨_,z | ⟨_,z⟩⟩
      · have:=(rp k k0 k1).s0;omega
      · simp at z
  refine ai (cZ (r:=af ab) (fun i Γ=>∃xs v4 v5 v6,Γ=[.im (aF (af ab) (af aI)) v,.im ab p,.im ip D,.mu ab xs,v4,v5,v6]∧oX v p g (i:Int) 0 0 xs)
    (aN (bb.im (fQ CL hr (ae (aa 0 rfl) (ae (aa 1 rfl) ao)) ⟨v,p,rfl,hv,p0,p1,rfl⟩))) (aB 4) ⟨_,_,_,_,rfl,w0⟩ ?_ ?_)
  · rintro i ns Γ hq ⟨xs,v4,v5,v6,rfl,hW⟩
    obtain ⟨hi,rfl⟩:=rh hq
    refine ai (aZ 5 au ?_)
    refine ar (cZ (r:=ab) (fun j Γ=>∃xs v6,Γ=[.im (aF (af ab) (af aI)) v,.im ab p,.im ip D,.mu ab xs,.im (af ab) (fromF v p (i:Int)),.im ab ((((fromF v p (i:Int)).take j).map fun k=>g (bA v k)).sum),v6]∧oX v p g (i:Int) (i:Int) j xs)
      (aN (aa 4 rfl)) (aB 6) ⟨xs,_,rfl,⟨hW.len,fun k k0 k1=>by rw [hW.val k k0 k1];simp⟩⟩ ?_ ?_)
    · rintro j k Γ hk ⟨xs,v6,rfl,hW⟩
      have km:=List.mem_of_getElem? hk
      obtain ⟨k0,k1,kp,kq,kr⟩:=bC km
      have hl:=hW.len
      have tk:(fromF v p (i:Int)).take (j + 1)=(fromF v p (i:Int)).take j++[k]:=by rw [List.take_succ,hk];rfl
      refine ai (nW 3 (aa 5 rfl) (aa 6 rfl) rfl rfl (eX k0 (by omega)) ?_)
      have q:=hv.cV kr
      have e0:=q.e0;have en:=q.en
      rw [kp] at en
      refine ar (wQ 5 (ir hu (aa 2 rfl) (cS (aQ (bc (aa 0 rfl)) (aa 6 rfl) (bV bI k0 k1))) (hget _ e0 en)) rfl ?_)
      have es:(((fromF v p (i:Int)).take (j + 1)).map fun k=>g (bA v k)).sum=(((fromF v p (i:Int)).take j).map fun k=>g (bA v k)).sum + g (rowOf v k).2.2.1:=by rw [tk,List.map_append,List.sum_append];simp [bA]
      refine ⟨xs.set k.toNat ((((fromF v p (i:Int)).take j).map fun k=>g (bA v k)).sum),.im ab k,by rw [es];rfl,by rw [List.length_set];exact hl,fun m m0 m1=>?_⟩
      by_cases e:m=k
      · subst e
        have hw:aT v p g m=(((fromF v p (i:Int)).take j).map fun k=>g (bA v k)).sum:=by
          unfold aT
          rw [if_pos kp,kq,before hk]
        rw [List.getD_eq_getElem?_getD,List.getElem?_set_self (by omega),if_pos ⟨kp,.inr ⟨kq,by rw [tk];simp⟩⟩,hw];rfl
      · have:(xs.set k.toNat ((((fromF v p (i:Int)).take j).map fun k=>g (bA v k)).sum)).getD m.toNat 0=xs.getD m.toNat 0:=by
          rw [List.getD_eq_getElem?_getD,List.getElem?_set_ne (by omega),← List.getD_eq_getElem?_getD]
        rw [this,hW.val m m0 m1,tk]
        have:m∈(fromF v p (i:Int)).take j++[k]↔m∈(fromF v p (i:Int)).take j:=by
          rw [List.mem_append,List.mem_singleton]
          exact ⟨fun z=>z.resolve_right e,.inl⟩
        simp only [this]
    · rintro Γ ⟨xs,v6,rfl,hW⟩
      refine ⟨xs,_,_,_,rfl,hW.len,fun k k0 k1=>?_⟩
      rw [hW.val k k0 k1,List.take_length]
      have hiff:((rowOf v k).1=p∧((rowOf v k).2.1 < (i:Int)∨((rowOf v k).2.1=(i:Int)∧k∈fromF v p (i:Int))))↔((rowOf v k).1=p∧((rowOf v k).2.1 < ((i + 1:Nat):Int)∨((rowOf v k).2.1=0∧k∈(fromF v p 0).take 0))):=by
        constructor
        · rintro ⟨a,b | ⟨b,_⟩⟩
          · exact ⟨a,.inl (by omega)⟩
          · exact ⟨a,.inl (by omega)⟩
        · rintro ⟨a,b | ⟨_,b⟩⟩
          · by_cases z:(rowOf v k).2.1 < (i:Int)
            · exact ⟨a,.inl z⟩
            · have e:(rowOf v k).2.1=(i:Int):=by omega
              refine ⟨a,.inr ⟨e,?_⟩⟩
              unfold fromF
              exact List.mem_filter.mpr ⟨aL.mpr ⟨k0,k1⟩,decide_eq_true (by rw [a,e])⟩
          · simp at b
      by_cases c:(rowOf v k).1=p∧((rowOf v k).2.1 < (i:Int)∨((rowOf v k).2.1=(i:Int)∧k∈fromF v p (i:Int)))
      · rw [if_pos c,if_pos (hiff.mp c)]
      · rw [if_neg c,if_neg (fun z=>c (hiff.mpr z))]
  · rintro Γ ⟨xs,v4,v5,v6,rfl,hW⟩
    rw [ez] at hW
    have hl:=hW.len
    refine ar (vb 3 rfl (bo (by omega)) ⟨g,hE,?_⟩)
    unfold bt
    refine List.ext_getElem? fun m=>?_
    by_cases hm:m < v.2.length
    · have hu:(ups 0 v.2.length)[m]?=some (m:Int):=eI hm
      have:=hW.val (m:Int) (by omega) (by omega)
      rw [show ((m:Int)).toNat=m by omega,List.getD_eq_getElem?_getD,List.getElem?_eq_getElem (by omega)] at this
      rw [List.getElem?_map,hu,List.getElem?_eq_getElem (by omega)]
      have this:xs[m]=_:=this
      rw [this]
      congr 1
      by_cases c:(rowOf v (m:Int)).1=p
      · have r:=rp (m:Int) (by omega) (by omega)
        have b:=r.sn
        rw [c] at b
        rw [if_pos ⟨c,.inl (by omega)⟩]
      · rw [if_neg (fun z=>c z.1)]
        unfold aT
        rw [if_neg c]
    · rw [List.getElem?_eq_none (by omega),List.getElem?_eq_none (by rw [List.length_map,az];omega)]
noncomputable abbrev rH:Stmt:=top qm
theorem o8:aE ["web","part"] ["web","part"] (ah rH):=⟨rfl,rfl,rfl,by decide +kernel,rfl,by decide +kernel,by decide +kernel⟩
theorem yN (CO:aA P w K mg base "need_loose" 9 (aG rD K))(CI:aA P w K mg base "worths_in" 3 (aG om K))(F:bL K "worths" "worths" rH f fd)(hm:mg "worths"=some (.ref f))(hb:Binds K fd ["web","part"] []):aA P w K mg base "worths" 10 (aG om K):=by
  have nd:=o8.nd
  have CI:=CI.mono (show 3≤9 by decide)
  refine bJ F o8 hm hb (fun qs T ⟨_,_,e,_⟩=>by rw [e];rfl) (fun cdv A outer s H E qs T hr hS=>?_)
  obtain ⟨v,p,rfl,hv,p0,p1,hR,rfl⟩:=hS
  change WS _ _ [.im (aF (af ab) (af aI)) v,.im ab p] _ _
  refine ai (fv CO hr (ae (aa 0 rfl) (ae (aa 1 rfl) ao)) ⟨v,p,rfl,hv,p0,p1,hR,rfl⟩ ?_)
  exact ar (oG CI hr (ae (aa 0 rfl) (ae (aa 1 rfl) ao)) ⟨v,p,rfl,hv,p0,p1,hR,rfl⟩ fun z h=>h)
end
section
variable {P:Program}{w:World}{K:PySem.W.Frag}{mg:Str→Option Value}{base:Heap}{f:Addr}{fd:FuncData}
end
end K1
namespace Fc
open PySem PySem.Spec L2
open PyProof.Rows hiding St
section
variable {prog:Program}{w:World}{A:Around}{E:Value→Shared→Prop}{s:Shared}
end
section
variable {X:Cx}{Γ Γ1 Γ2 Γ3:Ga}{α β γ δ:Type}{N:Ga→Prop}{T:RT}
end
end Fc
namespace K1
open PySem L2 Fc
open PySem.Spec hiding Row
open PyProof.Rows hiding St
open PySem.Builtin.Int (intBits)
theorem jV:∀(xs:List Int),(∀x∈xs,0≤x)→0≤xs.sum
  | [],_=>by simp
  | x::xs,h=>by
    rw [List.sum_cons]
    have:=h x List.mem_cons_self
    have:=jV xs fun y hy=>h y (List.mem_cons_of_mem _ hy)
    omega
theorem step_at (g:Nat→Int)(l:Int):∀n,g 0≤l→l < g n→∃i,i < n∧g i≤l∧l < g (i + 1)
  | 0,h0,h1=>by omega
  | n + 1,h0,h1=>by
    by_cases e:g n≤l
    · exact ⟨n,by omega,e,h1⟩
    · obtain ⟨i,h2,h3,h4⟩:=step_at g l n h0 (by omega)
      exact ⟨i,by omega,h3,h4⟩
theorem u7 {g:Nat→Int}{n:Nat}(h:∀i,i < n→g i≤g (i + 1)):∀{i j:Nat},i≤j→j≤n→g i≤g j:=by
  intro i j hij
  induction hij with
  | refl=>intro _;exact Int.le_refl _
  | step _ ih=>intro hj;exact Int.le_trans (ih (by omega)) (h _ (by omega))
theorem dS {v:av}(hv:aV v){p:Int}(p0:0≤p)(hR:bj v.2 p.toNat){r:Row}(hr:r∈v.2)(hp:r.1=p):cX (fwd v.2 p) r.2.2.1 < cX (fwd v.2 p) r.2.1:=by
  have ht:(r.2.1,r.2.2.1)∈fwd v.2 p:=dH.mpr ⟨r,hr,hp,rfl,rfl⟩
  have rp:=hv.cV hr
  have s0:=rp.s0;have sn:=rp.sn;have q1:=rp.p1;have q0:=rp.p0
  have sz:=hv.sz (v.1.getD r.1.toNat 0) (by rw [List.getD_eq_getElem?_getD,List.getElem?_eq_getElem (by omega)];exact List.getElem_mem _)
  exact n9 ht ((fE hv p0).mp hR _ ht) s0 (by omega)
theorem mO {v:av}(hv:aV v){p:Int}(p0:0≤p)(hR:bj v.2 p.toNat){g:Int→Int}(hE:cu v p g):∀(n:Nat) (q:Int),cX (fwd v.2 p) q < n→0≤q→q < v.1.getD p.toNat 0→0≤g q
  | 0,q,h,_,_=>by omega
  | n + 1,q,h,q0,q1=>by
    by_cases e:q=1
    · rw [e,hE.one];decide
    · rw [hE.step q q0 q1 e]
      refine jV _ fun y hy=>?_
      obtain ⟨z,hz,rfl⟩:=List.mem_map.mp hy
      obtain ⟨z0,z1,_,r,hr,r1,r2,r3⟩:=eF hv hz
      have:=dS hv p0 hR hr r1
      rw [r2,r3] at this
      exact mO hv p0 hR hE n z (by omega) z0 z1
theorem de {v:av}{p:Int}{g:Int→Int}{k:Int}(k0:0≤k)(k1:k < (v.2.length:Int)):(bt v p g).getD k.toNat 0=aT v p g k:=by
  unfold bt
  rw [List.getD_eq_getElem?_getD,List.getElem?_map]
  unfold ups
  rw [List.getElem?_map,List.getElem?_range (by omega)]
  simp only [Option.map_some,Option.getD_some]
  rw [show (0:Int) + (k.toNat:Int)=k by omega]
noncomputable def bM (v:av)(p:Int)(g:Int→Int)(left:Int)(k:Int):Bool:=decide ((bt v p g).getD k.toNat 0≤left)
theorem je {v:av}(hv:aV v){p:Int}(p0:0≤p)(hR:bj v.2 p.toNat){g:Int→Int}(hE:cu v p g){q left:Int}(q0:0≤q)(q1:q < v.1.getD p.toNat 0)(qn:q≠1)(l0:0≤left)(l1:left < g q):
    ∃k,k∈fromF v p q∧aT v p g k≤left∧left - aT v p g k < g (bA v k)∧k∈(fromF v p q).filter (bM v p g left)∧∀x∈(fromF v p q).filter (bM v p g left),x≤k:=by
  have hg:g q=((fromF v p q).map fun k=>g (bA v k)).sum:=by
    rw [hE.step q q0 q1 qn]
    unfold goal
    rw [List.map_map];rfl
  have gn:∀k∈fromF v p q,0≤g (bA v k):=fun k hk=>by
    obtain ⟨_,_,h1,h2,h3⟩:=bC hk
    have r:=hv.cV h3
    have a:=r.e0;have b:=r.en
    rw [h1] at b
    exact mO hv p0 hR hE _ _ (Nat.lt_succ_self _) a b
  have tk:∀(i:Nat) (k:Int),(fromF v p q)[i]?=some k→(((fromF v p q).take (i + 1)).map fun k=>g (bA v k)).sum=(((fromF v p q).take i).map fun k=>g (bA v k)).sum + g (bA v k):=fun i k hk=>by
    rw [List.take_succ,hk,List.map_append,List.sum_append];simp
  obtain ⟨j,hj,h1,h2⟩:=step_at (fun i=>(((fromF v p q).take i).map fun k=>g (bA v k)).sum) left (fromF v p q).length (by simpa using l0) (by rw [List.take_length,← hg];exact l1)
  have h1:(((fromF v p q).take j).map fun k=>g (bA v k)).sum≤left:=h1
  have h2:left < (((fromF v p q).take (j + 1)).map fun k=>g (bA v k)).sum:=h2
  obtain ⟨k,hk⟩:∃k,(fromF v p q)[j]?=some k:=⟨_,List.getElem?_eq_getElem hj⟩
  have wa:∀(i:Nat) (x:Int),(fromF v p q)[i]?=some x→aT v p g x=(((fromF v p q).take i).map fun k=>g (bA v k)).sum:=fun i x hx=>by
    obtain ⟨_,_,e1,e2,_⟩:=bC (List.mem_of_getElem? hx)
    unfold aT
    rw [if_pos e1,e2,before hx]
  have wf:∀(i:Nat) (x:Int),(fromF v p q)[i]?=some x→(bt v p g).getD x.toNat 0=(((fromF v p q).take i).map fun k=>g (bA v k)).sum:=fun i x hx=>by
    obtain ⟨e0,e1,_⟩:=bC (List.mem_of_getElem? hx)
    rw [de e0 e1,wa i x hx]
  have h3:=tk j k hk
  refine ⟨k,List.mem_of_getElem? hk,by rw [wa j k hk];exact h1,by rw [wa j k hk];omega,List.mem_filter.mpr ⟨List.mem_of_getElem? hk,?_⟩,fun x hx=>?_⟩
  · unfold bM
    rw [wf j k hk];exact decide_eq_true h1
  · obtain ⟨hx1,hx2⟩:=List.mem_filter.mp hx
    obtain ⟨i,hi⟩:=List.mem_iff_getElem?.mp hx1
    unfold bM at hx2
    have hx2:=of_decide_eq_true hx2
    rw [wf i x hi] at hx2
    have il:=(List.getElem?_eq_some_iff.mp hi).1
    have mono:∀m,m < (fromF v p q).length→(((fromF v p q).take m).map fun k=>g (bA v k)).sum≤(((fromF v p q).take (m + 1)).map fun k=>g (bA v k)).sum:=fun m hm=>by
      rw [tk m _ (List.getElem?_eq_getElem hm)]
      have:=gn _ (List.getElem_mem hm)
      omega
    have ij:i≤j:=Nat.le_of_not_lt fun z=>by
      have:=u7 (g:=fun i=>(((fromF v p q).take i).map fun k=>g (bA v k)).sum) mono (i:=j + 1) (j:=i) (by omega) (by omega)
      have this:(((fromF v p q).take (j + 1)).map fun k=>g (bA v k)).sum≤(((fromF v p q).take i).map fun k=>g (bA v k)).sum:=this
      omega
    have hp:=kU v p q
    rcases Nat.lt_or_ge i j with z | z
    · have a1:=List.getElem?_eq_some_iff.mp hi
      have a2:=List.getElem?_eq_some_iff.mp hk
      have:=List.pairwise_iff_getElem.mp hp i j a1.1 a2.1 z
      rw [a1.2,a2.2] at this
      omega
    · have:i=j:=by omega
      subst this
      rw [hk] at hi;cases hi;exact Int.le_refl _
theorem iC (es:List (Int×Int))(a:Int):cX es a≤16:=by
  unfold cX
  refine Nat.le_trans (List.length_filter_le _ _) ?_
  rw [az];exact Nat.le_refl _
noncomputable def wayF (v:av)(p:Int)(g:Int→Int):Nat→Int→Int→List Int
  | 0,_,_=>[]
  | m + 1,q,left=>if q=1 then [] else most ((fromF v p q).filter (bM v p g left))::wayF v p g m (bA v (most ((fromF v p q).filter (bM v p g left)))) (left - aT v p g (most ((fromF v p q).filter (bM v p g left))))
section
variable {P:Program}{w:World}{K:PySem.W.Frag}{mg:Str→Option Value}{base:Heap}{f:Addr}{fd:FuncData}{C:Addr}
noncomputable abbrev qP:Stmt:=top rP
noncomputable abbrev Ak:List Str:=["web","known","leaving","number","way","place","left","row"]
theorem yt:aE Ak ["web","known","leaving","number"] (ah qP):=⟨rfl,rfl,rfl,by decide +kernel,rfl,by decide +kernel,by decide +kernel⟩
noncomputable def AI:bS:=fun K ps T=>∃(v:av) (p:Int) (g:Int→Int) (n:Int),ps=[⟨cg,v⟩,⟨af ab,bt v p g⟩,⟨af (af ab),dy v p⟩,⟨ab,n⟩]∧aV v∧0≤p∧p < (v.1.length:Int)∧bj v.2 p.toNat∧cu v p g∧0≤n∧n < g 0∧T=bP K (af ab) (· =wayF v p g 17 0 n)
theorem zI (M:bX mg)(F:bL K "way_by" "way_by" qP f fd)(hm:mg "way_by"=some (.ref f))(hb:Binds K fd ["web","known","leaving","number"] []):aA P w K mg base "way_by" 1 (aG AI K):=by
  have nd:=yt.nd
  have nd1:List.Nodup [("choice":Str),"known","left"]:=by decide
  obtain ⟨t1,hB⟩:=M.begin_
  obtain ⟨t2,hEND⟩:=M.end_
  refine bJ F yt hm hb (fun qs T ⟨_,_,_,_,e,_⟩=>by rw [e];rfl) (fun cdv A outer s H E qs T hr hS=>?_)
  obtain ⟨v,p,g,n,rfl,hv,p0,p1,hR,hE,n0,n1,rfl⟩:=hS
  have rl:=hv.rl
  have hs:=hv.sz (v.1.getD p.toNat 0) (by rw [List.getD_eq_getElem?_getD,List.getElem?_eq_getElem (by omega)];exact List.getElem_mem _)
  have ll:=ez (v:=v) (p:=p)
  have wl:(bt v p g).length=v.2.length:=by unfold bt;rw [List.length_map,az]
  change WS _ _ [.im (aF (af ab) (af aI)) v,.im (af ab) (bt v p g),.im (af (af ab)) (dy v p),.im ab n,.no,.no,.no,.no] _ _
  refine ai (dq 4 (r:=ab) (bh bF (by decide)) ?_)
  refine ai (aZ 5 (cA hB) ?_)
  refine ai (aZ 6 (aa 3 rfl) ?_)
  refine ai (gr (fun m Γ=>∃way q left v7,Γ=[.im (aF (af ab) (af aI)) v,.im (af ab) (bt v p g),.im (af (af ab)) (dy v p),.im ab n,.mu ab way,.im ab q,.im ab left,v7]∧0≤q∧q < v.1.getD p.toNat 0∧0≤left∧left < g q∧m=cX (fwd v.2 p) q∧way.length + cX (fwd v.2 p) q≤16∧wayF v p g 17 0 n=way++wayF v p g (17 - way.length) q left) (m0:=cX (fwd v.2 p) 0) ⟨_,_,_,_,rfl,by decide,by omega,n0,n1,rfl,by have:=iC (fwd v.2 p) 0;simpa using this,rfl⟩ ?_)
  rintro m Γ ⟨way,q,left,v7,rfl,q0,q1,l0,l1,rfl,hl,hw⟩
  have ew:wayF v p g (17 - way.length) q left=if q=1 then [] else most ((fromF v p q).filter (bM v p g left))::wayF v p g (16 - way.length) (bA v (most ((fromF v p q).filter (bM v p g left)))) (left - aT v p g (most ((fromF v p q).filter (bM v p g left)))):=by
    rw [show 17 - way.length=(16 - way.length) + 1 by omega];rfl
  rw [ew] at hw
  refine ⟨_,_,bD mn (aa 5 rfl) (cA hEND),fun h=>?_,fun h=>?_⟩
  · have h:q≠1:=by simpa using h
    obtain ⟨k,km,w1,w2,kf,kx⟩:=je hv p0 hR hE q0 q1 h l0 l1
    obtain ⟨k0,k1,kp,kq,kr⟩:=bC km
    have lat:cI (dy v p) q=some (fromF v p q):=by
      rw [dD q0 (by omega)]
      unfold dy
      rw [List.getElem?_map,eI (by omega)]
      simp only [Option.map_some]
      rw [show ((q.toNat:Nat):Int)=q by omega]
    have w0:0≤aT v p g k:=by
      unfold aT
      rw [if_pos kp]
      refine jV _ fun y hy=>?_
      obtain ⟨j,hj,rfl⟩:=List.mem_map.mp hy
      rw [kq] at hj
      obtain ⟨_,_,j1,j2,j3⟩:=bC (List.mem_filter.mp hj).1
      have r:=hv.cV j3
      have a:=r.e0;have b:=r.en
      rw [j1] at b
      exact mO hv p0 hR hE _ _ (Nat.lt_succ_self _) a b
    refine ai (aZ 7 (y:=k) (EV.cast (uN M.max (bb.im (aU (own:=["choice"]) (fr:=["known","left"]) (ix:=[1,6]) (ra:=ab) (rb:=ab) (p:=bM v p g left) (f:=fun x=>x) (aJ (so:=ah qP) (N0:=Ak) rfl rfl (fun x h=>aC h) (by decide +kernel)) (aN (aQ (aa 2 rfl) (aa 5 rfl) lat))
      (fun C s H ex=>aB 0) (fun x=>⟨.inr rfl,.inl rfl,.inl rfl,trivial⟩) (fun C s H ex x hx=>d5 (bD eL (aQ (aa 1 rfl) (aa 0 rfl) (by have:=bC hx;exact cj this.1 (by omega))) (aa 2 rfl))) (fun C s H ex x hx _=>aa 0 rfl))) (by rw [List.map_id'];exact List.ne_nil_of_mem kf)) (by rw [List.map_id'];exact fC kf kx)) ?_)
    refine ai (w_subN 6 (c:=aT v p g k) (aQ (aa 1 rfl) (aa 7 rfl) (by rw [cj k0 (by omega),de k0 k1])) rfl ?_)
    refine ai (eK 4 (aa 7 rfl) rfl rfl (Nat.lt_of_le_of_lt (show way.length≤1000 by omega) (by decide)) ?_)
    refine ar (aZ 5 (cS (aQ (y:=rowOf v k) (bc (aa 0 rfl)) (aa 7 rfl) (bV bI k0 k1))) ?_)
    have cd:=dS hv p0 hR kr kp
    rw [kq] at cd
    have r:=hv.cV kr
    have a:=r.e0;have b:=r.en
    rw [kp] at b
    refine ⟨cX (fwd v.2 p) (rowOf v k).2.2.1,cd,_,_,_,_,rfl,a,b,by omega,w2,rfl,?_,?_⟩
    · rw [List.length_append,List.length_singleton];omega
    · rw [if_neg h,fC kf kx] at hw
      rw [hw,List.append_assoc,List.length_append,List.length_singleton,show 17 - (way.length + 1)=16 - way.length by omega];rfl
  · have h:q=1:=by simpa using h
    rw [if_pos h,List.append_nil] at hw
    exact ar (bH (ia 4 rfl (bo (by omega))) hw.symm)
end
noncomputable def lu (v:av)(p q k:Int):Bool:=(decide (0≤k)&&decide (k < (v.2.length:Int)))&&decide (((rowOf v k).1,(rowOf v k).2.1)=(p,q))
noncomputable def cT (v:av)(p:Int):Int→List Int→Bool
  | q,[]=>decide (q=1)
  | q,k::ks=>lu v p q k&&cT v p (bA v k) ks
theorem gB {v:av}{p:Int}:∀{xs:List Int} {q:Int},cT v p q xs=true→∀k∈xs,0≤k∧k < (v.2.length:Int)
  | [],_,_,k,hk=>by cases hk
  | x ::xs,q,h,k,hk=>by
    rw [cT,Bool.and_eq_true] at h
    rcases List.mem_cons.mp hk with rfl | hk
    · have:=Bool.and_eq_true_iff.mp (Bool.and_eq_true_iff.mp h.1).1
      exact ⟨of_decide_eq_true this.1,of_decide_eq_true this.2⟩
    · exact gB h.2 k hk
section
variable {P:Program}{w:World}{K:PySem.W.Frag}{mg:Str→Option Value}{base:Heap}{f:Addr}{fd:FuncData}{C:Addr}
noncomputable abbrev ux:Stmt:=top p6
theorem wL:aE ["web","number"] ["web","number"] (ah ux):=⟨rfl,rfl,rfl,by decide +kernel,rfl,by decide +kernel,by decide +kernel⟩
noncomputable def AB:bS:=fun K ps T=>∃(v:av) (k:Int),ps=[⟨cg,v⟩,⟨ab,k⟩]∧T=bP K aK (· =(decide (0≤k)&&decide (k < (v.2.length:Int))))
theorem yO (M:bX mg)(CI:aA P w K mg base "is_whole" 1 (aG qX K))(F:bL K "is_row" "is_row" ux f fd)(hm:mg "is_row"=some (.ref f))(hb:Binds K fd ["web","number"] []):aA P w K mg base "is_row" 2 (aG AB K):=by
  have nd:=wL.nd
  refine bJ F wL hm hb (fun qs T ⟨_,_,e,_⟩=>by rw [e];rfl) (fun cdv A outer s H E qs T hr hS=>?_)
  obtain ⟨v,k,rfl,rfl⟩:=hS
  change WS _ _ [.im (aF (af ab) (af aI)) v,.im ab k] _ _
  exact ar (bH (d8 (aP CI hr (ae (aa 1 rfl) ao) ⟨k,rfl,rfl⟩) (fun _=>ei (fN eL dM au (aa 1 rfl) (cN M.len (bc (aa 0 rfl)))))) (Bool.true_and _))
noncomputable abbrev qu:Stmt:=top rQ
noncomputable abbrev nCG:List Str:=["web","stack","number","row"]
theorem xH:aE nCG ["web","stack","number"] (ah qu):=⟨rfl,rfl,rfl,by decide +kernel,rfl,by decide +kernel,by decide +kernel⟩
noncomputable def wg:bS:=fun K ps T=>∃(v:av) (p q k:Int),ps=[⟨cg,v⟩,⟨af (aF ab ab),[(p,q)]⟩,⟨ab,k⟩]∧T=bP K aK (· =lu v p q k)
theorem vZ (CI:aA P w K mg base "is_row" 2 (aG AB K))(F:bL K "can_go" "can_go" qu f fd)(hm:mg "can_go"=some (.ref f))(hb:Binds K fd ["web","stack","number"] []):aA P w K mg base "can_go" 3 (aG wg K):=by
  have nd:=xH.nd
  refine bJ F xH hm hb (fun qs T ⟨_,_,_,_,e,_⟩=>by rw [e];rfl) (fun cdv A outer s H E qs T hr hS=>?_)
  obtain ⟨v,p,q,k,rfl,rfl⟩:=hS
  have hu1:(A.deeper (envOfC "can_go" (ah qu) s.heap.objs.size f cdv)).units + (0 + 1) < cLine:=Nat.lt_of_le_of_lt (Nat.add_le_add_left (by decide:1≤64) _) hr.units
  change WS _ _ [.im (aF (af ab) (af aI)) v,.im (af (aF ab ab)) [(p,q)],.im ab k,.no] _ _
  refine ai (bY (TW.tv (gK (bZ (yJ 1 rfl)) fun _=>fD (bZ (bR (aP CI hr (ae (aa 0 rfl) (ae (aa 2 rfl) ao)) ⟨v,k,rfl,rfl⟩))))) (fun h=>?_) (fun h=>bB ?_))
  · have h:(decide (0≤k)&&decide (k < (v.2.length:Int)))=false:=by
      cases z:(decide (0≤k)&&decide (k < (v.2.length:Int))) with
      | false=>rfl
      | true=>rw [z] at h;simp at h
    refine ar (bH dt ?_)
    unfold lu
    rw [h];rfl
  · have h:(decide (0≤k)&&decide (k < (v.2.length:Int)))=true:=by simpa using h
    have h':=Bool.and_eq_true_iff.mp h
    refine ai (aZ 3 (y:=rowOf v k) (aQ (bc (aa 0 rfl)) (aa 2 rfl) (bV bI (of_decide_eq_true h'.1) (of_decide_eq_true h'.2))) ?_)
    refine ar (bH (dP (uk (r:=ab) (r':=ab) eq_int eq_int hu1 hu1) (da (ae (dW (aa 3 rfl)) (ae (c9 (aa 3 rfl)) ao))) (aQ (y:=(p,q)) (aa 1 rfl) (mi au) rfl)) ?_)
    unfold lu
    rw [h];rfl
noncomputable abbrev tX:Stmt:=top i9
noncomputable abbrev nLT:List Str:=["web","part","rows","place","number"]
theorem w4:aE nLT ["web","part","rows"] (ah tX):=⟨rfl,rfl,rfl,by decide +kernel,rfl,by decide +kernel,by decide +kernel⟩
noncomputable def AH:bS:=fun K ps T=>∃(v:av) (p:Int) (xs:List Int),ps=[⟨cg,v⟩,⟨ab,p⟩,⟨af ab,xs⟩]∧xs.length≤1000∧T=bP K aK (· =cT v p 0 xs)
theorem zM (M:bX mg)(CG:aA P w K mg base "can_go" 3 (aG wg K))(F:bL K "leads_through" "leads_through" tX f fd)(hm:mg "leads_through"=some (.ref f))(hb:Binds K fd ["web","part","rows"] []):aA P w K mg base "leads_through" 4 (aG AH K):=by
  have nd:=w4.nd
  obtain ⟨t1,hB⟩:=M.begin_
  obtain ⟨t2,hEND⟩:=M.end_
  refine bJ F w4 hm hb (fun qs T ⟨_,_,_,e,_⟩=>by rw [e];rfl) (fun cdv A outer s H E qs T hr hS=>?_)
  obtain ⟨v,p,xs,rfl,hl,rfl⟩:=hS
  change WS _ _ [.im (aF (af ab) (af aI)) v,.im ab p,.im (af ab) xs,.no,.no] _ _
  refine ai (bY (bZ (bR (dG M.isinstance M.list PyProof.Rows.boot_list (aa 2 rfl) ty_list (b:=true)))) (fun h=>absurd h (by decide)) (fun _=>bB ?_))
  refine ai (aZ 3 (cA hB) ?_)
  refine ai (cZ (r:=ab) (fun i Γ=>∃q v4,Γ=[.im (aF (af ab) (af aI)) v,.im ab p,.im (af ab) xs,.im ab q,v4]∧cT v p 0 xs=cT v p q (xs.drop i)) (aN (aa 2 rfl)) (aB 4) ⟨0,_,rfl,rfl⟩ ?_ ?_)
  · rintro i k Γ hk ⟨q,v4,rfl,hc⟩
    have hd:xs.drop i=k::xs.drop (i + 1):=by
      obtain ⟨h1,h2⟩:=List.getElem?_eq_some_iff.mp hk
      rw [List.drop_eq_getElem_cons h1,h2]
    rw [hd,cT] at hc
    refine ai (bY (bZ (bR (aP CG hr (ae (aa 0 rfl) (ae (bb.im (bh (r:=aF ab ab) (aO (da (ae (aa 1 rfl) (ae (aa 3 rfl) ao))) bF) (by show 1≤sizeLine;decide))) (ae (aa 4 rfl) ao))) ⟨v,p,q,k,rfl,rfl⟩))) (fun h=>?_) (fun h=>bB ?_))
    · have h:lu v p q k=false:=by simpa using h
      refine ar (bH dt ?_)
      rw [hc,h];rfl
    · have h:lu v p q k=true:=by simpa using h
      have h':=Bool.and_eq_true_iff.mp (Bool.and_eq_true_iff.mp h).1
      refine ar (aZ 3 (y:=bA v k) (cS (aQ (y:=rowOf v k) (bc (aa 0 rfl)) (aa 4 rfl) (bV bI (of_decide_eq_true h'.1) (of_decide_eq_true h'.2)))) ?_)
      exact ⟨bA v k,_,rfl,by rw [hc,h];rfl⟩
  · rintro Γ ⟨q,v4,rfl,hc⟩
    rw [List.drop_length] at hc
    refine ar (bH (dP dA (aa 3 rfl) (cA hEND)) ?_)
    rw [hc,cT]
end
end K1
namespace Fc
open PySem PySem.Spec L2
open PyProof.Rows hiding St
section
variable {X:Cx}{Γ Γ1 Γ2 Γ3:Ga}{α β γ δ:Type}{N:Ga→Prop}{T:RT}
noncomputable def uf (X:Cx)(e:Expr)(Γ:Ga){α:Type}(r:Rep α)(P:List α→Ga→Prop):Prop:=
  ∀(σ:St) (H0 R0 H R:Hp),aj X.K σ H0 R0 H R Γ→∀Q:VK,(∀a vs ys Γ' H' R',P ys Γ'→aj X.K σ H0 R0 H' R' Γ'→ak R R'→H' a=some (.lst vs)→R' a=none→H0 a=none→Off a σ Γ'→PySem.Paired (r.R X.K R') vs ys→ys.length≤sizeLine→Q (.ref a) H')→c4 X e σ H Q
noncomputable def wd (X:Cx)(e:Expr)(Γ:Ga){α:Type}(r:Rep α)(P:α→Ga→Prop):Prop:=
  ∀(σ:St) (H0 R0 H R:Hp),aj X.K σ H0 R0 H R Γ→∀Q:VK,(∀v y Γ' H' R',P y Γ'→aj X.K σ H0 R0 H' R' Γ'→ak R R'→r.R X.K R' v y→Q v H')→c4 X e σ H Q
theorem EV.evq {e:Expr}{r:Rep α}{y:α}{P:α→Ga→Prop}(h:EV X e Γ r y Γ1)(hp:P y Γ1):wd X e Γ r P:=fun σ H0 R0 H R E Q q=>h σ H0 R0 H R E Q fun v H' R' E' s' e'=>q v y Γ1 H' R' hp E' s' e'
noncomputable def Ab (X:Cx)(tg iter:Expr)(Γ:Ga){α:Type}(r:Rep α)(P:List α→Ga→Prop):Prop:=
  ∃wi,PI X tg iter wi∧∀(σ:St) (H0 R0 H R:Hp),aj X.K σ H0 R0 H R Γ→∀Rq:It→Hp→Prop,(∀J H1 R1 xs Γ1,P xs Γ1→aj X.K σ H0 R0 H1 R1 Γ1→ak R R1→xs.length≤sizeLine→Src X.K J R1 r xs→Rq J H1)→wi σ H Rq
theorem xE {tg iter:Expr}{body:List Stmt}{pos:Pos}{r:Rep α}{P:List α→Ga→Prop}{bf:α→Ga→Ga}(I:List α→Nat→Ga→Prop)(hit:Ab X tg iter Γ r P)(hb:BG X tg r bf)(h0:∀xs Γ1,P xs Γ1→I xs 0 Γ1)
    (hstep:∀xs,(∃Γ1,P xs Γ1)→∀(i:Nat) (x:α) (Γ:Ga),xs[i]?=some x→I xs i Γ→WS X body (bf x Γ) (I xs (i + 1)) T) (hend:∀xs,(∃Γ1,P xs Γ1)→∀Γ:Ga,I xs xs.length Γ→N Γ)
    (hc:autoParam (X.calm=true) Fc.ag) (hp:PassesOwn (model X.prog X.w) X.A X.env X.xe:=by exact PassesOwn.never) (hs:autoParam (∀x,foldedSetIterable iter X.env x=pure x) Fc.cJ):W1 X (.For tg iter body [] pos) Γ N T:=fun σ H0 R0 H R E D dn dr=>by
  obtain ⟨wi,hi,hit⟩:=hit
  refine sS (rL hp hc hi tR fH hs) (hit σ H0 R0 H R E _ fun J H1 R1 xs Γ1 hP E1 s1 hz src=>?_)
  have hP':∃Γ1,P xs Γ1:=⟨Γ1,hP⟩
  refine ⟨fun i m σ' H'=>m=xs.length - i∧i≤xs.length∧∃R' Γ',aj X.K σ' H0 R0 H' R' Γ'∧ak R1 R'∧I xs i Γ',⟨_,rfl,Nat.zero_le _,R1,Γ1,E1,ak.refl _,h0 xs Γ1 hP⟩,?_⟩
  rintro i m σ' H' ⟨rfl,hle,R',Γ',E',s',hI⟩
  obtain ⟨sgo,sstop⟩:=src H' R' s' E'.sub i
  by_cases hlt:i < xs.length
  · obtain ⟨go,yl⟩:=sgo _ (List.getElem?_eq_getElem hlt)
    refine .inr ⟨go,fun σ' H'=>i + 1≤xs.length∧∃R' Γ',aj X.K σ' H0 R0 H' R' Γ'∧ak R1 R'∧I xs (i + 1) Γ',fun σ2 H2 h=>⟨xs.length - (i + 1),by omega,rfl,h.1,h.2⟩,fun v H2 hy=>?_⟩
    obtain ⟨R2,x2,hr⟩:=yl v H2 hy
    refine hb σ' H0 R0 H2 R2 Γ' v _ (E'.grow x2) hr _ fun σ2 E2=>?_
    exact hstep xs hP' i _ Γ' (List.getElem?_eq_getElem hlt) hI σ2 H0 R0 H2 R2 E2 _ (fun σ3 H3 R3 Γ3 E3 s3 h3=>⟨hlt,R3,Γ3,E3,s'.trans (x2.r.trans s3),h3⟩) dr
  · have e:i=xs.length:=by omega
    subst e
    exact .inl ⟨sstop (Nat.le_refl _),dn σ' H' R' Γ' E' (s1.trans s') (hend xs hP' Γ' hI)⟩
theorem si {tg iter:Expr}{r:Rep α}{P:List α→Ga→Prop}(h:uf X iter Γ r P):Ab X tg iter Γ r P:=by
  refine ⟨_,oh aH,fun σ H0 R0 H R E Rq q=>h σ H0 R0 H R E _ fun a vs xs Γ1 H1 R1 hP E1 s1 ha hR h0 off pp z=>?_⟩
  have s2:ak R1 (upd R1 a (.lst vs)):=ak.fresh hR _
  have E2:=E1.jS ha hR h0 off
  refine ⟨a,rfl,⟨vs,aX.of ha⟩,q _ H1 (upd R1 a (.lst vs)) xs Γ1 hP E2 (s1.trans s2) z fun H' R' sR sH i=>⟨fun x hx=>?_,fun hi=>?_⟩⟩
  · have hq:aX X.K H' a vs:=aX.of (sH _ _ (sR _ _ ay))
    obtain ⟨v,hv,hr⟩:=dZ pp hx
    refine ⟨⟨vs,v,hq,hv⟩,fun v' H2 hy=>?_⟩
    obtain ⟨rfl,hy⟩:=hy
    have:=hy vs hq
    rw [hv] at this
    cases this
    exact ⟨R',Ext.refl sH,r.mono sR (r.mono s2 hr)⟩
  · exact ⟨vs,aX.of (sH _ _ (sR _ _ ay)),by rw [pp.length];exact hi⟩
theorem vw {a b:Expr}{pos:Pos}{r:Rep α}{xs:List α}{P:List α→Ga→Prop}(ha:EV X a Γ (af r) xs Γ1)(hb:uf X b Γ1 r P)(hz:∀ys Γ2,P ys Γ2→xs.length + ys.length≤sizeLine):uf X (.BinOp a .Add b pos) Γ r (fun zs Γ2=>∃ys,zs=xs++ys∧P ys Γ2):=by
  intro σ H0 R0 H R E Q q
  refine eS (jK nh aH aH) (ha σ H0 R0 H R E _ fun v H1 R1 E1 s1 e1=>hb σ H0 R0 H1 R1 E1 _ fun c ws ys Γ2 H2 R2 hP E2 s2 hc hR h0 off pp' z'=>?_)
  obtain ⟨p,vs,rfl,hp,pp,z⟩:=(af r).mono s2 e1
  refine ⟨p,c,vs,ws,rfl,rfl,E2.sub _ _ hp,hc,by rw [pp.length,pp'.length];exact hz ys Γ2 hP,fun d hd=>?_⟩
  exact q d _ _ Γ2 _ R2 ⟨ys,rfl,hP⟩ (E2.grow (Ext.cO E2.sub hd _)) (s1.trans s2) ay (E2.sub.free hd) (E2.ext.h.free hd) (E2.off hd) (bO pp pp') (by rw [List.length_append];exact hz ys Γ2 hP)
noncomputable def nZ (own:List Str)(ix:List Nat)(l:Nat)(e:Ent)(Γ:Ga):Ga:=List.replicate own.length .no++ix.map fun i=>if i=l then e else iu Γ[i]?
theorem qK {K:PySem.W.Frag}{σ:St}{H0 R0 H R:Hp}{Pp:Type}{B:ee Pp}{a b:Addr}{s0:Pp}{l:Nat}(E:aj K σ H0 R0 H R Γ)(own:List Str)(ix:List Nat)(hl:Γ[l]?=some (.ob (B.bx a b s0)))(hu:∀(j k:Nat),ix[j]?=some l→ix[k]?=some l→j=k):aj K (cW own ix σ) (dw H [a,b]) R H R (nZ own ix l (.ob (B.bx a b s0)) Γ):=by
  obtain ⟨ea,hB,hRa,hRb⟩:=dg (E.ent l _ hl)
  have look:∀(i:Nat) (e:Ent),(nZ own ix l (.ob (B.bx a b s0)) Γ)[i]?=some e→e= .no∨∃k,own.length≤i∧ix[i - own.length]?=some k∧((cW own ix σ)[i]?).join=(σ[k]?).join∧e=if k=l then .ob (B.bx a b s0) else iu Γ[k]?:=fun i e q=>by
    unfold nZ at q
    by_cases hi:i < own.length
    · rw [List.getElem?_append_left (by simpa using hi),List.getElem?_replicate,if_pos hi] at q
      exact .inl (Option.some.inj q).symm
    · rw [List.getElem?_append_right (by simpa using hi),List.length_replicate,List.getElem?_map] at q
      cases ek:ix[i - own.length]? with
      | none=>rw [ek] at q;cases q
      | some k=>
        rw [ek] at q
        refine .inr ⟨k,by omega,rfl,?_,(Option.some.inj q).symm⟩
        unfold cW
        rw [List.getElem?_append_right (by simpa using hi),List.length_replicate,List.getElem?_map,ek]
        rfl
  have lentfp:∀(k:Nat) (o:Option V),(iu Γ[k]?).fp o=[]:=fun k o=>by unfold iu;split<;>rfl
  refine ⟨⟨ji,ak.refl _,E.sub,fun _ _=>rfl⟩,fun i e q=>?_,fun i e c q w=>?_,fun i j e e' c q q' w w'=>?_,by unfold nZ cW;simp⟩
  · rcases look i e q with rfl | ⟨k,_,_,ej,rfl⟩
    · trivial
    · rw [ej]
      split
      · rename_i hk;rw [hk];exact E.ent l _ hl
      · cases eg:Γ[k]? with
        | none=>trivial
        | some e=>
          cases e with
          | im r x=>exact E.ent k _ eg
          | no=>trivial
          | mu r x=>trivial
          | di x=>trivial
          | ob x=>trivial
  · rcases look i e q with rfl | ⟨k,_,_,ej,rfl⟩
    · cases w
    · split at w
      · have w:c∈(B.bx a b s0).fp:=w
        rw [B.fp] at w
        exact gk w
      · rw [lentfp] at w;cases w
  · rcases look i e q with rfl | ⟨k,oi,ki,_,rfl⟩
    · cases w
    · rcases look j e' q' with rfl | ⟨k',oj,kj,_,rfl⟩
      · cases w'
      · split at w
        · rename_i h1
          split at w'
          · rename_i h2
            rw [h1] at ki;rw [h2] at kj
            have:=hu _ _ ki kj
            omega
          · rw [lentfp] at w';cases w'
        · rw [lentfp] at w;cases w
theorem pj {tg elt:Expr}{scope:Scope}{cl:List (Str×Addr)}{own fr:List Str}{ix:List Nat}{ra:Rep α}{rb:Rep β}{xs:List α}{Pp:Type}{B:ee Pp}{a b:Addr}{s0:Pp}{l li:Nat}{G:Pp→Ga}{Inv:Nat→Pp→Prop}{P:α→β→Prop}{bf:α→Ga→Ga}{J:It}{σ:St}{H0 R0 H1 R1:Hp}{Q:VK}(E1:aj X.K σ H0 R0 H1 R1 Γ1)(hl:Γ1[l]?=some (.ob (B.bx a b s0)))(hu:∀(j k:Nat),ix[j]?=some l→ix[k]?=some l→j=k)(hG0:nZ own ix l (.ob (B.bx a b s0)) Γ1=G s0)(hG:∀s,(G s)[li]?=some (.ob (B.bx a b s)))(src:Src X.K J R1 ra xs)(hz:xs.length≤sizeLine)(hI0:Inv 0 s0)
    (hb:∀(C:Addr) (s:Shared) (H:Hp) (ex:List Addr),BG (ax X scope cl C (own++fr) s H ex) tg ra bf) (hw:∀x s,Wk (bf x (G s)) (G s))
    (he:∀(C:Addr) (s:Shared) (H:Hp) (ex:List Addr) (i:Nat) x st,xs[i]?=some x→Inv i st→wd (ax X scope cl C (own++fr) s H ex) elt (bf x (G st)) rb (fun y Γ'=>∃st',Γ'=bf x (G st')∧P x y∧Inv (i + 1) st'))
    (q:∀c vs zs H' R' st,Ext (dw H1 [a,b]) R1 H' R'→(B.bx a b st).R X.K H' R' (.ref a)→R' a=none→R' b=none→H' c=none→PySem.Paired (rb.R X.K R') vs zs→PySem.Paired P xs zs→Inv xs.length st→Q (.ref c) (upd H' c (.lst vs))):
    ∃ W :Nat→Nat→List V→St→Hp→Prop,(∃m,W 0 m [] (cW own ix σ) H1)∧∀i m ys σ' H',W i m ys σ' H'→
      ys.length≤sizeLine∧((J.stop i H'∧∀p,H' p=none→Q (.ref p) (upd H' p (.lst ys)))∨
      (J.go i H'∧∀x H2,J.yld i H' x H2→(fun v σ H Q=>∀C s Hh ex,eC (ax X scope cl C (own++fr) s Hh ex) tg v σ H Q:TG) x σ' H2 fun σ2 H3=>(fun σ H Q=>∀C s Hh ex,fc (ax X scope cl C (own++fr) s Hh ex) [] σ H Q:TT) σ2 H3 fun b H4=>
        if b=true then (fun σ H Q=>∀C s Hh ex,c4 (ax X scope cl C (own++fr) s Hh ex) elt σ H Q:TE) σ2 H4 fun v H5=>∃m',m' < m∧W (i + 1) m' (ys++[v]) σ2 H5 else∃m',m' < m∧W (i + 1) m' ys σ2 H4)):=by
  refine ⟨fun i m ys σ' H'=>m=xs.length - i∧i≤xs.length∧∃R' zs st,aj X.K σ' (dw H1 [a,b]) R1 H' R' (G st)∧PySem.Paired (rb.R X.K R') ys zs∧PySem.Paired P (xs.take i) zs∧Inv i st,⟨_,rfl,Nat.zero_le _,R1,[],s0,by rw [← hG0];exact qK E1 own ix hl hu,.nil,(.nil:PySem.Paired P [] []),hI0⟩,?_⟩
  rintro i m ys σ' H' ⟨rfl,hle,R',zs,st,E',pp,pq,hI⟩
  have hys:ys.length≤sizeLine:=by
    rw [pp.length,← pq.length]
    refine Nat.le_trans ?_ hz
    rw [List.length_take];omega
  obtain ⟨sgo,sstop⟩:=src H' R' E'.ext.r E'.sub i
  refine ⟨hys,?_⟩
  by_cases hlt:i < xs.length
  · obtain ⟨go,yl⟩:=sgo _ (List.getElem?_eq_getElem hlt)
    have tk:(xs.take (i + 1))=xs.take i++[xs[i]]:=by rw [List.take_succ,List.getElem?_eq_getElem hlt];rfl
    refine .inr ⟨go,fun v H2 hy C s Hh ex=>?_⟩
    obtain ⟨R2,x2,hr⟩:=yl v H2 hy
    refine hb C s Hh ex σ' _ R1 H2 R2 _ v _ (E'.grow x2) hr _ fun σ2 E2=>?_
    intro C s Hh ex
    refine (br (X:=ax X scope cl C (own++fr) s Hh ex)) σ2 _ R1 H2 R2 E2 _ fun H4 R4 E4 s4=>?_
    rw [if_pos rfl]
    intro C s Hh ex
    refine he C s Hh ex i _ st (List.getElem?_eq_getElem hlt) hI σ2 _ R1 H4 R4 E4 _ fun w z Γ' H5 R5 hP E5 s5 e5=>?_
    obtain ⟨st',rfl,hPz,hI'⟩:=hP
    refine ⟨xs.length - (i + 1),by omega,rfl,hlt,R5,zs++[z],st',E5.weak (hw _ _),?_,?_,hI'⟩
    · exact bO (Paired.map (fun _ _=>rb.mono (x2.r.trans (s4.trans s5))) pp) (.cons e5 .nil)
    · rw [tk];exact bO pq (.cons hPz .nil)
  · have e:i=xs.length:=by omega
    subst e
    rw [List.take_length] at pq
    obtain ⟨_,hB,hRa,hRb⟩:=dg (E'.ent li _ (hG st))
    exact .inl ⟨sstop (Nat.le_refl _),fun c hc=>q c ys zs H' R' st E'.ext hB hRa hRb hc pp pq hI⟩
theorem qD (l li:Nat){tg elt iter:Expr}{scope:Scope}{pos:Pos}{cl:List (Str×Addr)}{own fr:List Str}{ix:List Nat}{ra:Rep α}{rb:Rep β}{xs:List α}{Pp:Type}{B:ee Pp}{a b:Addr}{s0:Pp}(G:Pp→Ga)(Inv:Nat→Pp→Prop){P:α→β→Prop}{bf:α→Ga→Ga}
    (S:cF X scope cl own fr ix) (hit:IV X tg iter Γ ra xs Γ1) (hl:Γ1[l]?=some (.ob (B.bx a b s0))) (hu:∀(j k:Nat),ix[j]?=some l→ix[k]?=some l→j=k) (hG0:nZ own ix l (.ob (B.bx a b s0)) Γ1=G s0) (hG:∀s,(G s)[li]?=some (.ob (B.bx a b s))) (hI0:Inv 0 s0)
    (hb:∀(C:Addr) (s:Shared) (H:Hp) (ex:List Addr),BG (ax X scope cl C (own++fr) s H ex) tg ra bf) (hw:∀x s,Wk (bf x (G s)) (G s))
    (he:∀(C:Addr) (s:Shared) (H:Hp) (ex:List Addr) (i:Nat) x st,xs[i]?=some x→Inv i st→wd (ax X scope cl C (own++fr) s H ex) elt (bf x (G st)) rb (fun y Γ'=>∃st',Γ'=bf x (G st')∧P x y∧Inv (i + 1) st'))
    (hc:autoParam (X.calm=true) Fc.ag) (hs:autoParam (∀x,foldedSetIterable iter X.env x=pure x) Fc.cJ):uf X (.ListComp elt [⟨tg,iter,[],0⟩] scope pos) Γ rb (fun zs Γ2=>PySem.Paired P xs zs∧∃st,Inv xs.length st∧Γ2=Γ1.set l (.ob (B.bx a b st))):=by
  intro σ H0 R0 H R E Q q
  obtain ⟨wi,hi,hit⟩:=hit
  refine eS (kP (g:=fun v σ H Q=>∀C s Hh ex,eC (ax X scope cl C (own++fr) s Hh ex) tg v σ H Q) (tc:=fun σ H Q=>∀C s Hh ex,fc (ax X scope cl C (own++fr) s Hh ex) [] σ H Q) (te:=fun σ H Q=>∀C s Hh ex,c4 (ax X scope cl C (own++fr) s Hh ex) elt σ H Q) hc S hi
    (fun C s H ex=>⟨fun pins s1 σ H v u Q I r h=>h C s _ ex pins s1 u I r,fun pins s1 σ H Q I h=>h C s _ ex pins s1 I,fun pins s1 σ H Q I h=>h C s _ ex pins s1 I⟩) hs) ?_
  refine hit σ H0 R0 H R E _ fun J H1 R1 E1 s1 hz src=>pj E1 hl hu hG0 hG src hz hI0 hb hw he fun c vs zs H' R' st xx hB hRa hRb hc pp pq hI=>?_
  obtain ⟨ea,_⟩:=dg (E1.ent l _ hl)
  have E2:aj X.K σ H0 R0 H' R' (Γ1.set l (.ob (B.bx a b st))):=E1.uo hl (by rw [B.fp];exact xx) (by rw [ea];exact fV hB hRa hRb) fun c hc=>by rw [B.fp] at hc ⊢;exact hc
  exact q c vs zs _ _ R' ⟨pq,st,hI,rfl⟩ (E2.grow (Ext.cO E2.sub hc _)) (s1.trans xx.r) ay (E2.sub.free hc) (E2.ext.h.free hc) (E2.off hc) pp (by rw [← pq.length];exact hz)
end
end Fc
namespace K1
open PySem L2 Fc
open PySem.Spec hiding Row
open PyProof.Rows hiding St
open PySem.Builtin.Int (intBits)
theorem k4 {α:Type}(l:List α)(p q:α→Bool):(l.filter p).filter q=(l.filter q).filter p:=by
  rw [List.filter_filter,List.filter_filter]
  exact List.filter_congr fun x _=>Bool.and_comm _ _
noncomputable def bz (v:av)(p:Int):List Int:=(ups 0 v.2.length).filter fun k=>decide ((rowOf v k).1=p)
noncomputable def conv (r:Row):Row:=(0,r.2.1,r.2.2.1, -1)
noncomputable def aq (v:av)(p:Int):av:=([v.1.getD p.toNat 0],(bz v p).map fun k=>conv (rowOf v k))
noncomputable def aR (u:av)(k:Int):av:=(u.1,u.2++[rowOf u k])
theorem iB (v:av){n:Nat}(h:n≤v.2.length):(ups 0 n).map (rowOf v)=v.2.take n:=by
  refine List.ext_getElem? fun j=>?_
  by_cases hj:j < n
  · rw [List.getElem?_map,eI hj,List.getElem?_take,if_pos hj,List.getElem?_eq_getElem (by omega)]
    show some (rowOf v (j:Int))=_
    unfold rowOf
    rw [show ((j:Int)).toNat=j by omega,List.getD_eq_getElem?_getD,List.getElem?_eq_getElem (by omega)];rfl
  · rw [List.getElem?_eq_none (by rw [List.length_map,az];omega),List.getElem?_eq_none (by rw [List.length_take];omega)]
theorem lU (v:av):(ups 0 v.2.length).map (rowOf v)=v.2:=by rw [iB v (Nat.le_refl _),List.take_length]
theorem mm:∀{n k:Nat},k≤n→(ups 0 n).filter (fun j=>decide (j < (k:Int)))=ups 0 k
  | 0,k,h=>by rw [show k=0 by omega];rfl
  | n + 1,k,h=>by
    rw [gO,List.filter_append]
    by_cases e:k=n + 1
    · rw [List.filter_eq_self.mpr (fun x hx=>decide_eq_true (by have:=aL.mp hx;omega)),List.filter_eq_self.mpr (fun x hx=>decide_eq_true (by rw [List.mem_singleton.mp hx];omega)),e,gO]
    · rw [mm (n:=n) (by omega),List.filter_eq_nil_iff.mpr (fun x hx=>by rw [List.mem_singleton.mp hx];simp;omega),List.append_nil]
theorem d4 (v:av)(p q:Int):goal v p q=(v.2.filter fun r=>decide ((r.1,r.2.1)=(p,q))).map fun r=>r.2.2.1:=by
  have h:(v.2.filter fun r=>decide ((r.1,r.2.1)=(p,q)))=(fromF v p q).map (rowOf v):=by
    have:=congrArg (List.filter fun r:Row=>decide ((r.1,r.2.1)=(p,q))) (lU v)
    rw [← this,List.filter_map];rfl
  rw [h,List.map_map];rfl
theorem jB {v:av}{p:Int}(g:Int→Int){k:Int}(k0:0≤k)(k1:k < (v.2.length:Int))(kp:(rowOf v k).1=p):aT v p g k=(((v.2.take k.toNat).filter fun r=>decide ((r.1,r.2.1)=(p,(rowOf v k).2.1))).map fun r=>g r.2.2.1).sum:=by
  unfold aT
  rw [if_pos kp]
  have h1:(fromF v p (rowOf v k).2.1).filter (fun j=>decide (j < k))=(ups 0 k.toNat).filter fun j=>decide (((rowOf v j).1,(rowOf v j).2.1)=(p,(rowOf v k).2.1)):=by
    unfold fromF
    rw [k4]
    have:=mm (n:=v.2.length) (k:=k.toNat) (by omega)
    rw [show ((k.toNat:Nat):Int)=k by omega] at this
    rw [this]
  have h2:(v.2.take k.toNat).filter (fun r=>decide ((r.1,r.2.1)=(p,(rowOf v k).2.1)))=((ups 0 k.toNat).filter fun j=>decide (((rowOf v j).1,(rowOf v j).2.1)=(p,(rowOf v k).2.1))).map (rowOf v):=by
    rw [← iB v (n:=k.toNat) (by omega),List.filter_map];rfl
  rw [h1,h2,List.map_map];rfl
theorem m3 (v:av)(p:Int):(bz v p).map (rowOf v)=v.2.filter fun r=>decide (r.1=p):=by
  have:=congrArg (List.filter fun r:Row=>decide (r.1=p)) (lU v)
  rw [← this,List.filter_map];rfl
theorem d6 (v:av)(p:Int):(aq v p).2=(v.2.filter fun r=>decide (r.1=p)).map conv:=by
  rw [← m3,List.map_map];rfl
theorem dI {v:av}{p k:Int}(h:k∈bz v p):0≤k∧k < (v.2.length:Int)∧(rowOf v k).1=p∧rowOf v k∈v.2:=by
  obtain ⟨h1,h2⟩:=List.mem_filter.mp h
  have:=aL.mp h1
  refine ⟨this.1,this.2,of_decide_eq_true h2,?_⟩
  unfold rowOf
  rw [List.getD_eq_getElem?_getD,List.getElem?_eq_getElem (by omega)];exact List.getElem_mem _
theorem mX (v:av)(p:Int):(bz v p).Pairwise (· < ·):=(jd _).filter _
theorem cG (v:av)(p:Int):(aq v p).2.length=(bz v p).length:=List.length_map _
theorem j7 (v:av)(p:Int):(bz v p).length≤v.2.length:=by
  unfold bz
  refine Nat.le_trans (List.length_filter_le _ _) ?_
  rw [az];exact Nat.le_refl _
theorem eY {v:av}{p:Int}{j:Nat}{k:Int}(h:(bz v p)[j]?=some k):rowOf (aq v p) (j:Int)=conv (rowOf v k):=by
  unfold rowOf aq
  rw [List.getD_eq_getElem?_getD,show ((j:Int)).toNat=j by omega,List.getElem?_map,h];rfl
theorem pQ (v:av)(p q:Int):goal (aq v p) 0 q=goal v p q:=by
  rw [d4,d4,d6,List.filter_map,List.map_map,List.filter_filter]
  congr 1
  refine List.filter_congr fun r _=>?_
  show (decide (((0:Int),r.2.1)=(0,q))&&decide (r.1=p))=decide ((r.1,r.2.1)=(p,q))
  by_cases h1:r.1=p<;>by_cases h2:r.2.1=q<;>simp [h1,h2]
theorem d9 {v:av}{p:Int}{g:Int→Int}(h:cu v p g):cu (aq v p) 0 g:=⟨h.one,fun q q0 q1 qn=>by rw [pQ];exact h.step q q0 q1 qn⟩
theorem wF {l:List Int}(hp:l.Pairwise (· < ·)){j:Nat}{k:Int}(h:l[j]?=some k):l.filter (fun x=>decide (x < k))=l.take j:=by
  obtain ⟨hj,e⟩:=List.getElem?_eq_some_iff.mp h
  have sp:l=l.take j++l.drop j:=(List.take_append_drop j l).symm
  have hp2:=hp
  rw [sp] at hp2
  obtain ⟨p1,p2,p3⟩:=List.pairwise_append.mp hp2
  have hd:l.drop j=k::l.drop (j + 1):=by rw [List.drop_eq_getElem_cons hj,e]
  have e1:(l.take j).filter (fun x=>decide (x < k))=l.take j:=List.filter_eq_self.mpr fun x hx=>decide_eq_true (p3 x hx k (by rw [hd];exact List.mem_cons_self))
  have e2:(l.drop j).filter (fun x=>decide (x < k))=[]:=List.filter_eq_nil_iff.mpr fun x hx=>by
    rw [hd] at hx p2
    rcases List.mem_cons.mp hx with rfl | hx
    · simp
    · have:=(List.pairwise_cons.mp p2).1 x hx
      simp;omega
  rw [sp,List.filter_append,e1,e2,List.append_nil]
  simp
theorem gj {v:av}{p:Int}(g:Int→Int){j:Nat}{k:Int}(h:(bz v p)[j]?=some k):aT (aq v p) 0 g (j:Int)=aT v p g k:=by
  obtain ⟨k0,k1,kp,_⟩:=dI (List.mem_of_getElem? h)
  have hj:=(List.getElem?_eq_some_iff.mp h).1
  have er:=eY h
  rw [jB g k0 k1 kp,jB g (by omega) (by rw [cG];omega) (by rw [er];rfl),er]
  have t1:(aq v p).2.take j=((v.2.take k.toNat).filter fun r=>decide (r.1=p)).map conv:=by
    have a1:(aq v p).2.take j=((bz v p).take j).map fun k=>conv (rowOf v k):=by unfold aq;rw [List.map_take]
    have a2:(bz v p).take j=(ups 0 k.toNat).filter fun i=>decide ((rowOf v i).1=p):=by
      rw [← wF (mX v p) h]
      unfold bz
      rw [k4]
      have:=mm (n:=v.2.length) (k:=k.toNat) (by omega)
      rw [show ((k.toNat:Nat):Int)=k by omega] at this
      rw [this]
    have a3:(v.2.take k.toNat).filter (fun r=>decide (r.1=p))=((ups 0 k.toNat).filter fun i=>decide ((rowOf v i).1=p)).map (rowOf v):=by
      rw [← iB v (n:=k.toNat) (by omega),List.filter_map];rfl
    rw [a1,a2,a3,List.map_map];rfl
  rw [show ((j:Int)).toNat=j by omega,t1,List.filter_map,List.map_map,List.filter_filter]
  congr 2
  refine List.filter_congr fun r _=>?_
  show (decide (((0:Int),r.2.1)=(0,(rowOf v k).2.1))&&decide (r.1=p))=decide ((r.1,r.2.1)=(p,(rowOf v k).2.1))
  by_cases h1:r.1=p<;>by_cases h2:r.2.1=(rowOf v k).2.1<;>simp [h1,h2]
theorem jU {v:av}{p q:Int}{j:Nat}{k:Int}(h:(bz v p)[j]?=some k):(j:Int)∈fromF (aq v p) 0 q↔k∈fromF v p q:=by
  obtain ⟨k0,k1,kp,_⟩:=dI (List.mem_of_getElem? h)
  have hj:=(List.getElem?_eq_some_iff.mp h).1
  unfold fromF
  rw [List.mem_filter,List.mem_filter,eY h]
  have e1:(j:Int)∈ups 0 (aq v p).2.length:=aL.mpr ⟨by omega,by rw [cG];omega⟩
  have e2:k∈ups 0 v.2.length:=aL.mpr ⟨k0,k1⟩
  constructor
  · rintro ⟨_,z⟩
    have z:(0,(rowOf v k).2.1)=((0:Int),q):=of_decide_eq_true z
    exact ⟨e2,decide_eq_true (by rw [kp,(Prod.mk.inj z).2])⟩
  · rintro ⟨_,z⟩
    have z:((rowOf v k).1,(rowOf v k).2.1)=(p,q):=of_decide_eq_true z
    exact ⟨e1,decide_eq_true (by show ((0:Int),(rowOf v k).2.1)=(0,q);rw [(Prod.mk.inj z).2])⟩
theorem my {v:av}{p q k:Int}(h:k∈fromF v p q):∃j:Nat,(bz v p)[j]?=some k:=by
  obtain ⟨k0,k1,kp,_⟩:=bC h
  exact List.mem_iff_getElem?.mp (List.mem_filter.mpr ⟨aL.mpr ⟨k0,k1⟩,decide_eq_true kp⟩)
theorem rM {v:av}{p a b:Int}(p0:0≤p):(∃r∈(aq v p).2,r.1=((0:Nat):Int)∧r.2.1=a∧r.2.2.1=b)↔∃r∈v.2,r.1=((p.toNat:Nat):Int)∧r.2.1=a∧r.2.2.1=b:=by
  rw [d6]
  constructor
  · rintro ⟨r,hr,_,h2,h3⟩
    obtain ⟨r',hr',rfl⟩:=List.mem_map.mp hr
    obtain ⟨h4,h5⟩:=List.mem_filter.mp hr'
    exact ⟨r',h4,by have:=of_decide_eq_true h5;omega,h2,h3⟩
  · rintro ⟨r,hr,h1,h2,h3⟩
    exact ⟨conv r,List.mem_map.mpr ⟨r,List.mem_filter.mpr ⟨hr,decide_eq_true (by omega)⟩,rfl⟩,rfl,h2,h3⟩
theorem ka {v:av}(hv:aV v){p:Int}(p0:0≤p)(p1:p < (v.1.length:Int))(hne:∃k,k∈bz v p):aV (aq v p):=by
  have hm:v.1[p.toNat]?=some (v.1.getD p.toNat 0):=by rw [List.getD_eq_getElem?_getD,List.getElem?_eq_getElem (by omega)];rfl
  obtain ⟨ts,hg,hts⟩:=hv.good.part _ _ hm
  have rl:=hv.rl
  refine ⟨⟨rfl,fun i m hi=>?_,fun r hr=>?_,fun i h0 h1=>?_⟩,⟨Nat.le_refl _,by show 1≤4;decide⟩,⟨?_,?_⟩,fun m hm'=>?_⟩
  · have hi':i=0:=by
      have:=(List.getElem?_eq_some_iff.mp hi).1
      have:i < 1:=this
      omega
    subst hi'
    have:m=v.1.getD p.toNat 0:=(Option.some.inj hi).symm
    subst this
    exact ⟨ts,hg,fun a b=>(rM p0).trans (hts a b)⟩
  · rw [d6] at hr
    obtain ⟨r',_,rfl⟩:=List.mem_map.mp hr
    exact ⟨Int.le_refl _,by show (0:Int) < ((1:Nat):Int);decide,.inl rfl⟩
  · have:i < 1:=h1
    omega
  · rw [cG]
    obtain ⟨k,hk⟩:=hne
    exact List.length_pos_of_mem hk
  · rw [cG]
    have:=j7 v p
    omega
  · have:m=v.1.getD p.toNat 0:=List.mem_singleton.mp hm'
    rw [this]
    exact hv.sz _ (List.mem_of_getElem? hm)
theorem js {v:av}{p:Int}(p0:0≤p)(hR:bj v.2 p.toNat):bj (aq v p).2 0:=by
  obtain ⟨rk,h⟩:=hR
  refine ⟨rk,fun r hr _=>?_⟩
  rw [d6] at hr
  obtain ⟨r',hr',rfl⟩:=List.mem_map.mp hr
  obtain ⟨h4,h5⟩:=List.mem_filter.mp hr'
  exact h r' h4 (by have:=of_decide_eq_true h5;omega)
theorem mv {u:av}{k:Int}(k0:0≤k)(k1:k < (u.2.length:Int)){r:Row}:r∈(aR u k).2↔r∈u.2:=by
  have hk:rowOf u k∈u.2:=by unfold rowOf;rw [List.getD_eq_getElem?_getD,List.getElem?_eq_getElem (by omega)];exact List.getElem_mem _
  show r∈u.2++[rowOf u k]↔_
  rw [List.mem_append,List.mem_singleton]
  exact ⟨fun z=>z.elim id fun e=>e▸hk,.inl⟩
theorem lF {u:av}(hu:aV u)(hl:u.2.length < 60){k:Int}(k0:0≤k)(k1:k < (u.2.length:Int)):aV (aR u k):=by
  have wm:=fun r=>mv (u:=u) (r:=r) k0 k1
  refine ⟨⟨rfl,fun i m hi=>?_,fun r hr=>hu.good.row r ((wm r).mp hr),fun i h0 h1=>?_⟩,hu.pl,?_,hu.sz⟩
  · obtain ⟨ts,hg,hts⟩:=hu.good.part i m hi
    refine ⟨ts,hg,fun a b=>Iff.trans ⟨?_,?_⟩ (hts a b)⟩
    · rintro ⟨r,hr,z⟩;exact ⟨r,(wm r).mp hr,z⟩
    · rintro ⟨r,hr,z⟩;exact ⟨r,(wm r).mpr hr,z⟩
  · obtain ⟨r,hr,z⟩:=hu.good.call i h0 h1
    exact ⟨r,(wm r).mpr hr,z⟩
  · have:=hu.rl
    show 1≤(u.2++[rowOf u k]).length∧(u.2++[rowOf u k]).length≤60
    rw [List.length_append,List.length_singleton];omega
theorem kX {u:av}{k:Int}(k0:0≤k)(k1:k < (u.2.length:Int)){p:Nat}(hR:bj u.2 p):bj (aR u k).2 p:=by
  obtain ⟨rk,h⟩:=hR
  exact ⟨rk,fun r hr z=>h r ((mv k0 k1).mp hr) z⟩
theorem lE {u:av}{k:Int}{p q:Int}:goal (aR u k) p q=goal u p q++if ((rowOf u k).1,(rowOf u k).2.1)=(p,q) then [(rowOf u k).2.2.1] else []:=by
  rw [d4,d4]
  show ((u.2++[rowOf u k]).filter _).map _=_
  rw [List.filter_append,List.map_append]
  congr 1
  by_cases h:((rowOf u k).1,(rowOf u k).2.1)=(p,q)
  · rw [if_pos h,List.filter_cons,if_pos (decide_eq_true h)];rfl
  · rw [if_neg h,List.filter_cons,if_neg (by rw [decide_eq_false h];decide)];rfl
theorem l8 {u:av}{k j:Int}(j0:0≤j)(j1:j < (u.2.length:Int)):rowOf (aR u k) j=rowOf u j:=by
  unfold rowOf aR
  rw [List.getD_eq_getElem?_getD,List.getD_eq_getElem?_getD,List.getElem?_append_left (by omega)]
theorem lA {u:av}{k:Int}:rowOf (aR u k) (u.2.length:Int)=rowOf u k:=by
  show (u.2++[rowOf u k]).getD ((u.2.length:Int)).toNat bI=_
  rw [List.getD_eq_getElem?_getD,show ((u.2.length:Int)).toNat=u.2.length by omega,List.getElem?_append_right (Nat.le_refl _),Nat.sub_self];rfl
theorem ot {v:av}(hv:aV v){p q:Int}(p0:0≤p)(p1:p < (v.1.length:Int))(q0:0≤q)(q1:q < v.1.getD p.toNat 0)(qn:q≠1):∃k,(fromF v p q)[0]?=some k:=by
  have hm:v.1[p.toNat]?=some (v.1.getD p.toNat 0):=by rw [List.getD_eq_getElem?_getD,List.getElem?_eq_getElem (by omega)];rfl
  have h:=hv.toEnd hm q0 q1
  have:∃r∈v.2,r.1=p∧r.2.1=q:=by
    cases h with
    | base=>exact absurd rfl qn
    | step _ m=>
      unfold bwd at m
      obtain ⟨r,hr,e⟩:=List.mem_map.mp m
      obtain ⟨h1,h2⟩:=List.mem_filter.mp hr
      have h2:=of_decide_eq_true h2
      exact ⟨r,h1,by omega,congrArg Prod.snd e⟩
  obtain ⟨r,hr,r1,r2⟩:=this
  obtain ⟨j,hj⟩:=List.mem_iff_getElem?.mp hr
  have jl:=(List.getElem?_eq_some_iff.mp hj).1
  have er:rowOf v (j:Int)=r:=by unfold rowOf;rw [show ((j:Int)).toNat=j by omega,List.getD_eq_getElem?_getD,hj];rfl
  have hm:(j:Int)∈fromF v p q:=by
    unfold fromF
    exact List.mem_filter.mpr ⟨aL.mpr ⟨by omega,by omega⟩,decide_eq_true (by rw [er,r1,r2])⟩
  cases e:fromF v p q with
  | nil=>rw [e] at hm;cases hm
  | cons a l=>exact ⟨a,rfl⟩
theorem fI {v:av}{p q k:Int}:lu v p q k=decide (k∈fromF v p q):=by
  unfold lu fromF
  by_cases h:k∈(ups 0 v.2.length).filter fun k=>decide (((rowOf v k).1,(rowOf v k).2.1)=(p,q))
  · rw [decide_eq_true h]
    obtain ⟨h1,h2⟩:=List.mem_filter.mp h
    have:=aL.mp h1
    rw [h2,decide_eq_true this.1,decide_eq_true (show k < (v.2.length:Int) by omega)];rfl
  · rw [decide_eq_false h]
    refine Bool.eq_false_iff.mpr fun h'=>h ?_
    obtain ⟨a,c⟩:=Bool.and_eq_true_iff.mp h'
    obtain ⟨a,b⟩:=Bool.and_eq_true_iff.mp a
    exact List.mem_filter.mpr ⟨aL.mpr ⟨of_decide_eq_true a,by have:=of_decide_eq_true b;omega⟩,c⟩
theorem vG:∀(xs:List Int),(∀x∈xs,1≤x)→xs≠[]→1≤xs.sum
  | [],_,h=>absurd rfl h
  | x::xs,h,_=>by
    rw [List.sum_cons]
    have:=h x List.mem_cons_self
    have:=jV xs fun y hy=>by have:=h y (List.mem_cons_of_mem _ hy);omega
    omega
theorem jM {B:Int}:∀(xs:List Int),(∀x∈xs,x≤B)→xs.sum≤(xs.length:Int) * B
  | [],_=>by simp
  | x::xs,h=>by
    rw [List.sum_cons,List.length_cons]
    have:=h x List.mem_cons_self
    have:=jM xs fun y hy=>h y (List.mem_cons_of_mem _ hy)
    rw [show (((xs.length + 1:Nat):Int)) * B=(xs.length:Int) * B + B by rw [Int.natCast_add,Int.add_mul];simp]
    omega
theorem pG {v:av}(hv:aV v){p:Int}(p0:0≤p)(p1:p < (v.1.length:Int))(hR:bj v.2 p.toNat){g:Int→Int}(hE:cu v p g):∀(n:Nat) (q:Int),cX (fwd v.2 p) q < n→0≤q→q < v.1.getD p.toNat 0→1≤g q
  | 0,q,h,_,_=>by omega
  | n + 1,q,h,q0,q1=>by
    by_cases e:q=1
    · rw [e,hE.one];decide
    · rw [hE.step q q0 q1 e]
      refine vG _ (fun y hy=>?_) ?_
      · obtain ⟨z,hz,rfl⟩:=List.mem_map.mp hy
        obtain ⟨z0,z1,_,r,hr,r1,r2,r3⟩:=eF hv hz
        have:=dS hv p0 hR hr r1
        rw [r2,r3] at this
        exact pG hv p0 p1 hR hE n z (by omega) z0 z1
      · obtain ⟨k,hk⟩:=ot hv p0 p1 q0 q1 e
        intro z
        unfold goal at z
        rw [List.map_eq_nil_iff,List.map_eq_nil_iff] at z
        rw [z] at hk;cases hk
theorem iQ {v:av}(hv:aV v){p:Int}(p0:0≤p)(hR:bj v.2 p.toNat){g:Int→Int}(hE:cu v p g):∀(m:Nat) (q left:Int),cX (fwd v.2 p) q < m→0≤q→q < v.1.getD p.toNat 0→0≤left→left < g q→cT v p q (wayF v p g m q left)=true
  | 0,q,left,h,_,_,_,_=>by omega
  | m + 1,q,left,h,q0,q1,l0,l1=>by
    unfold wayF
    by_cases e:q=1
    · rw [if_pos e,cT,decide_eq_true e]
    · obtain ⟨k,hk,w1,w2,hkf,hmax⟩:=je hv p0 hR hE q0 q1 e l0 l1
      rw [if_neg e,fC hkf hmax,cT,fI,decide_eq_true hk,Bool.true_and]
      obtain ⟨k0,k1,kp,kq,kr⟩:=bC hk
      have R:=hv.cV kr
      have e0:=R.e0;have en:=R.en
      rw [kp] at en
      have:=dS hv p0 hR kr kp
      rw [kq] at this
      exact iQ hv p0 hR hE m _ _ (by show cX _ (rowOf v k).2.2.1 < m;omega) e0 en (by omega) (by show _ < g (bA v k);omega)
theorem qI {l:List Int}(hp:l.Pairwise (· < ·)){i j:Nat}{x y:Int}(hi:l[i]?=some x)(hj:l[j]?=some y)(h:i≤j):x≤y:=by
  rcases Nat.lt_or_ge i j with z | z
  · obtain ⟨a1,a2⟩:=List.getElem?_eq_some_iff.mp hi
    obtain ⟨b1,b2⟩:=List.getElem?_eq_some_iff.mp hj
    have:=List.pairwise_iff_getElem.mp hp i j a1 b1 z
    omega
  · have:i=j:=by omega
    subst this
    rw [hi] at hj;cases hj;exact Int.le_refl _
theorem kT {v:av}{p:Int}(hu:aV (aq v p))(hRu:bj (aq v p).2 (0:Int).toNat){g:Int→Int}(hE:cu (aq v p) 0 g):∀(m:Nat) (q left:Int),cX (fwd (aq v p).2 0) q < m→0≤q→q < v.1.getD p.toNat 0→0≤left→left < g q→wayF v p g m q left=(wayF (aq v p) 0 g m q left).map fun j=>(bz v p).getD j.toNat 0
  | 0,q,left,h,_,_,_,_=>by omega
  | m + 1,q,left,h,q0,q1,l0,l1=>by
    unfold wayF
    by_cases e:q=1
    · rw [if_pos e,if_pos e];rfl
    · obtain ⟨j,hj,w1,w2,hjf,hmax⟩:=je hu (Int.le_refl 0) hRu hE q0 q1 e l0 l1
      obtain ⟨j0,j1,jp,jq,jr⟩:=bC hj
      rw [cG] at j1
      obtain ⟨k,hk⟩:∃k,(bz v p)[j.toNat]?=some k:=⟨_,List.getElem?_eq_getElem (by omega)⟩
      have ej:((j.toNat:Nat):Int)=j:=by omega
      have hkv:k∈fromF v p q:=(jU hk).mp (by rw [ej];exact hj)
      have hw:aT (aq v p) 0 g j=aT v p g k:=by rw [← gj g hk,ej]
      have nx:∀{i:Nat} {x:Int},(bz v p)[i]?=some x→bM v p g left x=bM (aq v p) 0 g left (i:Int):=fun {i x} hi=>by
        obtain ⟨x0,x1,_⟩:=dI (List.mem_of_getElem? hi)
        have il:=(List.getElem?_eq_some_iff.mp hi).1
        unfold bM
        rw [de x0 x1,de (by omega) (by rw [cG];omega),gj g hi]
      have hkf:k∈(fromF v p q).filter (bM v p g left):=List.mem_filter.mpr ⟨hkv,by rw [nx hk,ej];exact (List.mem_filter.mp hjf).2⟩
      have hkm:∀x∈(fromF v p q).filter (bM v p g left),x≤k:=fun x hx=>by
        obtain ⟨hx1,hx2⟩:=List.mem_filter.mp hx
        obtain ⟨i,hi⟩:=my hx1
        have:=hmax (i:Int) (List.mem_filter.mpr ⟨(jU hi).mpr hx1,by rw [← nx hi];exact hx2⟩)
        exact qI (mX v p) hi hk (by omega)
      rw [if_neg e,if_neg e,fC hkf hkm,fC hjf hmax,List.map_cons]
      have er:=eY hk
      rw [ej] at er
      have ed:bA (aq v p) j=bA v k:=by unfold bA;rw [er];rfl
      have ek:(bz v p).getD j.toNat 0=k:=by rw [List.getD_eq_getElem?_getD,hk];rfl
      rw [hw] at w1 w2
      rw [ek,ed,hw]
      rw [ed] at w2
      have R:=hu.cV jr
      have e0:=R.e0;have en:=R.en
      rw [jp] at en
      have:=dS hu (Int.le_refl 0) hRu jr jp
      rw [jq] at this
      refine congrArg (k::·) (kT hu hRu hE m (bA v k) _ (by rw [← ed];show cX _ (rowOf (aq v p) j).2.2.1 < m;omega) (by rw [← ed];exact e0) (by rw [← ed];exact en) (by omega) (by omega))
theorem pS {u:av}{k q x:Int}(hx:x∈fromF u 0 q):x∈fromF (aR u k) 0 q∧bA (aR u k) x=bA u x:=by
  obtain ⟨x0,x1,xp,xq,_⟩:=bC hx
  have e:=l8 (k:=k) x0 x1
  refine ⟨?_,by unfold bA;rw [e]⟩
  unfold fromF
  refine List.mem_filter.mpr ⟨aL.mpr ⟨x0,?_⟩,decide_eq_true (by rw [e,xp,xq])⟩
  show x < ((u.2++[rowOf u k]).length:Int)
  rw [List.length_append,List.length_singleton];omega
theorem pJ {u:av}{k q:Int}(hk:k∈fromF u 0 q):(u.2.length:Int)∈fromF (aR u k) 0 q∧bA (aR u k) (u.2.length:Int)=bA u k:=by
  obtain ⟨x0,x1,xp,xq,_⟩:=bC hk
  have e:=lA (u:=u) (k:=k)
  refine ⟨?_,by unfold bA;rw [e]⟩
  unfold fromF
  refine List.mem_filter.mpr ⟨aL.mpr ⟨by omega,?_⟩,decide_eq_true (by rw [e,xp,xq])⟩
  show (u.2.length:Int) < ((u.2++[rowOf u k]).length:Int)
  rw [List.length_append,List.length_singleton];omega
noncomputable def f7 (u:av)(k j:Int):Int:=if j=k then (u.2.length:Int) else j
theorem me {u:av}{k:Int}:∀{xs:List Int} {q:Int},cT u 0 q xs=true→cT (aR u k) 0 q xs=true∧cT (aR u k) 0 q (xs.map (f7 u k))=true
  | [],q,h=>⟨h,h⟩
  | x ::xs,q,h=>by
    rw [cT,Bool.and_eq_true,fI] at h
    have hx:=of_decide_eq_true h.1
    obtain ⟨a1,a2⟩:=pS (k:=k) hx
    obtain ⟨i1,i2⟩:=me (k:=k) h.2
    refine ⟨?_,?_⟩
    · rw [cT,fI,decide_eq_true a1,a2,Bool.true_and];exact i1
    · rw [List.map_cons,cT,fI]
      unfold f7
      by_cases e:x=k
      · subst e
        obtain ⟨b1,b2⟩:=pJ hx
        rw [if_pos rfl,decide_eq_true b1,b2,Bool.true_and];exact i2
      · rw [if_neg e,decide_eq_true a1,a2,Bool.true_and];exact i2
theorem mM {h:Int→Int}{p:Int→Bool}:∀(l:List Int),(∀x∈l,0≤h x)→((l.filter p).map h).sum≤(l.map h).sum
  | [],_=>by simp
  | x::l,hn=>by
    have ih:=mM (p:=p) l fun y hy=>hn y (List.mem_cons_of_mem _ hy)
    have:=hn x List.mem_cons_self
    rw [List.filter_cons,List.map_cons,List.sum_cons]
    split
    · rw [List.map_cons,List.sum_cons];omega
    · omega
theorem pN {u:av}{k:Int}(hw:aV (aR u k))(hR:bj (aR u k).2 (0:Int).toNat){g:Int→Int}(hE:cu (aR u k) 0 g)(k0:0≤k)(k1:k < (u.2.length:Int))(kp:(rowOf u k).1=0)(x:Int):aT (aR u k) 0 g x≤aT (aR u k) 0 g (f7 u k x):=by
  unfold f7
  by_cases e:x=k
  · subst e
    rw [if_pos rfl]
    unfold aT
    rw [lA,l8 k0 k1,if_pos kp,if_pos kp]
    have:(fromF (aR u x) 0 (rowOf u x).2.1).filter (fun j=>decide (j < x))=((fromF (aR u x) 0 (rowOf u x).2.1).filter fun j=>decide (j < (u.2.length:Int))).filter fun j=>decide (j < x):=by
      rw [List.filter_filter]
      refine List.filter_congr fun j _=>?_
      by_cases z:j < x
      · rw [decide_eq_true z,decide_eq_true (show j < (u.2.length:Int) by omega)];rfl
      · rw [decide_eq_false z];rfl
    rw [this]
    refine mM _ fun j hj=>?_
    obtain ⟨_,_,h1,h2,h3⟩:=bC (List.mem_filter.mp hj).1
    have r:=hw.cV h3
    have a:=r.e0;have b:=r.en
    rw [h1] at b
    exact mO hw (Int.le_refl 0) hR hE _ _ (Nat.lt_succ_self _) a b
  · rw [if_neg e];exact Int.le_refl _
theorem mS {f h:Int→Int}:∀(l:List Int),(∀x,f x≤h x)→(l.map f).sum≤(l.map h).sum
  | [],_=>by simp
  | x::l,hn=>by
    have:=mS l hn
    have:=hn x
    rw [List.map_cons,List.map_cons,List.sum_cons,List.sum_cons];omega
theorem hV {α:Type}{A B C:α→Bool}:∀(l:List α),(∀x∈l,A x=true→B x=false)→(∀x∈l,A x=true→C x=true)→(∀x∈l,B x=true→C x=true)→(l.filter A).length + (l.filter B).length≤(l.filter C).length
  | [],_,_,_=>by simp
  | x ::l,h1,h2,h3=>by
    have ih:=hV (A:=A) (B:=B) (C:=C) l (fun y hy=>h1 y (List.mem_cons_of_mem _ hy)) (fun y hy=>h2 y (List.mem_cons_of_mem _ hy)) (fun y hy=>h3 y (List.mem_cons_of_mem _ hy))
    have a:=h1 x List.mem_cons_self
    have b:=h2 x List.mem_cons_self
    have c:=h3 x List.mem_cons_self
    rw [List.filter_cons,List.filter_cons,List.filter_cons]
    cases hA:A x with
    | true=>
      rw [a hA,b hA]
      simp only [if_pos,if_neg,Bool.false_eq_true,if_false,if_true,List.length_cons]
      omega
    | false=>
      cases hB:B x with
      | true=>
        rw [c hB]
        simp only [Bool.false_eq_true,if_false,if_true,List.length_cons]
        omega
      | false=>
        cases hC:C x<;>simp only [Bool.false_eq_true,if_false,if_true,List.length_cons]<;>omega
open Classical in
noncomputable def nR (v:av)(p q:Int):Nat:=((v.2.filter fun r=>decide (r.1=p)).filter fun r=>decide (Reach (fwd v.2 p) q r.2.1)).length
theorem iZ {es:List (Int×Int)}{a b c:Int}(h:Reach es a b)(h2:Reach es b c):Reach es a c:=Reach.sub h (fun _ _ ha hab=>.step ha hab) h2
theorem iw {m n:Nat}(h:m≤n):((2:Int) ^ m)≤2 ^ n:=by
  have:(2:Nat) ^ m≤2 ^ n:=Nat.pow_le_pow_right (by decide) h
  exact_mod_cast this
theorem r8 {v:av}(hv:aV v){p:Int}(p0:0≤p)(hR:bj v.2 p.toNat){g:Int→Int}(hE:cu v p g):∀(n:Nat) (q:Int),cX (fwd v.2 p) q < n→0≤q→q < v.1.getD p.toNat 0→g q≤2 ^ nR v p q
  | 0,q,h,_,_=>by omega
  | n + 1,q,h,q0,q1=>by
    by_cases e:q=1
    · rw [e,hE.one]
      have:=iw (Nat.zero_le (nR v p 1))
      simpa using this
    · rw [hE.step q q0 q1 e]
      classical
      have hgl:(goal v p q).length=((v.2.filter fun r=>decide (r.1=p)).filter fun r=>decide (r.2.1=q)).length:=by
        rw [d4,List.length_map,List.filter_filter]
        congr 1
        refine List.filter_congr fun r _=>?_
        by_cases h1:r.1=p<;>by_cases h2:r.2.1=q<;>simp [h1,h2]
      have step:∀z∈goal v p q,g z≤2 ^ (nR v p q - (goal v p q).length):=fun z hz=>by
        obtain ⟨z0,z1,_,r,hr,r1,r2,r3⟩:=eF hv hz
        have hc:=dS hv p0 hR hr r1
        rw [r2,r3] at hc
        have ih:=r8 hv p0 hR hE n z (by omega) z0 z1
        refine Int.le_trans ih (iw ?_)
        have ht:(q,z)∈fwd v.2 p:=dH.mpr ⟨r,hr,r1,r2,r3⟩
        have nz:¬Reach (fwd v.2 p) z q:=(fE hv p0).mp hR _ ht
        have qz:Reach (fwd v.2 p) q z:=.step .base ht
        have:=hV (A:=fun r:Row=>decide (Reach (fwd v.2 p) z r.2.1)) (B:=fun r:Row=>decide (r.2.1=q)) (C:=fun r:Row=>decide (Reach (fwd v.2 p) q r.2.1)) (v.2.filter fun r=>decide (r.1=p)) (fun x _ hx=>decide_eq_false fun hq=>nz (hq▸of_decide_eq_true hx)) (fun x _ hx=>decide_eq_true (iZ qz (of_decide_eq_true hx))) (fun x _ hx=>decide_eq_true (by rw [of_decide_eq_true hx];exact .base))
        rw [← hgl] at this
        have this:nR v p z + (goal v p q).length≤nR v p q:=this
        omega
      have hle:(goal v p q).length≤nR v p q:=by
        rw [hgl]
        unfold nR
        have:=hV (A:=fun _:Row=>false) (B:=fun r:Row=>decide (r.2.1=q)) (C:=fun r:Row=>decide (Reach (fwd v.2 p) q r.2.1)) (v.2.filter fun r=>decide (r.1=p)) (fun x _ hx=>by cases hx) (fun x _ hx=>by cases hx) (fun x _ hx=>decide_eq_true (by rw [of_decide_eq_true hx];exact .base))
        omega
      have h1:=jM (B:=2 ^ (nR v p q - (goal v p q).length)) ((goal v p q).map g) fun y hy=>by
        obtain ⟨z,hz,rfl⟩:=List.mem_map.mp hy
        exact step z hz
      rw [List.length_map] at h1
      refine Int.le_trans h1 ?_
      have h2:((goal v p q).length:Int)≤2 ^ (goal v p q).length:=by
        have:(goal v p q).length < 2 ^ (goal v p q).length:=Nat.lt_two_pow_self
        exact_mod_cast Nat.le_of_lt this
      have h3:(0:Int)≤2 ^ (nR v p q - (goal v p q).length):=by
        have:=iw (Nat.zero_le (nR v p q - (goal v p q).length))
        simp at this;omega
      refine Int.le_trans (Int.mul_le_mul_of_nonneg_right h2 h3) ?_
      rw [← Int.pow_add,Nat.add_sub_cancel' hle]
      exact Int.le_refl _
theorem uW {v:av}(hv:aV v)(hl:v.2.length≤30){p:Int}(p0:0≤p)(p1:p < (v.1.length:Int))(hR:bj v.2 p.toNat){g:Int→Int}(hE:cu v p g):1≤g 0∧g 0 < 1000000000000000000:=by
  have hs:=hv.sz (v.1.getD p.toNat 0) (by rw [List.getD_eq_getElem?_getD,List.getElem?_eq_getElem (by omega)];exact List.getElem_mem _)
  refine ⟨pG hv p0 p1 hR hE _ 0 (Nat.lt_succ_self _) (Int.le_refl 0) (by omega),?_⟩
  have h1:=r8 hv p0 hR hE _ 0 (Nat.lt_succ_self _) (Int.le_refl 0) (by omega)
  have h2:nR v p 0≤30:=by
    unfold nR
    exact Nat.le_trans (List.length_filter_le _ _) (Nat.le_trans (List.length_filter_le _ _) hl)
  have h3:=iw h2
  have h4:((2:Int) ^ 30) < 1000000000000000000:=by decide +kernel
  omega
noncomputable def gc (v:av)(p q:Int):List Int:=(bz v p).filter fun j=>decide ((rowOf v j).2.2.1=q)
noncomputable def dz (v:av)(p q:Int):List Int:=(gc v p q).map fun j=>(rowOf v j).2.1
structure oU (v:av) (p:Int) (b:Int→Int):Prop where
  zero:b 0=1
  step:∀q,0≤q→q < v.1.getD p.toNat 0→q≠0→b q=((dz v p q).map b).sum
theorem vH {v:av}(hv:aV v){p q z:Int}(h:z∈dz v p q):0≤z∧z < v.1.getD p.toNat 0∧∃r∈v.2,r.1=p∧r.2.1=z∧r.2.2.1=q:=by
  obtain ⟨j,hj,rfl⟩:=List.mem_map.mp h
  obtain ⟨h1,h2⟩:=List.mem_filter.mp hj
  obtain ⟨_,_,jp,jr⟩:=dI h1
  have R:=hv.cV jr
  have s0:=R.s0;have sn:=R.sn
  rw [jp] at sn
  exact ⟨s0,sn,_,jr,jp,rfl,of_decide_eq_true h2⟩
structure ff (v:av) (p:Int) (F:List (Int×Int)):Prop where
  one:bq F 0=some 1
  nd:(F.map (·.1)).Nodup
  bd:∀q∈F.map (·.1),0≤q∧q < v.1.getD p.toNat 0
  ok:∀q,q∈F.map (·.1)→q≠0→(∀z∈dz v p q,z∈F.map (·.1))∧gF F q=((dz v p q).map (gF F)).sum
theorem ff.add {v:av}{p:Int}{F:List (Int×Int)}(h:ff v p F){q:Int}(hq:q∉F.map (·.1))(q0:0≤q)(q1:q < v.1.getD p.toNat 0)(hg:∀z∈dz v p q,z∈F.map (·.1)):ff v p (F++[(q,((dz v p q).map (gF F)).sum)]):=by
  have keep:∀z,z∈F.map (·.1)→gF (F++[(q,((dz v p q).map (gF F)).sum)]) z=gF F z:=fun z hz=>by
    unfold gF
    rw [eJ hq,if_neg (show¬z=q from fun e=>hq (e▸hz))]
  have one:(0:Int)∈F.map (·.1):=dE.mp (by rw [h.one];rfl)
  have mp:(F++[(q,((dz v p q).map (gF F)).sum)]).map (·.1)=F.map (·.1)++[q]:=by rw [List.map_append];rfl
  refine ⟨?_,?_,fun z hz=>?_,fun z hz zn=>?_⟩
  · rw [eJ hq,if_neg (show¬(0:Int)=q from fun e=>hq (e▸one))];exact h.one
  · rw [mp];exact fB h.nd hq
  · rw [mp] at hz
    rcases List.mem_append.mp hz with w | w
    · exact h.bd z w
    · rw [List.mem_singleton.mp w];exact ⟨q0,q1⟩
  · rw [mp] at hz ⊢
    rcases List.mem_append.mp hz with w | w
    · obtain ⟨a,b⟩:=h.ok z w zn
      refine ⟨fun y hy=>List.mem_append_left _ (a y hy),?_⟩
      rw [keep z w,b]
      congr 1
      exact List.map_congr_left fun y hy=>(keep y (a y hy)).symm
    · rw [List.mem_singleton.mp w]
      refine ⟨fun y hy=>List.mem_append_left _ (hg y hy),?_⟩
      have e:gF (F++[(q,((dz v p q).map (gF F)).sum)]) q=((dz v p q).map (gF F)).sum:=by unfold gF;rw [eJ hq,if_pos rfl];rfl
      rw [e]
      congr 1
      exact List.map_congr_left fun y hy=>(keep y (hg y hy)).symm
theorem ff.le {v:av}{p:Int}{F:List (Int×Int)}(h:ff v p F)(hs:0≤v.1.getD p.toNat 0):(F.length:Int)≤v.1.getD p.toNat 0:=by
  have:=cE (F.map (·.1)) (ups 0 (v.1.getD p.toNat 0).toNat) h.nd fun x hx=>aL.mpr (by have:=h.bd x hx;omega)
  rw [List.length_map,az] at this
  omega
theorem ff.all {v:av}{p:Int}{F:List (Int×Int)}(h:ff v p F)(hs:v.1.getD p.toNat 0≤(F.length:Int)):∀q,0≤q→q < v.1.getD p.toNat 0→q∈F.map (·.1):=by
  intro q q0 q1
  refine Classical.byContradiction fun no=>?_
  have:=cE (q::F.map (·.1)) (ups 0 (v.1.getD p.toNat 0).toNat) (List.nodup_cons.mpr ⟨no,h.nd⟩) fun x hx=>by
    rcases List.mem_cons.mp hx with rfl | hx
    · exact aL.mpr (by omega)
    · exact aL.mpr (by have:=h.bd x hx;omega)
  rw [List.length_cons,List.length_map,az] at this
  omega
theorem ff.eq {v:av}{p:Int}{F:List (Int×Int)}(h:ff v p F)(hs:v.1.getD p.toNat 0≤(F.length:Int)):oU v p (gF F):=by
  refine ⟨by unfold gF;rw [h.one];rfl,fun q q0 q1 qn=>(h.ok q (h.all hs q q0 q1) qn).2⟩
theorem ff.next {v:av}(hv:aV v){p:Int}(p0:0≤p)(hr:bj v.2 p.toNat){F:List (Int×Int)}(h:ff v p F)(hs:(F.length:Int) < v.1.getD p.toNat 0):∃q,0≤q∧q < v.1.getD p.toNat 0∧q∉F.map (·.1)∧∀z∈dz v p q,z∈F.map (·.1):=by
  obtain ⟨rk,hrk⟩:=hr
  have hne:((ups 0 (v.1.getD p.toNat 0).toNat).filter fun z=>decide (z∉F.map (·.1)))≠[]:=fun e=>by
    have all:∀z∈ups 0 (v.1.getD p.toNat 0).toNat,z∈F.map (·.1):=fun z hz=>Classical.byContradiction fun no=>by
      have:z∈(ups 0 (v.1.getD p.toNat 0).toNat).filter fun z=>decide (z∉F.map (·.1)):=List.mem_filter.mpr ⟨hz,decide_eq_true no⟩
      rw [e] at this;cases this
    have:=cE _ _ (eR _) all
    rw [az,List.length_map] at this
    omega
  obtain ⟨x,hx,hmax⟩:=jC (fun z=> - rk z) _ hne
  obtain ⟨x1,x2⟩:=List.mem_filter.mp hx
  have xb:=aL.mp x1
  refine ⟨x,xb.1,by omega,of_decide_eq_true x2,fun z hz=>Classical.byContradiction fun no=>?_⟩
  obtain ⟨a,b,r,r0,r1,r2,r3⟩:=vH hv hz
  have:=hmax z (List.mem_filter.mpr ⟨aL.mpr ⟨a,by omega⟩,decide_eq_true no⟩)
  have:=hrk r r0 (by omega)
  rw [r2,r3] at this
  omega
theorem jc (v:av)(p q:Int):dz v p q=((v.2.filter fun r=>decide (r.1=p)).filter fun r=>decide (r.2.2.1=q)).map fun r=>r.2.1:=by
  unfold dz gc
  rw [← m3,List.filter_map,List.map_map];rfl
theorem qC (v:av)(p q:Int):dz (aq v p) 0 q=dz v p q:=by
  rw [jc,jc,d6,List.filter_map,List.filter_map,List.map_map]
  have:(v.2.filter fun r=>decide (r.1=p)).filter ((fun r:Row=>decide (r.1=0)) ∘ conv)=v.2.filter fun r=>decide (r.1=p):=List.filter_eq_self.mpr fun x _=>rfl
  rw [this];rfl
theorem oM {v:av}{p:Int}{b:Int→Int}(h:oU v p b):oU (aq v p) 0 b:=⟨h.zero,fun q q0 q1 qn=>by rw [qC];exact h.step q q0 q1 qn⟩
theorem sum_add {α:Type}{f h:α→Int}:∀l:List α,(l.map fun x=>f x + h x).sum=(l.map f).sum + (l.map h).sum
  | []=>by simp
  | x::l=>by
    have:=sum_add (f:=f) (h:=h) l
    simp only [List.map_cons,List.sum_cons];omega
theorem oz {α:Type}{f h:α→Int}:∀l:List α,(l.map fun x=>f x - h x).sum=(l.map f).sum - (l.map h).sum
  | []=>by simp
  | x::l=>by
    have:=oz (f:=f) (h:=h) l
    simp only [List.map_cons,List.sum_cons];omega
theorem i6 {α:Type}{f:α→Int}(c:Int):∀l:List α,(l.map fun x=>f x * c).sum=(l.map f).sum * c
  | []=>by simp
  | x::l=>by
    have:=i6 (f:=f) c l
    simp only [List.map_cons,List.sum_cons]
    rw [Int.add_mul];omega
theorem ng {α:Type}:∀l:List α,(l.map fun _=>(0:Int)).sum=0
  | []=>by simp
  | x::l=>by
    have:=ng l
    simp only [List.map_cons,List.sum_cons];omega
theorem iH {x y:Int}(x0:0≤x):∀n:Nat,((ups 0 n).map fun q=>if x=q then y else 0).sum=if x < (n:Int) then y else 0
  | 0=>by rw [if_neg (by omega)];rfl
  | n + 1=>by
    rw [gO,List.map_append,List.sum_append,iH x0 n]
    simp only [List.map_cons,List.map_nil,List.sum_cons,List.sum_nil]
    by_cases h1:x < (n:Int)
    · rw [if_pos h1,if_neg (by omega),if_pos (by omega)];omega
    · rw [if_neg h1]
      by_cases h2:x=(n:Int)
      · rw [if_pos h2,if_pos (by omega)];omega
      · rw [if_neg h2,if_neg (by omega)];omega
theorem wK {n:Nat}{f h:Row→Int}:∀(R:List Row),(∀r∈R,0≤f r∧f r < (n:Int))→((ups 0 n).map fun q=>((R.filter fun r=>decide (f r=q)).map h).sum).sum=(R.map h).sum
  | [],_=>by
    show ((ups 0 n).map fun _=>(0:Int)).sum=0
    exact ng _
  | r ::R,hb=>by
    have ih:=wK (n:=n) (f:=f) (h:=h) R fun x hx=>hb x (List.mem_cons_of_mem _ hx)
    have b:=hb r List.mem_cons_self
    have e:((ups 0 n).map fun q=>(((r::R).filter fun r=>decide (f r=q)).map h).sum)=(ups 0 n).map fun q=>(if f r=q then h r else 0) + ((R.filter fun r=>decide (f r=q)).map h).sum:=by
      refine List.map_congr_left fun q _=>?_
      rw [List.filter_cons]
      by_cases z:f r=q
      · rw [if_pos (decide_eq_true z),if_pos z,List.map_cons,List.sum_cons]
      · rw [if_neg (by rw [decide_eq_false z];decide),if_neg z];omega
    rw [e,sum_add,iH b.1,if_pos b.2,ih,List.map_cons,List.sum_cons]
theorem sA {u:av}(hu:aV u)(hR:bj u.2 (0:Int).toNat){r:Row}(hr:r∈u.2)(r1:r.1=0):r.2.2.1≠0:=fun e=>by
  have R:=hu.cV hr
  have s0:=R.s0;have sn:=R.sn
  rw [r1] at sn
  have pl:=hu.pl
  have hm:u.1[0]?=some (u.1.getD (0:Int).toNat 0):=by
    show u.1[0]?=some (u.1.getD 0 0)
    rw [List.getD_eq_getElem?_getD,List.getElem?_eq_getElem (by omega)];rfl
  have h1:=hu.k7 hm s0 sn
  exact (fE hu (Int.le_refl 0)).mp hR (r.2.1,r.2.2.1) (dH.mpr ⟨r,hr,r1,rfl,rfl⟩) (by rw [e];exact h1)
theorem lb {u:av}(hu:aV u)(hR:bj u.2 (0:Int).toNat){k:Int}{g g':Int→Int}(hE:cu u 0 g)(hE':cu (aR u k) 0 g'):∀(n:Nat) (q:Int),cX (fwd u.2 0) q < n→0≤q→q < u.1.getD (0:Int).toNat 0→¬Reach (fwd u.2 0) q (rowOf u k).2.1→g' q=g q
  | 0,q,h,_,_,_=>by omega
  | n + 1,q,h,q0,q1,nr=>by
    by_cases e:q=1
    · rw [e,hE.one,hE'.one]
    · rw [hE.step q q0 q1 e,hE'.step q q0 q1 e,lE,if_neg (fun z=>nr (by rw [(Prod.mk.inj z).2];exact .base)),List.append_nil]
      congr 1
      refine List.map_congr_left fun z hz=>?_
      obtain ⟨z0,z1,_,r,hr,r1,r2,r3⟩:=eF hu hz
      have:=dS hu (Int.le_refl 0) hR hr r1
      rw [r2,r3] at this
      have ht:(q,z)∈fwd u.2 0:=dH.mpr ⟨r,hr,r1,r2,r3⟩
      exact lb hu hR hE hE' n z (by omega) z0 z1 fun w=>nr (iZ (.step .base ht) w)
theorem through {u:av}(hu:aV u)(hR:bj u.2 (0:Int).toNat){k:Int}(k0:0≤k)(k1:k < (u.2.length:Int))(kp:(rowOf u k).1=0){g g' b:Int→Int}(hE:cu u 0 g)(hE':cu (aR u k) 0 g')(hB:oU u 0 b):g' 0=g 0 + b (rowOf u k).2.1 * g (rowOf u k).2.2.1:=by
  have hk:rowOf u k∈u.2:=by unfold rowOf;rw [List.getD_eq_getElem?_getD,List.getElem?_eq_getElem (by omega)];exact List.getElem_mem _
  have RK:=hu.cV hk
  have a0:=RK.s0;have an:=RK.sn;have c0:=RK.e0;have cn:=RK.en;have a1:=RK.s1
  rw [kp] at an cn
  have hs:=hu.sz (u.1.getD (0:Int).toNat 0) (by
    have:=hu.pl
    show u.1.getD 0 0∈u.1
    rw [List.getD_eq_getElem?_getD,List.getElem?_eq_getElem (by omega)];exact List.getElem_mem _)
  have ec:g' (rowOf u k).2.2.1=g (rowOf u k).2.2.1:=lb hu hR hE hE' _ _ (Nat.lt_succ_self _) c0 cn ((fE hu (Int.le_refl 0)).mp hR ((rowOf u k).2.1,(rowOf u k).2.2.1) (dH.mpr ⟨_,hk,kp,rfl,rfl⟩))
  generalize hn:u.1.getD (0:Int).toNat 0=n at hs an cn
  generalize hra:(rowOf u k).2.1=a at *
  generalize hrc:(rowOf u k).2.2.1=c at *
  let D:Int→Int:=fun q=>g' q - g q
  let R:List Row:=u.2.filter fun r=>decide (r.1=0)
  have hRm:∀r∈R,r∈u.2∧r.1=0:=fun r hr=>⟨(List.mem_filter.mp hr).1,of_decide_eq_true (List.mem_filter.mp hr).2⟩
  have gR:∀q,goal u 0 q=(R.filter fun r=>decide (r.2.1=q)).map fun r=>r.2.2.1:=fun q=>by
    rw [d4,List.filter_filter]
    congr 1
    refine List.filter_congr fun r _=>?_
    by_cases h1:r.1=0<;>by_cases h2:r.2.1=q<;>simp [h1,h2]
  have nn:((n.toNat:Nat):Int)=n:=by omega
  have fb:∀r∈R,0≤r.2.1∧r.2.1 < ((n.toNat:Nat):Int):=fun r hr=>by
    obtain ⟨h1,h2⟩:=hRm r hr
    have P:=hu.cV h1
    have s0:=P.s0;have sn:=P.sn
    rw [h2,hn] at sn
    omega
  have tb:∀r∈R,0≤r.2.2.1∧r.2.2.1 < ((n.toNat:Nat):Int):=fun r hr=>by
    obtain ⟨h1,h2⟩:=hRm r hr
    have P:=hu.cV h1
    have s0:=P.e0;have sn:=P.en
    rw [h2,hn] at sn
    omega
  have e1 :((ups 0 n.toNat).map fun q=>b q * D q)=(ups 0 n.toNat).map fun q=>((R.filter fun r=>decide (r.2.1=q)).map fun r=>b r.2.1 * D r.2.2.1).sum + (if a=q then b a * g' c else 0):=by
    refine List.map_congr_left fun q hq=>?_
    have qb:=aL.mp hq
    have fq:((R.filter fun r=>decide (r.2.1=q)).map fun r=>b r.2.1 * D r.2.2.1).sum=b q * (((R.filter fun r=>decide (r.2.1=q)).map fun r=>D r.2.2.1).sum):=by
      rw [Int.mul_comm,← i6]
      congr 1
      refine List.map_congr_left fun r hr=>?_
      rw [of_decide_eq_true (List.mem_filter.mp hr).2,Int.mul_comm]
    rw [fq]
    by_cases h1:q=1
    · have hD:D q=0:=by show g' q - g q=0;rw [h1,hE.one,hE'.one];rfl
      have hf:(R.filter fun r=>decide (r.2.1=q))=[]:=List.filter_eq_nil_iff.mpr fun r hr=>by
        have P:=hu.cV (hRm r hr).1
        have:=P.s1
        simp;omega
      rw [hD,hf,if_neg (by omega)];simp
    · have s1:=hE.step q qb.1 (by rw [hn];omega) h1
      have s2:=hE'.step q qb.1 (by show q < u.1.getD (0:Int).toNat 0;rw [hn];omega) h1
      rw [lE,List.map_append,List.sum_append,gR] at s2
      rw [gR] at s1
      rw [List.map_map] at s1 s2
      have hD:D q=((R.filter fun r=>decide (r.2.1=q)).map fun r=>D r.2.2.1).sum + (if a=q then g' c else 0):=by
        show g' q - g q=_
        have h3:=oz (f:=fun r:Row=>g' r.2.2.1) (h:=fun r:Row=>g r.2.2.1) (R.filter fun r=>decide (r.2.1=q))
        have h4:((if ((rowOf u k).1,(rowOf u k).2.1)=((0:Int),q) then [(rowOf u k).2.2.1] else []).map g').sum=if a=q then g' c else 0:=by
          rw [kp,hra,hrc]
          by_cases z:a=q
          · rw [if_pos (by rw [z]),if_pos z];simp
          · rw [if_neg (fun w=>z (Prod.mk.inj w).2),if_neg z];rfl
        rw [h4] at s2
        have h3:((R.filter fun r=>decide (r.2.1=q)).map fun r=>D r.2.2.1).sum=_:=h3
        have s1:g q=((R.filter fun r=>decide (r.2.1=q)).map fun r=>g r.2.2.1).sum:=s1
        have s2:g' q=((R.filter fun r=>decide (r.2.1=q)).map fun r=>g' r.2.2.1).sum + (if a=q then g' c else 0):=s2
        omega
      rw [hD,Int.mul_add]
      congr 1
      by_cases z:a=q
      · rw [if_pos z,if_pos z,z]
      · rw [if_neg z,if_neg z,Int.mul_zero]
  have e2:((ups 0 n.toNat).map fun q=>b q * D q)=(ups 0 n.toNat).map fun q=>((R.filter fun r=>decide (r.2.2.1=q)).map fun r=>b r.2.1 * D r.2.2.1).sum + (if (0:Int)=q then D 0 else 0):=by
    refine List.map_congr_left fun q hq=>?_
    have qb:=aL.mp hq
    have fq:((R.filter fun r=>decide (r.2.2.1=q)).map fun r=>b r.2.1 * D r.2.2.1).sum=(((R.filter fun r=>decide (r.2.2.1=q)).map fun r=>b r.2.1).sum) * D q:=by
      rw [← i6]
      congr 1
      refine List.map_congr_left fun r hr=>?_
      rw [of_decide_eq_true (List.mem_filter.mp hr).2]
    rw [fq]
    by_cases h0:q=0
    · have hf:(R.filter fun r=>decide (r.2.2.1=q))=[]:=List.filter_eq_nil_iff.mpr fun r hr=>by
        have:=sA hu hR (hRm r hr).1 (hRm r hr).2
        simp;omega
      rw [hf,h0,hB.zero,if_pos rfl];simp
    · have:=hB.step q qb.1 (by rw [hn];omega) h0
      rw [jc,List.map_map] at this
      have this:b q=((R.filter fun r=>decide (r.2.2.1=q)).map fun r=>b r.2.1).sum:=this
      rw [if_neg (by omega),← this];omega
  have t1:=congrArg List.sum e1
  have t2:=congrArg List.sum e2
  rw [sum_add,wK R fb,iH a0,if_pos (by omega)] at t1
  rw [sum_add,wK R tb,iH (Int.le_refl 0),if_pos (by omega)] at t2
  have hD0:D 0=b a * g' c:=by omega
  have hD0:g' 0 - g 0=b a * g' c:=hD0
  rw [← ec];omega
end K1
namespace Fc
open PySem PySem.Spec PySem.W PySem.Calls L2
open PyProof.Rows hiding St
theorem wH {X:Cx}{Γ Γ1:Ga}{N:Ga→Prop}{α:Type}{S:bS}{x:Str}{k:Nat}{e:Expr}{es:List Expr}{p p2 p3 pos spos:Pos}{j:Nat}{ps:List Pk}{r:Rep α}{PL:List α→Prop}{Pd:α→Prop}(C:aA X.prog X.w X.K X.mg X.base x k (aG S X.K))(hr:bN k X.A)(ha:HA X (e::es) Γ ps Γ1)(hS:S X.K ps (hU X.K r PL))(h:∀L,PL L→∃y,L[0]?=some y∧Pd y)
    (hg:autoParam (Gl X x) Fc.ag) (hdb:autoParam ((x==("__debug__":Str))=false) Fc.aw) (he:autoParam (starEach (e::es) X.env=(false,eval e X.env)::starEach es X.env) Fc.ag) (hpl:autoParam ((backTo p2 (starEach es X.env)).any (·.1)=false) Fc.ag):
    W1 X (.Return (some (.Subscript (.Call (.Name x p) (e::es) [] p2) (.Constant (.int 0) j p3) spos)) pos) Γ N (bP X.K r Pd):=fun σ H0 R0 H R E D dn dr=>by
  refine sS (dB aH) (eS (fm dX aH dm (fun _ _=>rfl)) (c5 C hr ha hS E (fun H1 R1 v H' R' E1 s1 xx t=>?_) hg hdb he hpl))
  obtain ⟨a,vs,ys,rfl,h0,h1,h2,pp,hz,hL⟩:=t
  obtain ⟨y,hy,hP⟩:=h ys hL
  have hv:∃v0,vs[0]?=some v0∧r.R X.K R' v0 y:=by
    cases pp with
    | nil=>simp at hy
    | cons hh _=>simp at hy;subst hy;exact ⟨_,rfl,hh⟩
  obtain ⟨v0,e0,hr0⟩:=hv
  have l0:0 < vs.length:=(List.getElem?_eq_some_iff.mp e0).1
  exact ⟨a,_,0,v0,rfl,rfl,aX.of h1,by rw [dD (by decide) (by omega)];exact e0,dr v0 H' R' (E1.grow xx).ext ⟨y,hr0,hP⟩⟩
end Fc
namespace K1
open PySem L2 Fc
open PySem.Spec hiding Row
open PyProof.Rows hiding St
open PySem.Builtin.Int (intBits)
theorem kS:∀(ns:List Int),ns≠[]→most ns∈ns∧∀a∈ns,a≤most ns
  | [],h=>absurd rfl h
  | [x],_=>by simp [most]
  | x ::y::r,_=>by
    obtain ⟨h1,h2⟩:=kS (y::r) (by simp)
    have e:most (x::y::r)=max x (most (y::r)):=rfl
    rw [e]
    refine ⟨?_,fun a ha=>?_⟩
    · rcases Int.le_total x (most (y::r)) with h | h
      · rw [Int.max_eq_right h];exact List.mem_cons_of_mem _ h1
      · rw [Int.max_eq_left h];exact List.mem_cons_self
    · rcases List.mem_cons.mp ha with rfl | ha
      · exact Int.le_max_left _ _
      · exact Int.le_trans (h2 a ha) (Int.le_max_right _ _)
noncomputable def pP (v:av)(p:Int)(ns:List Int):Bool:=((ns.filter fun _=>true).map fun n=>true&&(decide (0≤n)&&decide (n < onG v p 0))).all id
section
variable {P:Program}{w:World}{K:PySem.W.Frag}{mg:Str→Option Value}{base:Heap}{f:Addr}{fd:FuncData}
noncomputable abbrev m4:Stmt:=top vq
theorem ud:aE ["web","part"] ["web","part"] (ah m4):=⟨rfl,rfl,rfl,by decide +kernel,rfl,by decide +kernel,by decide +kernel⟩
noncomputable def vO:bS:=fun K ps T=>∃(v:av) (p:Int),ps=[⟨cg,v⟩,⟨ab,p⟩]∧aV v∧0≤p∧p < (v.1.length:Int)∧bj v.2 p.toNat∧T=bP K ab (· =onG v p 0)
theorem wO (M:bX mg)(CO:aA P w K mg base "need_loose" 9 (aG rD K))(CN:aA P w K mg base "ways_on" 2 (aG nU K))(F:bL K "ways" "ways" m4 f fd)(hm:mg "ways"=some (.ref f))(hb:Binds K fd ["web","part"] []):aA P w K mg base "ways" 10 (aG vO K):=by
  have nd:=ud.nd
  have CN:=CN.mono (show 2≤9 by decide)
  obtain ⟨t2,hB⟩:=M.begin_
  refine bJ F ud hm hb (fun qs T ⟨_,_,e,_⟩=>by rw [e];rfl) (fun cdv A outer s H E qs T hr hS=>?_)
  obtain ⟨v,p,rfl,hv,p0,p1,hR,rfl⟩:=hS
  have hu:(A.deeper (envOfC "ways" (ah m4) s.heap.objs.size f cdv)).units + 1 < cLine:=Nat.lt_of_le_of_lt (Nat.add_le_add_left (by decide:1≤64) _) hr.units
  have hs:=hv.sz (v.1.getD p.toNat 0) (by rw [List.getD_eq_getElem?_getD,List.getElem?_eq_getElem (by omega)];exact List.getElem_mem _)
  change WS _ _ [.im (aF (af ab) (af aI)) v,.im ab p] _ _
  refine ai (fv CO hr (ae (aa 0 rfl) (ae (aa 1 rfl) ao)) ⟨v,p,rfl,hv,p0,p1,hR,rfl⟩ ?_)
  exact ar (bH (gM hu CN hr (ae (aa 0 rfl) (ae (aa 1 rfl) ao)) ⟨v,p,rfl,hv,p0,p1,hR,rfl⟩ (cA hB) (fun F ⟨h1,h2⟩=>df.get hv p0 p1 hR h1 h2 (by omega) (by omega))) rfl)
noncomputable def wo:bS:=fun K ps T=>∃(v:av) (p:Int),ps=[⟨cg,v⟩,⟨ab,p⟩]∧aV v∧0≤p∧p < (v.1.length:Int)∧bj v.2 p.toNat∧T=hU K ab (· =bt v p (onG v p))
theorem wG (CO:aA P w K mg base "need_loose" 9 (aG rD K))(CI:aA P w K mg base "worths_in" 3 (aG om K))(F:bL K "worths" "worths" rH f fd)(hm:mg "worths"=some (.ref f))(hb:Binds K fd ["web","part"] []):aA P w K mg base "worths" 10 (aG wo K):=by
  have nd:=o8.nd
  have CI:=CI.mono (show 3≤9 by decide)
  refine bJ F o8 hm hb (fun qs T ⟨_,_,e,_⟩=>by rw [e];rfl) (fun cdv A outer s H E qs T hr hS=>?_)
  obtain ⟨v,p,rfl,hv,p0,p1,hR,rfl⟩:=hS
  change WS _ _ [.im (aF (af ab) (af aI)) v,.im ab p] _ _
  refine ai (fv CO hr (ae (aa 0 rfl) (ae (aa 1 rfl) ao)) ⟨v,p,rfl,hv,p0,p1,hR,rfl⟩ ?_)
  exact ar (oG CI hr (ae (aa 0 rfl) (ae (aa 1 rfl) ao)) ⟨v,p,rfl,hv,p0,p1,hR,rfl⟩ fun z h=>by obtain ⟨g,hE,e⟩:=h;rw [e];exact fj hv p0 p1 hR hE (cw hv p0 p1 hR))
noncomputable abbrev rT:Stmt:=top mx
noncomputable abbrev AE:List Str:=["web","part","way","known"]
theorem wq:aE AE ["web","part","way"] (ah rT):=⟨rfl,rfl,rfl,by decide +kernel,rfl,by decide +kernel,by decide +kernel⟩
noncomputable def Ax:bS:=fun K ps T=>∃(v:av) (p:Int) (xs:List Int),ps=[⟨cg,v⟩,⟨ab,p⟩,⟨af ab,xs⟩]∧aV v∧0≤p∧p < (v.1.length:Int)∧bj v.2 p.toNat∧xs.length≤1000∧cT v p 0 xs=true∧T=bP K ab (· =(xs.map (aT v p (onG v p))).sum)
theorem zx (M:bX mg)(CT:aA P w K mg base "worths" 10 (aG om K))(CL:aA P w K mg base "leads_through" 4 (aG AH K))(F:bL K "number_of" "number_of" rT f fd)(hm:mg "number_of"=some (.ref f))(hb:Binds K fd ["web","part","way"] []):aA P w K mg base "number_of" 11 (aG Ax K):=by
  have nd:=wq.nd
  have nd1:List.Nodup [("number":Str),"known"]:=by decide
  have CL:=CL.mono (show 4≤10 by decide)
  refine bJ F wq hm hb (fun qs T ⟨_,_,_,e,_⟩=>by rw [e];rfl) (fun cdv A outer s H E qs T hr hS=>?_)
  obtain ⟨v,p,xs,rfl,hv,p0,p1,hR,hl,hc,rfl⟩:=hS
  have rl:=hv.rl
  change WS _ _ [.im (aF (af ab) (af aI)) v,.im ab p,.im (af ab) xs,.no] _ _
  refine ai (kZ 3 CT hr (ae (aa 0 rfl) (ae (aa 1 rfl) ao)) ⟨v,p,rfl,hv,p0,p1,hR,rfl⟩ ?_)
  rintro ws ⟨g,hE,rfl⟩ hz
  rw [fj hv p0 p1 hR hE (cw hv p0 p1 hR)] at hz ⊢
  generalize onG v p=g at hz
  have wl:(bt v p g).length=v.2.length:=by unfold bt;rw [List.length_map,az]
  refine WS.freeze 3 rfl hz ?_
  refine ai (bY (bZ (bR (aP CL hr (ae (aa 0 rfl) (ae (aa 1 rfl) (ae (aa 2 rfl) ao))) ⟨v,p,xs,rfl,hl,rfl⟩))) (fun h=>by rw [hc] at h;exact absurd h (by decide)) (fun _=>bB ?_))
  refine ar (bH (jR M.sum (bb.im (aU (own:=["number"]) (fr:=["known"]) (ix:=[3]) (ra:=ab) (rb:=ab) (p:=fun _=>true) (f:=fun k=>(bt v p g).getD k.toNat 0) (aJ (so:=ah rT) (N0:=AE) rfl rfl (fun x h=>aC h) (by decide +kernel)) (aN (aa 2 rfl))
    (fun C s H ex=>aB 0) (fun x=>⟨.inr rfl,.inl rfl,trivial⟩) (fun C s H ex x hx=>br) (fun C s H ex x hx h=>aQ (aa 1 rfl) (aa 0 rfl) (by have:=gB hc x hx;exact cj this.1 (by omega)))))) ?_)
  rw [List.filter_eq_self.mpr (by simp)]
  congr 1
  exact List.map_congr_left fun k hk=>de (gB hc k hk).1 (gB hc k hk).2
noncomputable abbrev mz:Stmt:=top pK
noncomputable abbrev wB:List Str:=["web","part","numbers","known","count","leaving"]
theorem xM:aE wB ["web","part","numbers"] (ah mz):=⟨rfl,rfl,rfl,by decide +kernel,rfl,by decide +kernel,by decide +kernel⟩
noncomputable def Af:bS:=fun K ps T=>∃(v:av) (p:Int) (ns:List Int),ps=[⟨cg,v⟩,⟨ab,p⟩,⟨af ab,ns⟩]∧aV v∧0≤p∧p < (v.1.length:Int)∧bj v.2 p.toNat∧ns.length≤1000∧pP v p ns=true∧T=hU K (af ab) fun L=>∃g,cu v p g∧L=ns.map (wayF v p g 17 0)
theorem y6 (M:bX mg)(CI:aA P w K mg base "is_whole" 1 (aG qX K))(CT:aA P w K mg base "worths_in" 3 (aG om K))(CN:aA P w K mg base "ways_on" 2 (aG nU K))(CL:aA P w K mg base "rows_leaving" 1 (aG (uD true) K))(CB:aA P w K mg base "way_by" 1 (aG AI K))(F:bL K "ways_of" "ways_of" mz f fd)(hm:mg "ways_of"=some (.ref f))(hb:Binds K fd ["web","part","numbers"] []):aA P w K mg base "ways_of" 11 (aG Af K):=by
  have nd:=xM.nd
  have nd1:List.Nodup [("number":Str),"count"]:=by decide
  have nd2:List.Nodup [("number":Str),"known","leaving","web"]:=by decide
  have CI:=CI.mono (show 1≤10 by decide)
  have CT:=CT.mono (show 3≤10 by decide)
  have CN:=CN.mono (show 2≤10 by decide)
  have CL:=CL.mono (show 1≤10 by decide)
  have CB:=CB.mono (show 1≤10 by decide)
  obtain ⟨t2,hB⟩:=M.begin_
  refine bJ F xM hm hb (fun qs T ⟨_,_,_,e,_⟩=>by rw [e];rfl) (fun cdv A outer s H E qs T hr hS=>?_)
  obtain ⟨v,p,ns,rfl,hv,p0,p1,hR,hl,hc,rfl⟩:=hS
  have hu:(A.deeper (envOfC "ways_of" (ah mz) s.heap.objs.size f cdv)).units + 1 < cLine:=Nat.lt_of_le_of_lt (Nat.add_le_add_left (by decide:1≤64) _) hr.units
  have rl:=hv.rl
  have hs:=hv.sz (v.1.getD p.toNat 0) (by rw [List.getD_eq_getElem?_getD,List.getElem?_eq_getElem (by omega)];exact List.getElem_mem _)
  change WS _ _ [.im (aF (af ab) (af aI)) v,.im ab p,.im (af ab) ns,.no,.no,.no] _ _
  refine ai (kZ 3 CT hr (ae (aa 0 rfl) (ae (aa 1 rfl) ao)) ⟨v,p,rfl,hv,p0,p1,hR,rfl⟩ ?_)
  rintro ws ⟨g,hE,rfl⟩ hz
  refine WS.freeze 3 rfl hz ?_
  refine ai (aZ 4 (y:=onG v p 0) (gM hu CN hr (ae (aa 0 rfl) (ae (aa 1 rfl) ao)) ⟨v,p,rfl,hv,p0,p1,hR,rfl⟩ (cA hB) (fun F ⟨h1,h2⟩=>df.get hv p0 p1 hR h1 h2 (by omega) (by omega))) ?_)
  refine ai (bY (bZ (bR (EV.cast (y':=pP v p ns) (dC M.all (bb.im (aU (own:=["number"]) (fr:=["count"]) (ix:=[4]) (ra:=ab) (rb:=aK) (p:=fun _=>true) (f:=fun n=>true&&(decide (0≤n)&&decide (n < onG v p 0))) (aJ (so:=ah mz) (N0:=wB) rfl rfl (fun x h=>aC h) (by decide +kernel)) (aN (aa 2 rfl))
    (fun C s H ex=>aB 0) (fun x=>⟨.inr rfl,.inl rfl,trivial⟩) (fun C s H ex x hx=>br) (fun C s H ex x hx h=>d8 (aP CI hr (ae (aa 0 rfl) ao) ⟨x,rfl,rfl⟩) (fun _=>ei (fN eL dM au (aa 0 rfl) (aa 1 rfl))))))) rfl))) (fun h=>by rw [hc] at h;exact absurd h (by decide)) (fun _=>bB ?_))
  refine ai (aZ 5 (bb.im (fQ CL hr (ae (aa 0 rfl) (ae (aa 1 rfl) ao)) ⟨v,p,rfl,hv,p0,p1,rfl⟩)) ?_)
  have ok:∀x∈ns,0≤x∧x < g 0:=fun x hx=>by
    unfold pP at hc
    have:=all_map.mp hc x hx
    have:=Bool.and_eq_true_iff.mp (by simpa using this:(decide (0≤x)&&decide (x < onG v p 0))=true)
    have e:=hE.uniq hv p0 hR (cw hv p0 p1 hR) 0 (by decide) (by omega)
    rw [e]
    exact ⟨of_decide_eq_true this.1,of_decide_eq_true this.2⟩
  refine ar (wy (aU (own:=["number"]) (fr:=["known","leaving","web"]) (ix:=[3,5,0]) (ra:=ab) (rb:=af ab) (p:=fun _=>true) (f:=wayF v p g 17 0) (aJ (so:=ah mz) (N0:=wB) rfl rfl (fun x h=>aC h) (by decide +kernel)) (aN (aa 2 rfl))
    (fun C s H ex=>aB 0) (fun x=>⟨.inr rfl,.inl rfl,.inl rfl,.inl rfl,trivial⟩) (fun C s H ex x hx=>br) (fun C s H ex x hx h=>aP CB hr (ae (aa 3 rfl) (ae (aa 1 rfl) (ae (aa 2 rfl) (ae (aa 0 rfl) ao)))) ⟨v,p,g,x,rfl,hv,p0,p1,hR,hE,(ok x hx).1,(ok x hx).2,rfl⟩)) ⟨g,hE,?_⟩)
  rw [List.filter_eq_self.mpr (by simp)]
noncomputable abbrev tN:Stmt:=top rF
theorem xS:aE ["web","part","number"] ["web","part","number"] (ah tN):=⟨rfl,rfl,rfl,by decide +kernel,rfl,by decide +kernel,by decide +kernel⟩
noncomputable def Aa:bS:=fun K ps T=>∃(v:av) (p n:Int),ps=[⟨cg,v⟩,⟨ab,p⟩,⟨ab,n⟩]∧aV v∧0≤p∧p < (v.1.length:Int)∧bj v.2 p.toNat∧0≤n∧n < onG v p 0∧T=bP K (af ab) (· =wayF v p (onG v p) 17 0 n)
theorem md {v:av}(hv:aV v){p:Int}(p0:0≤p)(p1:p < (v.1.length:Int))(hR:bj v.2 p.toNat){g g':Int→Int}(h:cu v p g)(h':cu v p g'):∀(m:Nat) (q left:Int),wayF v p g m q left=wayF v p g' m q left:=by
  have e:=fj hv p0 p1 hR h h'
  have en:∀left,bM v p g left=bM v p g' left:=fun left=>by funext x;unfold bM;rw [e]
  intro m
  induction m with
  | zero=>intro q left;rfl
  | succ m ih=>
    intro q left
    unfold wayF
    rw [en left]
    by_cases z:q=1
    · rw [if_pos z,if_pos z]
    · rw [if_neg z,if_neg z]
      have hw:aT v p g (most ((fromF v p q).filter (bM v p g' left)))=aT v p g' (most ((fromF v p q).filter (bM v p g' left))):=by
        generalize hmm:most ((fromF v p q).filter (bM v p g' left))=x
        by_cases b:0≤x∧x < (v.2.length:Int)
        · rw [← de b.1 b.2,← de b.1 b.2,e]
        · by_cases hn:(fromF v p q).filter (bM v p g' left)=[]
          · rw [hn] at hmm
            have hx:x=most []:=hmm.symm
            exact absurd ⟨by rw [hx];decide,by rw [hx];have:=hv.rl;show (0:Int) < _;omega⟩ b
          · have:=(kS _ hn).1
            rw [hmm] at this
            obtain ⟨a1,a2,_⟩:=bC (List.mem_filter.mp this).1
            exact absurd ⟨a1,a2⟩ b
      rw [hw,ih]
theorem zr (CO:aA P w K mg base "need_loose" 9 (aG rD K))(CS:aA P w K mg base "ways_of" 11 (aG Af K))(F:bL K "way_of" "way_of" tN f fd)(hm:mg "way_of"=some (.ref f))(hb:Binds K fd ["web","part","number"] []):aA P w K mg base "way_of" 12 (aG Aa K):=by
  have nd:=xS.nd
  have CO:=CO.mono (show 9≤11 by decide)
  refine bJ F xS hm hb (fun qs T ⟨_,_,_,e,_⟩=>by rw [e];rfl) (fun cdv A outer s H E qs T hr hS=>?_)
  obtain ⟨v,p,n,rfl,hv,p0,p1,hR,n0,n1,rfl⟩:=hS
  change WS _ _ [.im cg v,.im ab p,.im ab n] _ _
  refine ai (fv CO hr (ae (aa 0 rfl) (ae (aa 1 rfl) ao)) ⟨v,p,rfl,hv,p0,p1,hR,rfl⟩ ?_)
  refine ar (wH CS hr (ae (aa 0 rfl) (ae (aa 1 rfl) (ae (bb.im (bh (r:=ab) (aO (aa 2 rfl) bF) (by show 1≤sizeLine;decide))) ao))) ⟨v,p,[n],rfl,hv,p0,p1,hR,by simp,by unfold pP;simp [n0,n1],rfl⟩ ?_)
  rintro L ⟨g,hE,rfl⟩
  exact ⟨_,rfl,md hv p0 p1 hR hE (cw hv p0 p1 hR) 17 0 n⟩
noncomputable abbrev uy:Stmt:=top ny
noncomputable abbrev nGO:List Str:=["_law_web_here","_law_part_here","_law_rows","_law_here","_law_k"]
theorem wb:aE nGO ["_law_web_here","_law_part_here","_law_rows"] (ah uy):=⟨rfl,rfl,rfl,by decide +kernel,rfl,by decide +kernel,by decide +kernel⟩
noncomputable def Az:bS:=fun K ps T=>∃(v:av) (p:Int) (xs:List Int),ps=[⟨cg,v⟩,⟨ab,p⟩,⟨af ab,xs⟩]∧v.2.length≤60∧xs.length≤1000∧T=bP K aK (· =cT v p 0 xs)
theorem za (CF:aA P w K mg base "_law_from" 1 (aG yF K))(F:bL K "_law_goes" "_law_goes" uy f fd)(hm:mg "_law_goes"=some (.ref f))(hb:Binds K fd ["_law_web_here","_law_part_here","_law_rows"] []):aA P w K mg base "_law_goes" 2 (aG Az K):=by
  have nd:=wb.nd
  refine bJ F wb hm hb (fun qs T ⟨_,_,_,e,_⟩=>by rw [e];rfl) (fun cdv A outer s H E qs T hr hS=>?_)
  obtain ⟨v,p,xs,rfl,rl,hl,rfl⟩:=hS
  change WS _ _ [.im (aF (af ab) (af aI)) v,.im ab p,.im (af ab) xs,.no,.no] _ _
  refine ai (aZ 3 au ?_)
  refine ai (cZ (r:=ab) (fun i Γ=>∃q v4,Γ=[.im (aF (af ab) (af aI)) v,.im ab p,.im (af ab) xs,.im ab q,v4]∧cT v p 0 xs=cT v p q (xs.drop i)) (aN (aa 2 rfl)) (aB 4) ⟨0,_,rfl,rfl⟩ ?_ ?_)
  · rintro i k Γ hk ⟨q,v4,rfl,hc⟩
    have hd:xs.drop i=k::xs.drop (i + 1):=by
      obtain ⟨h1,h2⟩:=List.getElem?_eq_some_iff.mp hk
      rw [List.drop_eq_getElem_cons h1,h2]
    rw [hd,cT,fI] at hc
    refine ai (bY (bD uR (aa 4 rfl) (aP CF hr (ae (aa 0 rfl) (ae (aa 1 rfl) (ae (aa 3 rfl) ao))) ⟨v,p,q,rfl,rl,rfl⟩)) (fun h=>?_) (fun h=>bB ?_))
    · have h:decide (k∈fromF v p q)=false:=by simpa using h
      refine ar (bH dt ?_)
      rw [hc,h];rfl
    · have h:decide (k∈fromF v p q)=true:=by simpa using h
      obtain ⟨k0,k1,_⟩:=bC (of_decide_eq_true h)
      refine ar (aZ 3 (y:=bA v k) (cS (aQ (y:=rowOf v k) (bc (aa 0 rfl)) (aa 4 rfl) (bV bI k0 k1))) ?_)
      exact ⟨bA v k,_,rfl,by rw [hc,h];rfl⟩
  · rintro Γ ⟨q,v4,rfl,hc⟩
    rw [List.drop_length] at hc
    refine ar (bH (dP dA (aa 3 rfl) au) ?_)
    rw [hc,cT]
noncomputable abbrev oF:Stmt:=top lM
noncomputable abbrev xY:List Str:=["_law_web_here","_law_part_here","_law_own"]
theorem wX:aE xY ["_law_web_here","_law_part_here"] (ah oF):=⟨rfl,rfl,rfl,by decide +kernel,rfl,by decide +kernel,by decide +kernel⟩
noncomputable def Aw:bS:=fun K ps T=>∃(v:av) (p:Int),ps=[⟨cg,v⟩,⟨ab,p⟩]∧aV v∧0≤p∧p < (v.1.length:Int)∧T=bP K (aF (af ab) cg) (· =(bz v p,aq v p))
theorem zm (M:bX mg)(F:bL K "_law_alone" "_law_alone" oF f fd)(hm:mg "_law_alone"=some (.ref f))(hb:Binds K fd ["_law_web_here","_law_part_here"] []):aA P w K mg base "_law_alone" 1 (aG Aw K):=by
  have nd:=wX.nd
  have nd1:List.Nodup [("_law_k":Str),"_law_part_here","_law_web_here"]:=by decide
  have nd2:List.Nodup [("_law_k":Str),"_law_web_here"]:=by decide
  refine bJ F wX hm hb (fun qs T ⟨_,_,e,_⟩=>by rw [e];rfl) (fun cdv A outer s H E qs T hr hS=>?_)
  obtain ⟨v,p,rfl,hv,p0,p1,rfl⟩:=hS
  have rl:=hv.rl
  have ol:=j7 v p
  change WS _ _ [.im (aF (af ab) (af aI)) v,.im ab p,.no] _ _
  refine ai (gp 2 (own:=["_law_k"]) (fr:=["_law_part_here","_law_web_here"]) (ix:=[1,0]) (ra:=ab) (rb:=ab) (p:=fun k=>decide ((rowOf v k).1=p)) (f:=fun k=>k) (aJ (so:=ah oF) (N0:=xY) rfl rfl (fun x h=>aC h) (by decide +kernel)) (cR M.range (cN M.len (bc (aa 0 rfl))) ⟨by omega,by omega⟩)
    (fun C s H ex=>aB 0) (fun x=>⟨.inr rfl,.inl rfl,.inl rfl,trivial⟩) (fun C s H ex x hx=>d5 (bD dA (dW (aQ (y:=rowOf v x) (bc (aa 2 rfl)) (aa 0 rfl) (by have:=aL.mp hx;exact bV bI this.1 (by omega)))) (aa 1 rfl))) (fun C s H ex x hx _=>aa 0 rfl) ?_)
  have e1:((ups 0 ((v.2.length:Int)).toNat).filter fun k=>decide ((rowOf v k).1=p)).map (fun k=>k)=bz v p:=by rw [List.map_id',show ((v.2.length:Int)).toNat=v.2.length by omega];rfl
  rw [e1]
  refine WS.freeze 2 rfl (bo (by omega)) ?_
  have e2:(((bz v p).filter fun _=>true).map fun k=>((0,(rowOf v k).2.1,(rowOf v k).2.2.1, -1):Row))=(aq v p).2:=by rw [List.filter_eq_self.mpr (by simp)];rfl
  have atk:∀x∈bz v p,cI v.2 x=some (rowOf v x):=fun x hx=>by have:=dI hx;exact bV bI this.1 this.2.1
  exact ar (bH (da (ae (aa 2 rfl) (ae (da (ae (bb.im (bh (r:=ab) (aO (aQ (cY (aa 0 rfl)) (aa 1 rfl) (cj p0 p1)) bF) (by show 1≤sizeLine;decide))) (ae (EV.cast (bb.im (aU (own:=["_law_k"]) (fr:=["_law_web_here"]) (ix:=[0]) (ra:=ab) (rb:=aI) (p:=fun _=>true) (f:=fun k=>((0,(rowOf v k).2.1,(rowOf v k).2.2.1, -1):Row)) (aJ (so:=ah oF) (N0:=xY) rfl rfl (fun x h=>aC h) (by decide +kernel)) (aN (aa 2 rfl))
    (fun C s H ex=>aB 0) (fun x=>⟨.inr rfl,.inl rfl,trivial⟩) (fun C s H ex x hx=>br) (fun C s H ex x hx _=>vY (ae au (ae (c9 (aQ (bc (aa 1 rfl)) (aa 0 rfl) (atk x hx))) (ae (cS (aQ (bc (aa 1 rfl)) (aa 0 rfl) (atk x hx))) (ae (mi au) ao))))))) e2) ao))) ao))) rfl)
end
theorem ff.get {v:av}{p:Int}{F:List (Int×Int)}(h:ff v p F)(hs:v.1.getD p.toNat 0≤(F.length:Int)){q:Int}(q0:0≤q)(q1:q < v.1.getD p.toNat 0):bq F q=some (gF F q):=by
  have:=dE.mpr (h.all hs q q0 q1)
  unfold gF
  cases e:bq F q with
  | none=>rw [e] at this;cases this
  | some y=>rfl
section
variable {P:Program}{w:World}{K:PySem.W.Frag}{mg:Str→Option Value}{base:Heap}{f:Addr}{fd:FuncData}
noncomputable abbrev jx:Stmt:=top jG
noncomputable abbrev pW:List Str:=["_law_web_here","_law_part_here","_law_k","_law_before","_law_own","_law_place","_law_rows"]
noncomputable abbrev Al:List Str:=["_law_web_here","_law_part_here","_law_k"]
theorem xo:aE pW Al (ah jx):=⟨rfl,rfl,rfl,by decide +kernel,rfl,by decide +kernel,by decide +kernel⟩
noncomputable def Ag:bS:=fun K ps T=>∃(v:av) (p k:Int) (j:Nat),ps=[⟨cg,v⟩,⟨ab,p⟩,⟨ab,k⟩]∧aV v∧v.2.length≤30∧0≤p∧p < (v.1.length:Int)∧bj v.2 p.toNat∧(bz v p)[j]?=some k∧T=bP K ab (· =onG (aR (aq v p) (j:Int)) 0 0 - onG v p 0)
theorem ze    (M:bX mg)(CO:aA P w K mg base "_law_on" 2 (aG nU K))(F:bL K "_law_through" "_law_through" jx f fd)(hm:mg "_law_through"=some (.ref f))(hb:Binds K fd Al []):aA P w K mg base "_law_through" 3 (aG Ag K):=by
  have nd:=xo.nd
  have nd1:List.Nodup [("_law_j":Str),"_law_part_here","_law_web_here"]:=by decide
  have nd2:List.Nodup [("_law_j":Str),"_law_place","_law_web_here"]:=by decide
  have nd3:List.Nodup [("_law_j":Str),"_law_before","_law_web_here"]:=by decide
  refine bJ F xo hm hb (fun qs T ⟨_,_,_,_,e,_⟩=>by rw [e];rfl) (fun cdv A outer s H E qs T hr hS=>?_)
  obtain ⟨v,p,k,j,rfl,hv,hv30,p0,p1,hR,hj,rfl⟩:=hS
  have hk:=List.mem_of_getElem? hj
  have hu:(A.deeper (envOfC "_law_through" (ah jx) s.heap.objs.size f cdv)).units + 1 < cLine:=Nat.lt_of_le_of_lt (Nat.add_le_add_left (by decide:1≤64) _) hr.units
  have pl:=hv.pl
  have rl:=hv.rl
  have ol:=j7 v p
  have hs:=hv.sz (v.1.getD p.toNat 0) (by rw [List.getD_eq_getElem?_getD,List.getElem?_eq_getElem (by omega)];exact List.getElem_mem _)
  change WS _ _ [.im (aF (af ab) (af aI)) v,.im ab p,.im ab k,.no,.no,.no,.no] _ _
  refine ai (iI 3 lg dm ?_)
  refine ai (gp 4 (own:=["_law_j"]) (fr:=["_law_part_here","_law_web_here"]) (ix:=[1,0]) (ra:=ab) (rb:=ab) (p:=fun k=>decide ((rowOf v k).1=p)) (f:=fun k=>k) (aJ (so:=ah jx) (N0:=pW) rfl rfl (fun x h=>aC h) (by decide +kernel)) (cR M.range (cN M.len (bc (aa 0 rfl))) ⟨by omega,by omega⟩)
    (fun C s H ex=>aB 0) (fun x=>⟨.inr rfl,.inl rfl,.inl rfl,trivial⟩) (fun C s H ex x hx=>d5 (bD dA (dW (aQ (y:=rowOf v x) (bc (aa 2 rfl)) (aa 0 rfl) (by have:=aL.mp hx;exact bV bI this.1 (by omega)))) (aa 1 rfl))) (fun C s H ex x hx _=>aa 0 rfl) ?_)
  have e1:((ups 0 ((v.2.length:Int)).toNat).filter fun k=>decide ((rowOf v k).1=p)).map (fun k=>k)=bz v p:=by rw [List.map_id',show ((v.2.length:Int)).toNat=v.2.length by omega];rfl
  rw [e1]
  refine WS.freeze 4 rfl (bo (by omega)) ?_
  have ato:∀x∈bz v p,cI v.2 x=some (rowOf v x):=fun x hx=>by have:=dI hx;exact bV bI this.1 this.2.1
  have o0:ff v p [(0,1)]:=⟨rfl,by simp,fun q hq=>by (have:q=0:=by simpa using hq);omega,fun q hq qn=>absurd (show q=0 by simpa using hq) qn⟩
  refine ai (gr (fun m Γ=>∃F v5 v6,Γ=[.im (aF (af ab) (af aI)) v,.im ab p,.im ab k,.di (cC F),.im (af ab) (bz v p),v5,v6]∧ff v p F∧m=(v.1.getD p.toNat 0 - (F.length:Int)).toNat) ⟨[(0,1)],_,_,rfl,o0,rfl⟩ ?_)
  rintro m Γ ⟨F,v5,v6,rfl,hO,rfl⟩
  have hle:=hO.le (by omega)
  refine ⟨_,_,TV.frz (eP (i:=3) rfl) (bD dM (jk M.len (aa 3 rfl)) (aQ (cY (aa 0 rfl)) (aa 1 rfl) (cj p0 p1))),fun h=>?_,fun h=>?_⟩
  · have h : (F.length:Int) < v.1.getD p.toNat 0:=of_decide_eq_true h
    obtain ⟨qs,s0,s1,sn,sg⟩:=hO.next hv p0 hR h
    refine ar (cZ (r:=ab) (fun i Γ=>∃G v5 v6,Γ=[.im (aF (af ab) (af aI)) v,.im ab p,.im ab k,.di (cC G),.im (af ab) (bz v p),v5,v6]∧ff v p G∧(∀z∈F.map (·.1),z∈G.map (·.1))∧F.length≤G.length∧(qs < (i:Int)→F.length < G.length))
      (cR M.range (aQ (cY (aa 0 rfl)) (aa 1 rfl) (cj p0 p1)) ⟨by omega,by omega⟩) (aB 5) ⟨F,_,_,rfl,hO,fun z hz=>hz,Nat.le_refl _,fun e=>by omega⟩ ?_ ?_)
    · rintro i q Γ hq ⟨G,v5,v6,rfl,hG,hsub,hfl,hq1⟩
      have qb:=aL.mp (List.mem_of_getElem? hq)
      obtain ⟨hi,eq⟩:=fL hq
      refine ai (gp 6 (own:=["_law_j"]) (fr:=["_law_place","_law_web_here"]) (ix:=[5,0]) (ra:=ab) (rb:=ab) (p:=fun j=>decide ((rowOf v j).2.2.1=q)) (f:=fun j=>j) (aJ (so:=ah jx) (N0:=pW) rfl rfl (fun x h=>aC h) (by decide +kernel)) (aN (aa 4 rfl))
        (fun C s H ex=>aB 0) (fun x=>⟨.inr rfl,.inl rfl,.inl rfl,trivial⟩) (fun C s H ex x hx=>d5 (bD dA (cS (aQ (y:=rowOf v x) (bc (aa 2 rfl)) (aa 0 rfl) (ato x hx))) (aa 1 rfl))) (fun C s H ex x hx _=>aa 0 rfl) ?_)
      have e2:((bz v p).filter fun j=>decide ((rowOf v j).2.2.1=q)).map (fun j=>j)=gc v p q:=by rw [List.map_id'];rfl
      rw [e2]
      have gl:(gc v p q).length≤60:=by
        unfold gc
        exact Nat.le_trans (List.length_filter_le _ _) (by omega)
      refine WS.freeze 6 rfl (bo (by omega)) ?_
      change WS _ _ [.im (aF (af ab) (af aI)) v,.im ab p,.im ab k,.di (cC G),.im (af ab) (bz v p),.im ab q,.im (af ab) (gc v p q)] _ _
      have atr:∀x∈gc v p q,cI v.2 x=some (rowOf v x):=fun x hx=>ato x (List.mem_filter.mp hx).1
      have inp:∀x∈gc v p q,(rowOf v x).2.1∈dz v p q:=fun x hx=>List.mem_map.mpr ⟨x,hx,rfl⟩
      have mem:∀z,(bq G z).isSome=true↔z∈G.map (·.1):=fun z=>dE
      have hglen:=hG.le (by omega)
      refine ar (bY (TW.tv (iF (iG 3 true hu (aa 5 rfl) rfl) (fun _=>iO (TV.frz (eP (i:=3) rfl) (bR (dC M.all (bb.im (aU (own:=["_law_j"]) (fr:=["_law_before","_law_web_here"]) (ix:=[3,0]) (ra:=ab) (rb:=aK) (p:=fun _=>true) (f:=fun j=>(bq G (rowOf v j).2.1).isSome) (aJ (so:=ah jx) (N0:=pW) rfl rfl (fun x h=>aC h) (by decide +kernel)) (aN (aa 6 rfl))
        (fun C s H ex=>aB 0) (fun x=>⟨.inr rfl,.inl rfl,.inl rfl,trivial⟩) (fun C s H ex x hx=>br) (fun C s H ex x hx _=>kO hu (c9 (aQ (bc (aa 2 rfl)) (aa 0 rfl) (atr x hx))) (aa 1 rfl)))))))))) (fun h=>?_) (fun h=>bB ?_))
      · obtain ⟨h1,h2⟩:=Bool.and_eq_true_iff.mp h
        have h1:q∉G.map (·.1):=fun w=>by
          have:=(mem q).mpr w
          rw [← eB] at this
          simp [this] at h1
        have h2:∀z∈dz v p q,z∈G.map (·.1):=fun z hz=>by
          obtain ⟨j,hj,rfl⟩:=List.mem_map.mp hz
          rw [List.all_eq_true] at h2
          exact (mem _).mp (h2 _ (List.mem_map.mpr ⟨j,List.mem_filter.mpr ⟨hj,rfl⟩,rfl⟩))
        have hg2:∀z∈dz v p q,bq G z=some (gF G z):=fun z hz=>by
          have:=(mem z).mpr (h2 z hz)
          unfold gF
          cases e:bq G z with
          | none=>rw [e] at this;cases this
          | some y=>rfl
        have hid2:(((gc v p q).filter fun _=>true).map fun j=>gF G (rowOf v j).2.1).sum=((dz v p q).map (gF G)).sum:=by
          rw [List.filter_eq_self.mpr (by simp)]
          unfold dz
          rw [List.map_map];rfl
        refine ar (lX 3 hu (aa 5 rfl) (EV.frz (eP (i:=3) rfl) (fun _ _ _ _ _ h=>h) (EV.cast (jR M.sum (bb.im (aU (own:=["_law_j"]) (fr:=["_law_before","_law_web_here"]) (ix:=[3,0]) (ra:=ab) (rb:=ab) (p:=fun _=>true) (f:=fun j=>gF G (rowOf v j).2.1) (aJ (so:=ah jx) (N0:=pW) rfl rfl (fun x h=>aC h) (by decide +kernel)) (aN (aa 6 rfl))
          (fun C s H ex=>aB 0) (fun x=>⟨.inr rfl,.inl rfl,.inl rfl,trivial⟩) (fun C s H ex x hx=>br) (fun C s H ex x hx _=>ir hu (aa 1 rfl) (c9 (aQ (bc (aa 2 rfl)) (aa 0 rfl) (atr x hx))) (hg2 _ (inp x hx)))))) hid2)) rfl (Nat.lt_of_le_of_lt (show G.length≤1000 by omega) (by decide)) ?_)
        have ep:e9 G q ((dz v p q).map (gF G)).sum=G++[(q,((dz v p q).map (gF G)).sum)]:=by
          unfold e9
          rw [if_neg (fun e=>h1 ((mem q).mp e))]
        refine ⟨G++[(q,((dz v p q).map (gF G)).sum)],_,_,by rw [ep];rfl,hG.add h1 qb.1 (by omega) h2,fun z hz=>?_,by rw [List.length_append];omega,fun _=>by rw [List.length_append];simp;omega⟩
        rw [List.map_append];exact List.mem_append_left _ (hsub z hz)
      · refine ⟨G,_,_,rfl,hG,hsub,hfl,fun hlt=>?_⟩
        by_cases e:qs < (i:Int)
        · exact hq1 e
        · have eqq:q=qs:=by omega
          subst eqq
          have hin:q∈G.map (·.1):=Classical.byContradiction fun no=>by
            have a1:(if true=true then !dN (cC G) q else dN (cC G) q)=true:=by
              rw [if_pos rfl,eB]
              cases e2:(bq G q).isSome with
              | false=>rfl
              | true=>exact absurd ((mem q).mp e2) no
            have a2:((((gc v p q).filter fun _=>true).map fun j=>(bq G (rowOf v j).2.1).isSome).all id)=true:=by
              rw [List.all_eq_true]
              intro y hy
              obtain ⟨j,hj,rfl⟩:=List.mem_map.mp hy
              exact (mem _).mpr (hsub _ (sg _ (inp j (List.mem_filter.mp hj).1)))
            rw [a1,a2] at h
            exact absurd h (by decide)
          have:=cE (q::F.map (·.1)) (G.map (·.1)) (List.nodup_cons.mpr ⟨sn,hO.nd⟩) fun x hx=>by
            rcases List.mem_cons.mp hx with rfl | hx
            · exact hin
            · exact hsub x hx
          rw [List.length_cons,List.length_map,List.length_map] at this
          omega
    · rintro Γ ⟨G,v5,v6,rfl,hG,_,_,hq1⟩
      rw [az] at hq1
      have:=hq1 (by omega)
      have:=hG.le (by omega)
      exact ⟨_,by omega,G,_,_,rfl,hG,rfl⟩
  · have h:¬(F.length:Int) < v.1.getD p.toNat 0:=of_decide_eq_false h
    obtain ⟨_,_,kp,kr⟩:=dI hk
    have RK:=hv.cV kr
    have a0:=RK.s0;have an:=RK.sn;have c0:=RK.e0;have cn:=RK.en
    rw [kp] at an cn
    have hE:=cw hv p0 p1 hR
    have g0:=mO hv p0 hR hE _ _ (Nat.lt_succ_self _) c0 cn
    have g1:=r8 hv p0 hR hE _ _ (Nat.lt_succ_self _) c0 cn
    have g2:nR v p (rowOf v k).2.2.1≤30:=by
      unfold nR
      exact Nat.le_trans (List.length_filter_le _ _) (Nat.le_trans (List.length_filter_le _ _) hv30)
    have g3:=iw g2
    have g4:((2:Int) ^ 30) < 2 ^ 64:=by decide +kernel
    refine ar (bH (EV.frz (eP (i:=3) rfl) (fun _ _ _ _ _ h=>h) (qh (ir hu (aa 3 rfl) (c9 (aQ (bc (aa 0 rfl)) (aa 2 rfl) (ato k hk))) (hO.get (by omega) a0 an)) (gM hu CO hr (ae (aa 0 rfl) (ae (aa 1 rfl) ao)) ⟨v,p,rfl,hv,p0,p1,hR,rfl⟩ (cS (aQ (bc (aa 0 rfl)) (aa 2 rfl) (ato k hk))) (fun F ⟨h1,h2⟩=>df.get hv p0 p1 hR h1 h2 c0 cn)) (.inr ⟨by omega,by omega⟩))) ?_)
    have hua:=ka hv p0 p1 ⟨k,hk⟩
    have hra:=js p0 hR
    have jl:=(List.getElem?_eq_some_iff.mp hj).1
    have j1:(j:Int) < ((aq v p).2.length:Int):=by rw [cG];omega
    have hl:=cG v p
    have hww:=lF hua (k:=(j:Int)) (by omega) (by omega) j1
    have hrw:=kX (k:=(j:Int)) (by omega) j1 hra
    have er:=eY hj
    have:=through hua hra (k:=(j:Int)) (by omega) j1 (by rw [er];rfl) (d9 hE) (cw hww (Int.le_refl 0) (by show (0:Int) < ((1:Nat):Int);decide) hrw) (oM (hO.eq (by omega)))
    rw [er] at this
    have this:onG (aR (aq v p) (j:Int)) 0 0=onG v p 0 + gF F (rowOf v k).2.1 * onG v p (rowOf v k).2.2.1:=this
    omega
end
theorem gG {α β:Type}{P:β→Prop}:∀{xs:List α} {zs:List β},PySem.Paired (fun _ z=>P z) xs zs→∀z∈zs,P z
  | _,_,.nil,z,hz=>by cases hz
  | _,_,.cons h r,z,hz=>by
    rcases List.mem_cons.mp hz with rfl | hz
    · exact h
    · exact gG r z hz
theorem i3 (v:av)(p:Int)(g:Int→Int):∀(m:Nat) (q l:Int),(wayF v p g m q l).length≤m
  | 0,_,_=>by simp [wayF]
  | m + 1,q,l=>by
    unfold wayF
    by_cases e:q=1
    · rw [if_pos e];simp
    · rw [if_neg e,List.length_cons]
      have:=i3 v p g m (bA v (most ((fromF v p q).filter (bM v p g l)))) (l - aT v p g (most ((fromF v p q).filter (bM v p g l))))
      omega
theorem su {v:av}(hv:aV v){p:Int}(p0:0≤p)(p1:p < (v.1.length:Int))(hR:bj v.2 p.toNat)(hu:aV (aq v p))(hRu:bj (aq v p).2 (0:Int).toNat){q:Int}(q0:0≤q)(q1:q < v.1.getD p.toNat 0):onG (aq v p) 0 q=onG v p q:=
  cu.uniq hu (Int.le_refl 0) hRu (cw hu (Int.le_refl 0) (by show (0:Int) < ((1:Nat):Int);decide) hRu) (d9 (cw hv p0 p1 hR)) q q0 q1
theorem mW {v:av}(hv:aV v){p:Int}(p0:0≤p)(p1:p < (v.1.length:Int))(hR:bj v.2 p.toNat)(hu:aV (aq v p))(hRu:bj (aq v p).2 (0:Int).toNat):bt (aq v p) 0 (onG (aq v p) 0)=(bz v p).map fun k=>(bt v p (onG v p)).getD k.toNat 0:=by
  rw [fj hu (Int.le_refl 0) (by show (0:Int) < ((1:Nat):Int);decide) hRu (cw hu (Int.le_refl 0) (by show (0:Int) < ((1:Nat):Int);decide) hRu) (d9 (cw hv p0 p1 hR))]
  generalize onG v p=g
  refine List.ext_getElem? fun j=>?_
  by_cases hj:j < (bz v p).length
  · obtain ⟨k,hk⟩:∃k,(bz v p)[j]?=some k:=⟨_,List.getElem?_eq_getElem hj⟩
    obtain ⟨k0,k1,_⟩:=dI (List.mem_of_getElem? hk)
    rw [List.getElem?_map,hk]
    unfold bt
    rw [List.getElem?_map,eI (by rw [cG];exact hj)]
    show some (aT (aq v p) 0 g (j:Int))=some ((bt v p g).getD k.toNat 0)
    rw [gj g hk,de k0 k1]
  · rw [List.getElem?_eq_none (by unfold bt;rw [List.length_map,az,cG];omega),List.getElem?_eq_none (by rw [List.length_map];omega)]
theorem oJ {v:av}(hv:aV v){p:Int}(p0:0≤p)(p1:p < (v.1.length:Int))(hR:bj v.2 p.toNat)(hu:aV (aq v p))(hRu:bj (aq v p).2 (0:Int).toNat){x:Int}(x0:0≤x)(x1:x < onG v p 0):wayF v p (onG v p) 17 0 x=(wayF (aq v p) 0 (onG (aq v p) 0) 17 0 x).map fun j=>(bz v p).getD j.toNat 0:=by
  have hs:=hv.sz (v.1.getD p.toNat 0) (by rw [List.getD_eq_getElem?_getD,List.getElem?_eq_getElem (by omega)];exact List.getElem_mem _)
  rw [md hu (Int.le_refl 0) (by show (0:Int) < ((1:Nat):Int);decide) hRu (cw hu (Int.le_refl 0) (by show (0:Int) < ((1:Nat):Int);decide) hRu) (d9 (cw hv p0 p1 hR))]
  exact kT hu hRu (d9 (cw hv p0 p1 hR)) 17 0 x (by have:=iC (fwd (aq v p).2 0) 0;omega) (Int.le_refl 0) (by omega) x0 x1
section
variable {P:Program}{w:World}{K:PySem.W.Frag}{mg:Str→Option Value}{base:Heap}{f:Addr}{fd:FuncData}
noncomputable abbrev fZ:Stmt:=top yd
noncomputable abbrev qS:List Str:=["_law_script","_law_purse_here","_law_web_here","_law_part_here","_law_own","_law_alone_here","_law_many","_law_worth","_law_number","_law_way","_law_k","_law_wide","_law_longer"]
theorem w6:aE qS ["_law_script"] (ah fZ):=⟨rfl,rfl,rfl,by decide +kernel,rfl,by decide +kernel,by decide +kernel⟩
noncomputable def mN:bS:=fun K ps T=>∃ns:List Int,ps=[⟨f6,ns⟩]∧ns.length≤63∧(∀n∈ns,intBits n≤2 ^ 20)∧T=bP K aK (· =true)
theorem zA (M:bX mg)(CU:aA P w K mg base "_law_purse" 1 (aG Ah K))(CD:aA P w K mg base "_law_draw" 1 (e7 bg mK K))(CW:aA P w K mg base "_law_web" 4 (e7 bg Ac K))(CAL:aA P w K mg base "_law_alone" 1 (aG Aw K))(CY:aA P w K mg base "ways" 10 (aG vO K))(CT:aA P w K mg base "worths" 10 (aG wo K))(CV:aA P w K mg base "way_of" 12 (aG Aa K))(CTH:aA P w K mg base "_law_through" 3 (aG Ag K))(CN:aA P w K mg base "number_of" 11 (aG Ax K))(CG:aA P w K mg base "_law_goes" 2 (aG Az K))(F:bL K "law" "law" fZ f fd):dR P w K mg base eo 13 f fd ["_law_script"] (aG mN K):=by
  have nd:=w6.nd
  have nd1:List.Nodup [("_law_k":Str),"_law_worth"]:=by decide
  have nd2:List.Nodup [("_law_k":Str),"_law_many","_law_purse_here"]:=by decide
  have nd3:List.Nodup [("_law_k":Str),"_law_own"]:=by decide
  have nd4:List.Nodup [("_law_j":Str),"_law_k","_law_own"]:=by decide
  have CU:=CU.mono (show 1≤12 by decide)
  have CD:=CD.mono (show 1≤12 by decide)
  have CW:=CW.mono (show 4≤12 by decide)
  have CAL:=CAL.mono (show 1≤12 by decide)
  have CY:=CY.mono (show 10≤12 by decide)
  have CT:=CT.mono (show 10≤12 by decide)
  have CTH:=CTH.mono (show 3≤12 by decide)
  have CN:=CN.mono (show 11≤12 by decide)
  have CG:=CG.mono (show 2≤12 by decide)
  refine xu F w6 (fun qs T ⟨_,e,_⟩=>by rw [e];rfl) (fun cdv A outer s H E qs T hr hS=>?_)
  obtain ⟨ns,rfl,hlen,hbits,rfl⟩:=hS
  have hu1:(A.deeper (envOfC "law" (ah fZ) s.heap.objs.size f cdv)).units + 1 < cLine:=Nat.lt_of_le_of_lt (Nat.add_le_add_left (by decide:1≤64) _) hr.units
  change WS _ _ [.im f6 ns,.no,.no,.no,.no,.no,.no,.no,.no,.no,.no,.no,.no] _ _
  refine ai (rZ 1 CU hr (ae (aa 0 rfl) ao) ⟨ns,rfl,hlen,hbits,rfl⟩ ?_)
  intro a b st hP
  refine ai (mh 1 CW hr (ae dt ao) rfl rfl ⟨_,true,hP,by decide,rfl,rfl⟩ (aB 2) ?_)
  rintro st1 v ⟨hP1,hvl⟩
  have hv:=hvl.g
  have v30:=hvl.le
  have pl:=hv.pl
  have rl:=hv.rl
  obtain ⟨p,st2,p0,p1,hP2,hS2⟩:=cz hP1 (by decide) (b:=(v.1.length:Int)) (by omega) (by omega)
  refine ai (aZ 3 (bE 1 CD hr (ae (cN M.len (cY (aa 2 rfl))) ao) rfl rfl (hS2 _)) ?_)
  have hR:bj v.2 p.toNat:=hvl.up rfl p.toNat (by omega)
  have hs:=hv.sz (v.1.getD p.toNat 0) (by rw [List.getD_eq_getElem?_getD,List.getElem?_eq_getElem (by omega)];exact List.getElem_mem _)
  obtain ⟨kk,hkk⟩:=ot hv p0 p1 (Int.le_refl 0) (by omega) (by decide)
  have hne:∃k,k∈bz v p:=by
    obtain ⟨j,hj⟩:=my (List.mem_of_getElem? hkk)
    exact ⟨_,List.mem_of_getElem? hj⟩
  have hu:=ka hv p0 p1 hne
  have hRu:bj (aq v p).2 (0:Int).toNat:=js p0 hR
  have ul:=cG v p
  have ol:=j7 v p
  have u1:(0:Int) < ((aq v p).1.length:Int):=by show (0:Int) < ((1:Nat):Int);decide
  obtain ⟨m0,m1⟩:=uW hv v30 p0 p1 hR (cw hv p0 p1 hR)
  have hon:=su hv p0 p1 hR hu hRu (Int.le_refl 0) (show (0:Int) < v.1.getD p.toNat 0 by omega)
  refine ai (tV (aP CAL hr (ae (aa 2 rfl) (ae (aa 3 rfl) ao)) ⟨v,p,rfl,hv,p0,p1,rfl⟩) (gH 4 5) ?_)
  refine ai (aZ 6 (aP CY hr (ae (aa 2 rfl) (ae (aa 3 rfl) ao)) ⟨v,p,rfl,hv,p0,p1,hR,rfl⟩) ?_)
  refine ai (dq 7 (fQ CT hr (ae (aa 2 rfl) (ae (aa 3 rfl) ao)) ⟨v,p,rfl,hv,p0,p1,hR,rfl⟩) ?_)
  have wl:(bt v p (onG v p)).length=v.2.length:=by unfold bt;rw [List.length_map,az]
  refine WS.freeze 7 rfl (bo (by omega)) ?_
  change WS _ _ [.im f6 ns,.ob (bg.bx a b st2),.im (aF (af ab) (af aI)) v,.im ab p,.im (af ab) (bz v p),.im (aF (af ab) (af aI)) (aq v p),.im ab (onG v p 0),.im (af ab) (bt v p (onG v p)),.no,.no,.no,.no,.no] _ _
  have hw:=mW hv p0 p1 hR hu hRu
  have e1:(((bz v p).filter fun _=>true).map fun k=>(bt v p (onG v p)).getD k.toNat 0)=bt (aq v p) 0 (onG (aq v p) 0):=by rw [List.filter_eq_self.mpr (by simp),hw]
  refine ai (bY (TW.tv (gK (bD mn (aP CY hr (ae (aa 5 rfl) (ae au ao)) ⟨aq v p,0,rfl,hu,Int.le_refl 0,u1,hRu,rfl⟩) (aa 6 rfl)) (fun _=>fD (bD (tP (r:=ab) eq_int hu1) (bb.im (fQ CT hr (ae (aa 5 rfl) (ae au ao)) ⟨aq v p,0,rfl,hu,Int.le_refl 0,u1,hRu,rfl⟩)) (EV.cast (bb.im (aU (own:=["_law_k"]) (fr:=["_law_worth"]) (ix:=[7]) (ra:=ab) (rb:=ab) (p:=fun _=>true) (f:=fun k=>(bt v p (onG v p)).getD k.toNat 0) (aJ (so:=ah fZ) (N0:=qS) rfl rfl (fun x h=>aC h) (by decide +kernel)) (aN (aa 4 rfl))
    (fun C s H ex=>aB 0) (fun x=>⟨.inr rfl,.inl rfl,trivial⟩) (fun C s H ex x hx=>br) (fun C s H ex x hx _=>aQ (aa 1 rfl) (aa 0 rfl) (by have:=dI hx;exact cj this.1 (by omega))))) e1))))) (fun h=>?_) (fun _=>bB ?_))
  · rw [hon] at h;simp at h
  refine ai (xE (fun xs i Γ=>∃st v8 v9,Γ=[.im f6 ns,.ob (bg.bx a b st),.im (aF (af ab) (af aI)) v,.im ab p,.im (af ab) (bz v p),.im (aF (af ab) (af aI)) (aq v p),.im ab (onG v p 0),.im (af ab) (bt v p (onG v p)),v8,v9,.no,.no,.no]∧cH 3000 st∧∀x∈xs,0≤x∧x < onG v p 0) (si (vw (bb.im (bh (r:=ab) (aO au (aO (c7 (aa 6 rfl) au) bF)) (by show 2≤sizeLine;decide)))
    (qD 1 2 (own:=["_law_k"]) (fr:=["_law_many","_law_purse_here"]) (ix:=[6,1]) (ra:=ab) (rb:=ab) (B:=bg) (fun s=>[.no,.im ab (onG v p 0),.ob (bg.bx a b s)]) (fun i s=>cH (0 + 2000 + 1 + (i:Int)) s) (P:=fun (_:Int) y=>0≤y∧y < onG v p 0) (aJ (so:=ah fZ) (N0:=qS) rfl rfl (fun x h=>aC h) (by decide +kernel)) (cR M.range au ⟨by decide,by decide⟩) rfl (fun j k hj hk=>by
      have one:∀m:Nat,([6,1]:List Nat)[m]?=some 1→m=1:=fun m hm=>by
        match m,hm with
        | 0,hm=>simp at hm
        | 1,_=>rfl
        | m + 2,hm=>simp at hm
      rw [one j hj,one k hk]) rfl (fun _=>rfl) (hP2.mono (by decide)) (fun C s H ex=>aB 0) (fun x s=>⟨.inr rfl,.inl rfl,.inl rfl,trivial⟩) (fun C s H ex i x st' hx hI=>?dr))
    (fun ys Γ2 hp=>by rw [← hp.1.length,az];show 2 + 10≤sizeLine;decide))) (aB 8) ?_ ?_ ?_)
  case dr=>
    have il:=(List.getElem?_eq_some_iff.mp hx).1
    rw [az] at il
    have il:i < 10:=il
    obtain ⟨y,st3,y0,y1,hP3,hS3⟩:=cz hI (by omega) (b:=onG v p 0) (by omega) (by omega)
    exact EV.evq (bE 2 CD hr (ae (aa 1 rfl) ao) rfl rfl (hS3 _)) ⟨st3,rfl,⟨y0,y1⟩,hP3.mono (by omega)⟩
  · rintro xs Γ1 ⟨ys,rfl,hpd,st3,hI3,rfl⟩
    refine ⟨st3,_,_,rfl,hI3.mono (by rw [az];decide),fun x hx=>?_⟩
    rcases List.mem_append.mp hx with z | z
    · rcases List.mem_cons.mp z with rfl | z
      · omega
      · rw [List.mem_singleton.mp z];omega
    · obtain ⟨j,hj⟩:=List.mem_iff_getElem?.mp z
      exact gG hpd x z
  · rintro xs _ i x Γ hx ⟨st3,v8,v9,rfl,hP3,hxs⟩
    obtain ⟨x0,x1⟩:=hxs x (List.mem_of_getElem? hx)
    have hthr:=iQ hu (Int.le_refl 0) hRu (cw hu (Int.le_refl 0) u1 hRu) 17 0 x (by have:=iC (fwd (aq v p).2 0) 0;omega) (Int.le_refl 0) (by show (0:Int) < v.1.getD p.toNat 0;omega) x0 (by rw [hon];exact x1)
    refine ai (aZ 9 (aP CV hr (ae (aa 5 rfl) (ae au (ae (aa 8 rfl) ao))) ⟨aq v p,0,x,rfl,hu,Int.le_refl 0,u1,hRu,x0,by rw [hon];exact x1,rfl⟩) ?_)
    have e2:(((wayF (aq v p) 0 (onG (aq v p) 0) 17 0 x).filter fun _=>true).map fun j=>(bz v p).getD j.toNat 0)=wayF v p (onG v p) 17 0 x:=by rw [List.filter_eq_self.mpr (by simp),oJ hv p0 p1 hR hu hRu x0 x1]
    refine ar (bY (bD (tP (r:=ab) eq_int hu1) (aP CV hr (ae (aa 2 rfl) (ae (aa 3 rfl) (ae (aa 8 rfl) ao))) ⟨v,p,x,rfl,hv,p0,p1,hR,x0,x1,rfl⟩) (EV.cast (bb.im (aU (own:=["_law_k"]) (fr:=["_law_own"]) (ix:=[4]) (ra:=ab) (rb:=ab) (p:=fun _=>true) (f:=fun j=>(bz v p).getD j.toNat 0) (aJ (so:=ah fZ) (N0:=qS) rfl rfl (fun x h=>aC h) (by decide +kernel)) (aN (aa 9 rfl))
      (fun C s H ex=>aB 0) (fun x=>⟨.inr rfl,.inl rfl,trivial⟩) (fun C s H ex x hx=>br) (fun C s H ex y hy _=>aQ (aa 1 rfl) (aa 0 rfl) (by have:=gB hthr y hy;exact cj this.1 (by omega))))) e2)) (fun h=>?_) (fun _=>bB ⟨st3,_,_,rfl,hP3,hxs⟩))
    simp at h
  rintro xs _ Γ ⟨st3,v8,v9,rfl,hP3,_⟩
  obtain ⟨k,st4,k0,k1,hP4,hS4⟩:=cz hP3 (by decide) (b:=((bz v p).length:Int)) (by obtain ⟨z,hz⟩:=hne;have:=List.length_pos_of_mem hz;omega) (by omega)
  refine ai (aZ 10 (bE 1 CD hr (ae (cN M.len (aa 4 rfl)) ao) rfl rfl (hS4 _)) ?_)
  have k1u:k < ((aq v p).2.length:Int):=by omega
  refine ai (aZ 11 (r:=aF (af ab) (af aI)) (y:=aR (aq v p) k) (da (ae (bb.im (r9 M.list (cY (aa 5 rfl)))) (ae (bb.im (nO (bc (aa 5 rfl)) (bb.im (bh (r:=aI) (aO (aQ (y:=rowOf (aq v p) k) (bc (aa 5 rfl)) (aa 10 rfl) (bV bI k0 k1u)) bF) (by show 1≤sizeLine;decide))) (bo (by show _ + 1≤_;omega)))) ao))) ?_)
  have hww:=lF hu (k:=k) (by omega) k0 k1u
  have hrw:bj (aR (aq v p) k).2 (0:Int).toNat:=kX k0 k1u hRu
  have w1:(0:Int) < ((aR (aq v p) k).1.length:Int):=u1
  have hEw:=cw hww (Int.le_refl 0) w1 hrw
  obtain ⟨ko,hko⟩:∃ko,(bz v p)[k.toNat]?=some ko:=⟨_,List.getElem?_eq_getElem (by omega)⟩
  have ek:((k.toNat:Nat):Int)=k:=by omega
  have hto:cI (bz v p) k=some ko:=by rw [dD k0 k1];exact hko
  refine ai (bY (bD mn (aP CY hr (ae (aa 11 rfl) (ae au ao)) ⟨aR (aq v p) k,0,rfl,hww,Int.le_refl 0,w1,hrw,rfl⟩) (cM (aa 6 rfl) (aP CTH hr (ae (aa 2 rfl) (ae (aa 3 rfl) (ae (aQ (aa 4 rfl) (aa 10 rfl) hto) ao))) ⟨v,p,ko,k.toNat,rfl,hv,v30,p0,p1,hR,hko,rfl⟩))) (fun h=>?_) (fun _=>bB ?_))
  · rw [ek] at h
    have h:¬onG (aR (aq v p) k) 0 0=onG v p 0 + (onG (aR (aq v p) k) 0 0 - onG v p 0):=by simpa using h
    omega
  obtain ⟨z,st5,z0,z1,hP5,hS5⟩:=cz hP4 (by decide) (b:=onG v p 0) (by omega) (by omega)
  refine ai (aZ 9 (aP CV hr (ae (aa 5 rfl) (ae au (ae (bE 1 CD hr (ae (aa 6 rfl) ao) rfl rfl (hS5 _)) ao))) ⟨aq v p,0,z,rfl,hu,Int.le_refl 0,u1,hRu,z0,by rw [hon];exact z1,rfl⟩) ?_)
  have hthr:=iQ hu (Int.le_refl 0) hRu (cw hu (Int.le_refl 0) u1 hRu) 17 0 z (by have:=iC (fwd (aq v p).2 0) 0;omega) (Int.le_refl 0) (by show (0:Int) < v.1.getD p.toNat 0;omega) z0 (by rw [hon];exact z1)
  have hwl:=i3 (aq v p) 0 (onG (aq v p) 0) 17 0 z
  generalize wayF (aq v p) 0 (onG (aq v p) 0) 17 0 z=way at hthr hwl
  have hrep:∀x:Int,cI [x,((bz v p).length:Int)] (if decide (x=k)=true then 1 else 0)=some (f7 (aq v p) k x):=fun x=>by
    unfold f7
    rw [ul]
    by_cases e:x=k
    · rw [decide_eq_true e,if_pos rfl,if_pos e];rfl
    · rw [decide_eq_false e,if_neg (by decide),if_neg e];rfl
  refine ai (gp 12 (own:=["_law_j"]) (fr:=["_law_k","_law_own"]) (ix:=[10,4]) (ra:=ab) (rb:=ab) (p:=fun _=>true) (f:=f7 (aq v p) k) (aJ (so:=ah fZ) (N0:=qS) rfl rfl (fun x h=>aC h) (by decide +kernel)) (aN (aa 9 rfl))
    (fun C s H ex=>aB 0) (fun x=>⟨.inr rfl,.inl rfl,.inl rfl,trivial⟩) (fun C s H ex x hx=>br) (fun C s H ex x hx _=>aQ (bb.im (bh (r:=ab) (aO (aa 0 rfl) (aO (cN M.len (aa 2 rfl)) bF)) (by show 2≤sizeLine;decide))) (vt M.int (dP dA (aa 0 rfl) (aa 1 rfl))) (hrep x)) ?_)
  rw [List.filter_eq_self.mpr (by simp)]
  have hll:(way.map (f7 (aq v p) k)).length≤17:=by rw [List.length_map];exact hwl
  refine WS.freeze 12 rfl (bo (by omega)) ?_
  obtain ⟨t1,t2⟩:=me (k:=k) hthr
  refine ai (bY (bD dM (aP CN hr (ae (aa 11 rfl) (ae au (ae (aa 12 rfl) ao))) ⟨aR (aq v p) k,0,_,rfl,hww,Int.le_refl 0,w1,hrw,by omega,t2,rfl⟩) (aP CN hr (ae (aa 11 rfl) (ae au (ae (aa 9 rfl) ao))) ⟨aR (aq v p) k,0,_,rfl,hww,Int.le_refl 0,w1,hrw,by omega,t1,rfl⟩)) (fun h=>?_) (fun _=>bB ?_))
  · have h:=of_decide_eq_true h
    have ek2:=eY hko
    rw [ek] at ek2
    have:=mS (f:=aT (aR (aq v p) k) 0 (onG (aR (aq v p) k) 0)) (h:=fun x=>aT (aR (aq v p) k) 0 (onG (aR (aq v p) k) 0) (f7 (aq v p) k x)) way (pN hww hrw hEw k0 k1u (by rw [ek2];rfl))
    rw [List.map_map] at h
    have h:(way.map fun x=>aT (aR (aq v p) k) 0 (onG (aR (aq v p) k) 0) (f7 (aq v p) k x)).sum < (way.map (aT (aR (aq v p) k) 0 (onG (aR (aq v p) k) 0))).sum:=h
    omega
  have wl2:(aR (aq v p) k).2.length=(aq v p).2.length + 1:=by show ((aq v p).2++[_]).length=_;rw [List.length_append];rfl
  have gw:=pG hww (Int.le_refl 0) w1 hrw hEw _ 0 (Nat.lt_succ_self _) (Int.le_refl 0) (by show (0:Int) < v.1.getD p.toNat 0;omega)
  have hl2:=i3 (aR (aq v p) k) 0 (onG (aR (aq v p) k) 0) 17 0 (onG (aR (aq v p) k) 0 0 - 1)
  refine ar (bH (aP CG hr (ae (aa 11 rfl) (ae au (ae (aP CV hr (ae (aa 11 rfl) (ae au (ae (c7 (aP CY hr (ae (aa 11 rfl) (ae au ao)) ⟨aR (aq v p) k,0,rfl,hww,Int.le_refl 0,w1,hrw,rfl⟩) au) ao))) ⟨aR (aq v p) k,0,_,rfl,hww,Int.le_refl 0,w1,hrw,by omega,by omega,rfl⟩) ao))) ⟨aR (aq v p) k,0,_,rfl,by omega,by omega,rfl⟩) ?_)
  exact iQ hww (Int.le_refl 0) hrw hEw 17 0 _ (by have:=iC (fwd (aR (aq v p) k).2 0) 0;omega) (Int.le_refl 0) (by show (0:Int) < v.1.getD p.toNat 0;omega) (by omega) (by omega)
end
structure Top (K:PySem.W.Frag) (mg:Str→Option Value):Prop where
  M:bX mg
  IW:Def K mg "is_whole" uB ["value"]
  AW:Def K mg "are_whole" oo ["values"]
  RF:Def K mg "has_row_form" tM ["row"]
  WF:Def K mg "has_web_form" rA ["web"]
  WZ:Def K mg "has_web_sizes" rR ["web"]
  LW:Def K mg "leads_within" tY ["places","row"]
  IC:Def K mg "is_called" qc ["rows","part"]
  RE:Def K mg "reached" uw ["leads","start"]
  LO:Def K mg "lies_on_ways" nV ["rows","part","size"]
  WE:Def K mg "is_web" l4 ["web"]
  NW:Def K mg "need_web" uz ["web"]
  IP:Def K mg "is_part" ui ["web","part"]
  NP:Def K mg "need_part" uj ["web","part"]
  IL:Def K mg "is_loose" mD ["web","part"]
  NO:Def K mg "need_loose" uE ["web","part"]
  RV:Def K mg "rows_leaving" pY ["web","part"]
  WN:Def K mg "ways_on" lr ["web","part"]
  WY:Def K mg "ways" m4 ["web","part"]
  WI:Def K mg "worths_in" pU ["web","part"]
  WT:Def K mg "worths" rH ["web","part"]
  RW:Def K mg "is_row" ux ["web","number"]
  CG:Def K mg "can_go" qu ["web","stack","number"]
  LT:Def K mg "leads_through" tX ["web","part","rows"]
  NU:Def K mg "number_of" rT ["web","part","way"]
  YB:Def K mg "way_by" qP ["web","known","leaving","number"]
  WS:Def K mg "ways_of" mz ["web","part","numbers"]
  WV:Def K mg "way_of" tN ["web","part","number"]
  DR:Def K mg "_law_draw" tT ["_law_purse_here","_law_out_of"]
  PU:Def K mg "_law_purse" nA ["_law_script"]
  OR:Def K mg "_law_order" uF ["_law_purse_here","_law_many"]
  PT:Def K mg "_law_part" iy ["_law_purse_here","_law_many","_law_loose"]
  CL:Def K mg "_law_called" rf ["_law_purse_here","_law_rows","_law_parts"]
  WB:Def K mg "_law_web" oq ["_law_purse_here","_law_loose"]
  FR:Def K mg "_law_from" nY ["_law_web_here","_law_part_here","_law_place"]
  ON:Def K mg "_law_on" kW ["_law_web_here","_law_part_here"]
  GO:Def K mg "_law_goes" uy ["_law_web_here","_law_part_here","_law_rows"]
  AL:Def K mg "_law_alone" oF ["_law_web_here","_law_part_here"]
  TH:Def K mg "_law_through" jx ["_law_web_here","_law_part_here","_law_k"]
theorem x9 {P:Program}{w:World}{K:PySem.W.Frag}{mg:Str→Option Value}{base:Heap}{f:Addr}{fd:FuncData}(T:Top K mg)(F:bL K "law" "law" fZ f fd):dR P w K mg base eo 13 f fd ["_law_script"] (aG mN K):=by
  have M:=T.M
  obtain ⟨_,_,F1,m1,b1⟩:=T.IW
  have IW:=zU (P:=P) (w:=w) (base:=base) M F1 m1 b1
  obtain ⟨_,_,F1,m1,b1⟩:=T.AW
  have AW:=zF (P:=P) (w:=w) (base:=base) M IW F1 m1 b1
  obtain ⟨_,_,F1,m1,b1⟩:=T.RF
  have RF:=zL (P:=P) (w:=w) (base:=base) M AW F1 m1 b1
  obtain ⟨_,_,F1,m1,b1⟩:=T.WF
  have WF:=yQ (P:=P) (w:=w) (base:=base) M AW RF F1 m1 b1
  obtain ⟨_,_,F1,m1,b1⟩:=T.WZ
  have WZ:=z3 (P:=P) (w:=w) (base:=base) M F1 m1 b1
  obtain ⟨_,_,F1,m1,b1⟩:=T.LW
  have LW:=zh (P:=P) (w:=w) (base:=base) M F1 m1 b1
  obtain ⟨_,_,F1,m1,b1⟩:=T.IC
  have IC:=zJ (P:=P) (w:=w) (base:=base) M F1 m1 b1
  obtain ⟨_,_,F1,m1,b1⟩:=T.RE
  have RE:=yL (P:=P) (w:=w) (base:=base)  F1 m1 b1
  obtain ⟨_,_,F1,m1,b1⟩:=T.LO
  have LO:=zl (P:=P) (w:=w) (base:=base) M RE F1 m1 b1
  obtain ⟨_,_,F1,m1,b1⟩:=T.WE
  have WE:=zi (P:=P) (w:=w) (base:=base) M WF WZ LW IC LO F1 m1 b1
  obtain ⟨_,_,F1,m1,b1⟩:=T.NW
  have NW:=z5 (P:=P) (w:=w) (base:=base) WE F1 m1 b1
  obtain ⟨_,_,F1,m1,b1⟩:=T.IP
  have IP:=z9 (P:=P) (w:=w) (base:=base) M IW F1 m1 b1
  obtain ⟨_,_,F1,m1,b1⟩:=T.NP
  have NP:=y4 (P:=P) (w:=w) (base:=base) NW IP F1 m1 b1
  obtain ⟨_,_,F1,m1,b1⟩:=T.IL
  have IL:=yG (P:=P) (w:=w) (base:=base) M NP RE F1 m1 b1
  obtain ⟨_,_,F1,m1,b1⟩:=T.NO
  have NO:=yX (P:=P) (w:=w) (base:=base) IL F1 m1 b1
  obtain ⟨_,_,F1,m1,b1⟩:=T.RV
  have RV:=yU (P:=P) (w:=w) (base:=base) true M F1 m1 b1
  obtain ⟨_,_,F1,m1,b1⟩:=T.WN
  have WN:=y9 (P:=P) (w:=w) (base:=base) M RV F1 m1 b1
  obtain ⟨_,_,F1,m1,b1⟩:=T.WY
  have WY:=wO (P:=P) (w:=w) (base:=base) M NO WN F1 m1 b1
  obtain ⟨_,_,F1,m1,b1⟩:=T.WI
  have WI:=zy (P:=P) (w:=w) (base:=base) M WN RV F1 m1 b1
  obtain ⟨_,_,F1,m1,b1⟩:=T.WT
  have WT:=yN (P:=P) (w:=w) (base:=base) NO WI F1 m1 b1
  obtain ⟨_,_,F1,m1,b1⟩:=T.RW
  have RW:=yO (P:=P) (w:=w) (base:=base) M IW F1 m1 b1
  obtain ⟨_,_,F1,m1,b1⟩:=T.CG
  have CG:=vZ (P:=P) (w:=w) (base:=base) RW F1 m1 b1
  obtain ⟨_,_,F1,m1,b1⟩:=T.LT
  have LT:=zM (P:=P) (w:=w) (base:=base) M CG F1 m1 b1
  obtain ⟨_,_,F1,m1,b1⟩:=T.NU
  have NU:=zx (P:=P) (w:=w) (base:=base) M WT LT F1 m1 b1
  obtain ⟨_,_,F1,m1,b1⟩:=T.YB
  have YB:=zI (P:=P) (w:=w) (base:=base) M F1 m1 b1
  obtain ⟨_,_,F1,m1,b1⟩:=T.WS
  have WS:=y6 (P:=P) (w:=w) (base:=base) M IW WI WN RV YB F1 m1 b1
  obtain ⟨_,_,F1,m1,b1⟩:=T.WV
  have WV:=zr (P:=P) (w:=w) (base:=base) NO WS F1 m1 b1
  obtain ⟨_,_,F1,m1,b1⟩:=T.DR
  have DR:=z7 (P:=P) (w:=w) (base:=base) M F1 m1 b1
  obtain ⟨_,_,F1,m1,b1⟩:=T.PU
  have PU:=zH (P:=P) (w:=w) (base:=base)  F1 m1 b1
  obtain ⟨_,_,F1,m1,b1⟩:=T.OR
  have OR:=yS (P:=P) (w:=w) (base:=base) M DR F1 m1 b1
  obtain ⟨_,_,F1,m1,b1⟩:=T.PT
  have PT:=zY (P:=P) (w:=w) (base:=base) M DR OR F1 m1 b1
  obtain ⟨_,_,F1,m1,b1⟩:=T.CL
  have CL:=yZ (P:=P) (w:=w) (base:=base) M DR F1 m1 b1
  obtain ⟨_,_,F1,m1,b1⟩:=T.WB
  have WB:=zO (P:=P) (w:=w) (base:=base) M DR OR PT CL F1 m1 b1
  obtain ⟨_,_,F1,m1,b1⟩:=T.FR
  have FR:=zW (P:=P) (w:=w) (base:=base) M F1 m1 b1
  obtain ⟨_,_,F1,m1,b1⟩:=T.ON
  have ON:=yW (P:=P) (w:=w) (base:=base) M FR F1 m1 b1
  obtain ⟨_,_,F1,m1,b1⟩:=T.GO
  have GO:=za (P:=P) (w:=w) (base:=base) FR F1 m1 b1
  obtain ⟨_,_,F1,m1,b1⟩:=T.AL
  have AL:=zm (P:=P) (w:=w) (base:=base) M F1 m1 b1
  obtain ⟨_,_,F1,m1,b1⟩:=T.TH
  have TH:=ze (P:=P) (w:=w) (base:=base) M ON F1 m1 b1
  obtain ⟨_,_,F1,m1,b1⟩:=T.WT
  have WTd:=wG (P:=P) (w:=w) (base:=base) NO WI F1 m1 b1
  exact zA M PU DR WB AL WY WTd WV TH NU GO F
theorem uJ {h:Heap}{K:PySem.W.Frag}{mg:Str→Option Value}(KX:K.In h)(G:h.Ns mainGlobals mg){t1 t2 t3 t4 t5 t6 t7 t8:Tok}
    (a1:PySem.W.nsIn K mainGlobals "MOST_PARTS"=some (some (.int 4 t1))) (a2:PySem.W.nsIn K mainGlobals "LEAST_PLACES"=some (some (.int 2 t2))) (a3:PySem.W.nsIn K mainGlobals "MOST_PLACES"=some (some (.int 16 t3))) (a4:PySem.W.nsIn K mainGlobals "MOST_ROWS"=some (some (.int 60 t4))) (a5:PySem.W.nsIn K mainGlobals "FIRST_PART"=some (some (.int 0 t5))) (a6:PySem.W.nsIn K mainGlobals "BEGIN"=some (some (.int 0 t6))) (a7:PySem.W.nsIn K mainGlobals "END"=some (some (.int 1 t7))) (a8:PySem.W.nsIn K mainGlobals "NO_CALL"=some (some (.int (-1) t8)))
    (b1:PySem.W.nsIn K mainGlobals "len"=some none) (b2:PySem.W.nsIn K mainGlobals "all"=some none) (b3:PySem.W.nsIn K mainGlobals "any"=some none) (b4:PySem.W.nsIn K mainGlobals "range"=some none) (b5:PySem.W.nsIn K mainGlobals "enumerate"=some none) (b6:PySem.W.nsIn K mainGlobals "isinstance"=some none) (b7:PySem.W.nsIn K mainGlobals "int"=some none) (b8:PySem.W.nsIn K mainGlobals "bool"=some none) (b9:PySem.W.nsIn K mainGlobals "list"=some none) (b10:PySem.W.nsIn K mainGlobals "tuple"=some none) (b11:PySem.W.nsIn K mainGlobals "min"=some none) (b12:PySem.W.nsIn K mainGlobals "max"=some none) (b13:PySem.W.nsIn K mainGlobals "sorted"=some none) (b14:PySem.W.nsIn K mainGlobals "sum"=some none) (b15:PySem.W.nsIn K mainGlobals "zip"=some none) (b16:PySem.W.nsIn K mainGlobals "reversed"=some none):bX mg:=
  ⟨⟨_,PySem.W.mg_of KX G a1⟩,⟨_,PySem.W.mg_of KX G a2⟩,⟨_,PySem.W.mg_of KX G a3⟩,⟨_,PySem.W.mg_of KX G a4⟩,⟨_,PySem.W.mg_of KX G a5⟩,⟨_,PySem.W.mg_of KX G a6⟩,⟨_,PySem.W.mg_of KX G a7⟩,⟨_,PySem.W.mg_of KX G a8⟩,PySem.W.mg_none_of KX G b1,PySem.W.mg_none_of KX G b2,PySem.W.mg_none_of KX G b3,PySem.W.mg_none_of KX G b4,PySem.W.mg_none_of KX G b5,PySem.W.mg_none_of KX G b6,PySem.W.mg_none_of KX G b7,PySem.W.mg_none_of KX G b8,PySem.W.mg_none_of KX G b9,PySem.W.mg_none_of KX G b10,PySem.W.mg_none_of KX G b11,PySem.W.mg_none_of KX G b12,PySem.W.mg_none_of KX G b13,PySem.W.mg_none_of KX G b14,PySem.W.mg_none_of KX G b15,PySem.W.mg_none_of KX G b16⟩
theorem wz {l:PySem.W.OpenLaw}{w:World}{K:PySem.W.Frag}{h:Heap}{mg:Str→Option Value}{fa f:Addr}{oc kV doc pm cdv ct:Value}{od an:Option Addr}{osl:Array (Option Value)}(KX:K.In h)(G:h.Ns mainGlobals mg)(hfa:mg "law"=some (.ref fa))(T:Top K mg)
    (a:PySem.W.nsIn K mainGlobals "law"=some (some (.ref f))) (lk:K.lookup f=some ⟨oc,od,.func (PySem.W.fnOf "law" "law" (dY fZ) (cq fZ) (ah fZ) .none kV doc pm an cdv ct),osl⟩) (c:PySem.W.codeIn K cdv "law"=true) (k:PySem.W.keepIn K (.ref f)=true):
    ∃fd:FuncData,(∀(s:Shared) (v:Value),BindsTo s fd ⟨[v],[]⟩ [("_law_script",v)])∧∀base:Heap,K.In base→base.Ns mainGlobals mg→dR l.prog w K mg base eo 13 fa fd ["_law_script"] (aG mN K):=by
  have e:=hfa.symm.trans (PySem.W.mg_of KX G a)
  cases e
  exact ⟨PySem.W.fnOf "law" "law" (dY fZ) (cq fZ) (ah fZ) .none kV doc pm an cdv ct,fun s v=>.of_eq rfl,fun base _ _=>x9 T (mL lk c k)⟩
theorem walk {l:PySem.W.OpenLaw}{q:Program}{loose:List Str}{XP:(Str→Option Value)→Heap→Prop}{YP:World→Heap→Prop}{d:DefRec}{K:Params→PySem.W.Frag}(hn:l.most=some 63)(hdf:d.params.defaults=[])
    (hY:∀(w:World) (h:Heap),YP w h→(K w.params).In h)
    (F:∀(w:World) (mg:Str→Option Value) (fa:Addr) (h:Heap),(K w.params).In h→h.Ns mainGlobals mg→mg d.name=some (.ref fa)→
      ∃fd:FuncData,(∀(s:Shared) (u:Value),BindsTo s fd ⟨[u],[]⟩ [("_law_script",u)])∧∀base:Heap,(K w.params).In base→base.Ns mainGlobals mg→dR l.prog w (K w.params) mg base eo 13 fa fd ["_law_script"] (aG mN (K w.params))):
    PySem.W.WalkO q loose XP YP l.row.toRowW d [] (fun f vs=>PySem.call f vs):=
  L2.sZ (n:=63) (k:=13) (x:="_law_script") (CX:=fun _=>eo) (sp:=fun w=>aG mN (K w.params)) hn (by decide) hdf ⟨rfl,by decide,by decide⟩ hY F
    (fun w H a ns hl hbits _ hS=>⟨H,[⟨f6,ns⟩],_,ak.refl _,.cons ⟨a,rfl,hS,hl⟩ .nil,⟨ns,rfl,hl,hbits,rfl⟩,fun v H' R' _ t=>by obtain ⟨y,hy,rfl⟩:=t;exact hy⟩) fun _ _ _ _ _ z=>z
end K1
open PySem PySem.W PyProof.Rows
theorem PySem.W.Fast.tw17054609284736816419:True:=trivial
theorem PySem.W.Fast.tw14070030384845656749:True:=trivial
theorem PySem.W.Fast.tw11758091548572001758:True:=trivial
theorem PySem.W.Fast.tw12703661361361991587:True:=trivial
theorem PySem.W.Fast.tw2197594427364142907:True:=trivial
theorem PySem.W.Fast.tw11734759038716340331:True:=trivial
theorem PySem.W.Fast.tw1082154661222632172:True:=trivial
theorem PySem.W.Fast.tw4627701415428883540:True:=trivial
theorem PySem.W.Fast.tw1422816506525430423:True:=trivial
theorem PySem.W.Fast.tw10926537411814693358:True:=trivial
theorem PySem.W.Fast.tw4473282222166870760:True:=trivial
theorem PySem.W.Fast.tw1858585794258513424:True:=trivial
theorem PySem.W.Fast.tw11739128243785381803:True:=trivial
theorem PySem.W.Fast.tw8335724660756000453:True:=trivial
theorem PySem.W.Fast.tw11054011506152110632:True:=trivial
theorem PySem.W.Fast.tw8772683377499851150:True:=trivial
theorem PySem.W.Fast.tw13889239945786870226:True:=trivial
theorem PySem.W.Fast.tw17260047456530855296:True:=trivial
theorem PySem.W.Fast.tw7561972318504003613:True:=trivial
theorem PySem.W.Fast.tw16124477832853600239:True:=trivial
theorem PySem.W.Fast.tw8814699524819130240:True:=trivial
theorem PySem.W.Fast.tw12747852501883266410:True:=trivial
theorem PySem.W.Fast.tw4164233842334535357:True:=trivial
theorem PySem.W.Fast.tw14778948940321023331:True:=trivial
theorem PySem.W.Fast.tw17876060841129548699:True:=trivial
theorem PySem.W.Fast.tw2134536959272785581:True:=trivial
theorem PySem.W.Fast.tw5410245472388757616:True:=trivial
theorem PySem.W.Fast.tw12082834298667986066:True:=trivial
theorem PySem.W.Fast.tw10700973104593756089:True:=trivial
theorem PySem.W.Fast.tw9168349494916114431:True:=trivial
theorem PySem.W.Fast.tw8549260442138814002:True:=trivial
theorem PySem.W.Fast.tw13436875330859845871:True:=trivial
theorem PySem.W.Fast.tw8061726636368280314:True:=trivial
theorem PySem.W.Fast.tw10357758157617175342:True:=trivial
theorem PySem.W.Fast.tw1856754144951037110:True:=trivial
theorem PySem.W.Fast.tw6113563154465331863:True:=trivial
theorem PySem.W.Fast.tw3078571282344577235:True:=trivial
theorem PySem.W.Fast.tw167493630729366199:True:=trivial
theorem PySem.W.Fast.tw9862387054501948352:True:=trivial
theorem PySem.W.Fast.tw15297712211602633952:True:=trivial
theorem PySem.W.Fast.tw2786022456246067822:True:=trivial
theorem PySem.W.Fast.tw12369606409236926662:True:=trivial
theorem PySem.W.Fast.tw16507463832221055772:True:=trivial
theorem PySem.W.Fast.tw2137509812353766366:True:=trivial
theorem PySem.W.Fast.tw8779262007494951561:True:=trivial
theorem PySem.W.Fast.tw5108919174393292188:True:=trivial
theorem PySem.W.Fast.tw12623216236436484581:True:=trivial
theorem PySem.W.Fast.tw8480067918744650947:True:=trivial
theorem PySem.W.Fast.tw4865888728769796493:True:=trivial
theorem PySem.W.Fast.tw1027662114805380811:True:=trivial
theorem PySem.W.Fast.tw11941364311336934030:True:=trivial
theorem PySem.W.Fast.tw11879064873009860709:True:=trivial
theorem PySem.W.Fast.tw1961146516859503628:True:=trivial
theorem PySem.W.Fast.tw5391684185889025607:True:=trivial
theorem PySem.W.Fast.tw8252507058022054373:True:=trivial
theorem PySem.W.Fast.tw16043959782095617292:True:=trivial
theorem PySem.W.Fast.tw10745415934838704825:True:=trivial
theorem PySem.W.Fast.tw8152355493633572238:True:=trivial
theorem PySem.W.Fast.tw3574370427769702878:True:=trivial
theorem PySem.W.Fast.tw4269717750035463314:True:=trivial
theorem PySem.W.Fast.tw13570431844741500247:True:=trivial
theorem PySem.W.Fast.tw337962566064044044:True:=trivial
theorem PySem.W.Fast.tw1522143341976753083:True:=trivial
theorem PySem.W.Fast.tw11463201436446174494:True:=trivial
theorem PySem.W.Fast.tw18075014631289119123:True:=trivial
theorem PySem.W.Fast.tw17704268173405331200:True:=trivial
theorem PySem.W.Fast.tw1537891248846024186:True:=trivial
theorem PySem.W.Fast.tw459951047858867271:True:=trivial
theorem PySem.W.Fast.tw2029196929219380608:True:=trivial
theorem PySem.W.Fast.tw16986280286605800689:True:=trivial
theorem PySem.W.Fast.tw17849314130356420031:True:=trivial
theorem PySem.W.Fast.tw17340910148302144230:True:=trivial
theorem PySem.W.Fast.tw17059968782845971456:True:=trivial
theorem PySem.W.Fast.tw7235332036723385749:True:=trivial
theorem PySem.W.Fast.tw3554539745788729734:True:=trivial
theorem PySem.W.Fast.tw4778788102641690577:True:=trivial
theorem PySem.W.Fast.tw11858333004463157759:True:=trivial
theorem PySem.W.Fast.tw18027450539886168452:True:=trivial
theorem PySem.W.Fast.tw11438784323953670428:True:=trivial
theorem PySem.W.Fast.tw1133750172283926571:True:=trivial
theorem PySem.W.Fast.tw15648648912081868727:True:=trivial
theorem PySem.W.Fast.tw16402381163436268545:True:=trivial
theorem PySem.W.Fast.tw777647153222815766:True:=trivial
theorem PySem.W.Fast.tw14590032032013153427:True:=trivial
theorem PySem.W.Fast.tw13380324499528161889:True:=trivial
theorem PySem.W.Fast.tw13138952482066382655:True:=trivial
theorem PySem.W.Fast.tw14656590658603323564:True:=trivial
theorem PySem.W.Fast.tw8629203388636864048:True:=trivial
theorem PySem.W.Fast.tw15670962540137752081:True:=trivial
theorem PySem.W.Fast.tw11355958659039854987:True:=trivial
theorem PySem.W.Fast.tw13959416666442643726:True:=trivial
theorem PySem.W.Fast.tw8976629808050466803:True:=trivial
theorem PySem.W.Fast.tw783709671415364988:True:=trivial
theorem PySem.W.Fast.tw6802509616430273095:True:=trivial
theorem PySem.W.Fast.tw15671565646461418085:True:=trivial
theorem PySem.W.Fast.tw4849569663397755988:True:=trivial
theorem PySem.W.Fast.tw466051658288530642:True:=trivial
theorem PySem.W.Fast.tw10382277907858798752:True:=trivial
theorem PySem.W.Fast.tw17109577040466550010:True:=trivial
theorem PySem.W.Fast.tw8075392106424501809:True:=trivial
theorem PySem.W.Fast.tw14521919513169651876:True:=trivial
theorem PySem.W.Fast.tw365091970703949434:True:=trivial
theorem PySem.W.Fast.tw4672042162264337615:True:=trivial
theorem PySem.W.Fast.tw15552973682890035438:True:=trivial
theorem PySem.W.Fast.tw15295601781815884136:True:=trivial
theorem PySem.W.Fast.tw9218251161388372342:True:=trivial
theorem PySem.W.Fast.tw8133233814860938575:True:=trivial
theorem PySem.W.Fast.tw17321195730946663691:True:=trivial
theorem PySem.W.Fast.tw16700685030134823987:True:=trivial
theorem PySem.W.Fast.tw8348882186758385853:True:=trivial
theorem PySem.W.Fast.tw15015293533133592712:True:=trivial
theorem PySem.W.Fast.tw8345358733349305347:True:=trivial
theorem PySem.W.Fast.tw608887493115241278:True:=trivial
theorem PySem.W.Fast.tw10929423177388465903:True:=trivial
theorem PySem.W.Fast.tw2604015614546233152:True:=trivial
theorem PySem.W.Fast.tw12451956923778361079:True:=trivial
theorem PySem.W.Fast.tw10028641102437292672:True:=trivial
theorem PySem.W.Fast.tw4624954250770529122:True:=trivial
theorem PySem.W.Fast.tw1869535694037526610:True:=trivial
theorem PySem.W.Fast.tw1554826014273921598:True:=trivial
theorem PySem.W.Fast.tw15528632250616516048:True:=trivial
theorem PySem.W.Fast.tw15665497882975329719:True:=trivial
theorem PySem.W.Fast.tw469927387637193962:True:=trivial
theorem PySem.W.Fast.tw1540169428026124371:True:=trivial
theorem PySem.W.Fast.tw12196248819855048738:True:=trivial
theorem PySem.W.Fast.tw717511795996957306:True:=trivial
theorem PySem.W.Fast.tw8612884660300514362:True:=trivial
theorem PySem.W.Fast.tw10416620304335018400:True:=trivial
theorem PySem.W.Fast.tw1062576014945665018:True:=trivial
theorem PySem.W.Fast.tw2701268906370861681:True:=trivial
theorem PySem.W.Fast.tw5580720318704949377:True:=trivial
theorem PySem.W.Fast.tw13863092673049444078:True:=trivial
theorem PySem.W.Fast.tw5501798912090673016:True:=trivial
theorem PySem.W.Fast.tw1291464392288149356:True:=trivial
theorem PySem.W.Fast.tw1358070984861374997:True:=trivial
theorem PySem.W.Fast.tw9561185962855952433:True:=trivial
theorem PySem.W.Fast.tw1570133119692090875:True:=trivial
theorem PySem.W.Fast.tw5461880467604525513:True:=trivial
theorem PySem.W.Fast.tw7816725604016294388:True:=trivial
theorem PySem.W.Fast.tw7154875907638892063:True:=trivial
theorem PySem.W.Fast.tw2584935139717533268:True:=trivial
theorem PySem.W.Fast.tw15792875972570013120:True:=trivial
theorem PySem.W.Fast.tw13592777872047485813:True:=trivial
theorem PySem.W.Fast.tw6852715773381518704:True:=trivial
theorem PySem.W.Fast.tw17767603223103459583:True:=trivial
theorem PySem.W.Fast.tw6377557332509181855:True:=trivial
theorem PySem.W.Fast.tw9704927847365987351:True:=trivial
theorem PySem.W.Fast.tw7177514136182033137:True:=trivial
theorem PySem.W.Fast.tw8254472577477249494:True:=trivial
theorem PySem.W.Fast.tw5030355011922339455:True:=trivial
set_option maxRecDepth 100000 in
set_option maxHeartbeats 0 in
theorem PySem.Challenge.cw_fewcounters_k45_whole_parts_by_themselve_holds : PySem.Challenge.rw_fewcounters_k45_whole_parts_by_themselve.Holds := by
  w_on;o_law;k_head;(case hw=>w_witness2)
  k_fill
  refine K1.walk (l:=PySem.Challenge.rw_fewcounters_k45_whole_parts_by_themselve) rfl rfl (fun w h Y=>PySem.W.kIn_of Y) ?F
  case F=>
    intro w mg fa h KX G hmg
    have M:K1.bX mg:=by
      refine' K1.uJ KX G ?a1 ?a2 ?a3 ?a4 ?a5 ?a6 ?a7 ?a8 ?b1 ?b2 ?b3 ?b4 ?b5 ?b6 ?b7 ?b8 ?b9 ?b10 ?b11 ?b12 ?b13 ?b14 ?b15 ?b16
      (case a1=>k_is);(case a2=>k_is);(case a3=>k_is);(case a4=>k_is);(case a5=>k_is);(case a6=>k_is);(case a7=>k_is);(case a8=>k_is);(case b1=>k_is);(case b2=>k_is);(case b3=>k_is);(case b4=>k_is);(case b5=>k_is);(case b6=>k_is);(case b7=>k_is);(case b8=>k_is);(case b9=>k_is);(case b10=>k_is);(case b11=>k_is);(case b12=>k_is);(case b13=>k_is);(case b14=>k_is);(case b15=>k_is);(case b16=>k_is)
    have DIW:Fc.Def (L2.aY KX) mg "is_whole" K1.uB ["value"]:=by
      dsimp only [L2.aY]
      refine' Fc.aW KX G ?a ?l ?c ?k ?b
      (case a=>k_is);(case l=>k_is);(case c=>k_is);(case k=>k_is);(case b=>exact fun _ _ _ _ _ _ us hl=>match us,hl with | [_],_=>rfl)
    have DAW:Fc.Def (L2.aY KX) mg "are_whole" K1.oo ["values"]:=by
      dsimp only [L2.aY]
      refine' Fc.aW KX G ?a ?l ?c ?k ?b
      (case a=>k_is);(case l=>k_is);(case c=>k_is);(case k=>k_is);(case b=>exact fun _ _ _ _ _ _ us hl=>match us,hl with | [_],_=>rfl)
    have DRF:Fc.Def (L2.aY KX) mg "has_row_form" K1.tM ["row"]:=by
      dsimp only [L2.aY]
      refine' Fc.aW KX G ?a ?l ?c ?k ?b
      (case a=>k_is);(case l=>k_is);(case c=>k_is);(case k=>k_is);(case b=>exact fun _ _ _ _ _ _ us hl=>match us,hl with | [_],_=>rfl)
    have DWF:Fc.Def (L2.aY KX) mg "has_web_form" K1.rA ["web"]:=by
      dsimp only [L2.aY]
      refine' Fc.aW KX G ?a ?l ?c ?k ?b
      (case a=>k_is);(case l=>k_is);(case c=>k_is);(case k=>k_is);(case b=>exact fun _ _ _ _ _ _ us hl=>match us,hl with | [_],_=>rfl)
    have DWZ:Fc.Def (L2.aY KX) mg "has_web_sizes" K1.rR ["web"]:=by
      dsimp only [L2.aY]
      refine' Fc.aW KX G ?a ?l ?c ?k ?b
      (case a=>k_is);(case l=>k_is);(case c=>k_is);(case k=>k_is);(case b=>exact fun _ _ _ _ _ _ us hl=>match us,hl with | [_],_=>rfl)
    have DLW:Fc.Def (L2.aY KX) mg "leads_within" K1.tY ["places","row"]:=by
      dsimp only [L2.aY]
      refine' Fc.aW KX G ?a ?l ?c ?k ?b
      (case a=>k_is);(case l=>k_is);(case c=>k_is);(case k=>k_is);(case b=>exact fun _ _ _ _ _ _ us hl=>match us,hl with | [_,_],_=>rfl)
    have DIC:Fc.Def (L2.aY KX) mg "is_called" K1.qc ["rows","part"]:=by
      dsimp only [L2.aY]
      refine' Fc.aW KX G ?a ?l ?c ?k ?b
      (case a=>k_is);(case l=>k_is);(case c=>k_is);(case k=>k_is);(case b=>exact fun _ _ _ _ _ _ us hl=>match us,hl with | [_,_],_=>rfl)
    have DRE:Fc.Def (L2.aY KX) mg "reached" K1.uw ["leads","start"]:=by
      dsimp only [L2.aY]
      refine' Fc.aW KX G ?a ?l ?c ?k ?b
      (case a=>k_is);(case l=>k_is);(case c=>k_is);(case k=>k_is);(case b=>exact fun _ _ _ _ _ _ us hl=>match us,hl with | [_,_],_=>rfl)
    have DLO:Fc.Def (L2.aY KX) mg "lies_on_ways" K1.nV ["rows","part","size"]:=by
      dsimp only [L2.aY]
      refine' Fc.aW KX G ?a ?l ?c ?k ?b
      (case a=>k_is);(case l=>k_is);(case c=>k_is);(case k=>k_is);(case b=>exact fun _ _ _ _ _ _ us hl=>match us,hl with | [_,_,_],_=>rfl)
    have DWE:Fc.Def (L2.aY KX) mg "is_web" K1.l4 ["web"]:=by
      dsimp only [L2.aY]
      refine' Fc.aW KX G ?a ?l ?c ?k ?b
      (case a=>k_is);(case l=>k_is);(case c=>k_is);(case k=>k_is);(case b=>exact fun _ _ _ _ _ _ us hl=>match us,hl with | [_],_=>rfl)
    have DNW:Fc.Def (L2.aY KX) mg "need_web" K1.uz ["web"]:=by
      dsimp only [L2.aY]
      refine' Fc.aW KX G ?a ?l ?c ?k ?b
      (case a=>k_is);(case l=>k_is);(case c=>k_is);(case k=>k_is);(case b=>exact fun _ _ _ _ _ _ us hl=>match us,hl with | [_],_=>rfl)
    have DIP:Fc.Def (L2.aY KX) mg "is_part" K1.ui ["web","part"]:=by
      dsimp only [L2.aY]
      refine' Fc.aW KX G ?a ?l ?c ?k ?b
      (case a=>k_is);(case l=>k_is);(case c=>k_is);(case k=>k_is);(case b=>exact fun _ _ _ _ _ _ us hl=>match us,hl with | [_,_],_=>rfl)
    have DNP:Fc.Def (L2.aY KX) mg "need_part" K1.uj ["web","part"]:=by
      dsimp only [L2.aY]
      refine' Fc.aW KX G ?a ?l ?c ?k ?b
      (case a=>k_is);(case l=>k_is);(case c=>k_is);(case k=>k_is);(case b=>exact fun _ _ _ _ _ _ us hl=>match us,hl with | [_,_],_=>rfl)
    have DIL:Fc.Def (L2.aY KX) mg "is_loose" K1.mD ["web","part"]:=by
      dsimp only [L2.aY]
      refine' Fc.aW KX G ?a ?l ?c ?k ?b
      (case a=>k_is);(case l=>k_is);(case c=>k_is);(case k=>k_is);(case b=>exact fun _ _ _ _ _ _ us hl=>match us,hl with | [_,_],_=>rfl)
    have DNO:Fc.Def (L2.aY KX) mg "need_loose" K1.uE ["web","part"]:=by
      dsimp only [L2.aY]
      refine' Fc.aW KX G ?a ?l ?c ?k ?b
      (case a=>k_is);(case l=>k_is);(case c=>k_is);(case k=>k_is);(case b=>exact fun _ _ _ _ _ _ us hl=>match us,hl with | [_,_],_=>rfl)
    have DRV:Fc.Def (L2.aY KX) mg "rows_leaving" K1.pY ["web","part"]:=by
      dsimp only [L2.aY]
      refine' Fc.aW KX G ?a ?l ?c ?k ?b
      (case a=>k_is);(case l=>k_is);(case c=>k_is);(case k=>k_is);(case b=>exact fun _ _ _ _ _ _ us hl=>match us,hl with | [_,_],_=>rfl)
    have DWN:Fc.Def (L2.aY KX) mg "ways_on" K1.lr ["web","part"]:=by
      dsimp only [L2.aY]
      refine' Fc.aW KX G ?a ?l ?c ?k ?b
      (case a=>k_is);(case l=>k_is);(case c=>k_is);(case k=>k_is);(case b=>exact fun _ _ _ _ _ _ us hl=>match us,hl with | [_,_],_=>rfl)
    have DWY:Fc.Def (L2.aY KX) mg "ways" K1.m4 ["web","part"]:=by
      dsimp only [L2.aY]
      refine' Fc.aW KX G ?a ?l ?c ?k ?b
      (case a=>k_is);(case l=>k_is);(case c=>k_is);(case k=>k_is);(case b=>exact fun _ _ _ _ _ _ us hl=>match us,hl with | [_,_],_=>rfl)
    have DWI:Fc.Def (L2.aY KX) mg "worths_in" K1.pU ["web","part"]:=by
      dsimp only [L2.aY]
      refine' Fc.aW KX G ?a ?l ?c ?k ?b
      (case a=>k_is);(case l=>k_is);(case c=>k_is);(case k=>k_is);(case b=>exact fun _ _ _ _ _ _ us hl=>match us,hl with | [_,_],_=>rfl)
    have DWT:Fc.Def (L2.aY KX) mg "worths" K1.rH ["web","part"]:=by
      dsimp only [L2.aY]
      refine' Fc.aW KX G ?a ?l ?c ?k ?b
      (case a=>k_is);(case l=>k_is);(case c=>k_is);(case k=>k_is);(case b=>exact fun _ _ _ _ _ _ us hl=>match us,hl with | [_,_],_=>rfl)
    have DRW:Fc.Def (L2.aY KX) mg "is_row" K1.ux ["web","number"]:=by
      dsimp only [L2.aY]
      refine' Fc.aW KX G ?a ?l ?c ?k ?b
      (case a=>k_is);(case l=>k_is);(case c=>k_is);(case k=>k_is);(case b=>exact fun _ _ _ _ _ _ us hl=>match us,hl with | [_,_],_=>rfl)
    have DCG:Fc.Def (L2.aY KX) mg "can_go" K1.qu ["web","stack","number"]:=by
      dsimp only [L2.aY]
      refine' Fc.aW KX G ?a ?l ?c ?k ?b
      (case a=>k_is);(case l=>k_is);(case c=>k_is);(case k=>k_is);(case b=>exact fun _ _ _ _ _ _ us hl=>match us,hl with | [_,_,_],_=>rfl)
    have DLT:Fc.Def (L2.aY KX) mg "leads_through" K1.tX ["web","part","rows"]:=by
      dsimp only [L2.aY]
      refine' Fc.aW KX G ?a ?l ?c ?k ?b
      (case a=>k_is);(case l=>k_is);(case c=>k_is);(case k=>k_is);(case b=>exact fun _ _ _ _ _ _ us hl=>match us,hl with | [_,_,_],_=>rfl)
    have DNU:Fc.Def (L2.aY KX) mg "number_of" K1.rT ["web","part","way"]:=by
      dsimp only [L2.aY]
      refine' Fc.aW KX G ?a ?l ?c ?k ?b
      (case a=>k_is);(case l=>k_is);(case c=>k_is);(case k=>k_is);(case b=>exact fun _ _ _ _ _ _ us hl=>match us,hl with | [_,_,_],_=>rfl)
    have DYB:Fc.Def (L2.aY KX) mg "way_by" K1.qP ["web","known","leaving","number"]:=by
      dsimp only [L2.aY]
      refine' Fc.aW KX G ?a ?l ?c ?k ?b
      (case a=>k_is);(case l=>k_is);(case c=>k_is);(case k=>k_is);(case b=>exact fun _ _ _ _ _ _ us hl=>match us,hl with | [_,_,_,_],_=>rfl)
    have DWS:Fc.Def (L2.aY KX) mg "ways_of" K1.mz ["web","part","numbers"]:=by
      dsimp only [L2.aY]
      refine' Fc.aW KX G ?a ?l ?c ?k ?b
      (case a=>k_is);(case l=>k_is);(case c=>k_is);(case k=>k_is);(case b=>exact fun _ _ _ _ _ _ us hl=>match us,hl with | [_,_,_],_=>rfl)
    have DWV:Fc.Def (L2.aY KX) mg "way_of" K1.tN ["web","part","number"]:=by
      dsimp only [L2.aY]
      refine' Fc.aW KX G ?a ?l ?c ?k ?b
      (case a=>k_is);(case l=>k_is);(case c=>k_is);(case k=>k_is);(case b=>exact fun _ _ _ _ _ _ us hl=>match us,hl with | [_,_,_],_=>rfl)
    have DDR:Fc.Def (L2.aY KX) mg "_law_draw" K1.tT ["_law_purse_here","_law_out_of"]:=by
      dsimp only [L2.aY]
      refine' Fc.aW KX G ?a ?l ?c ?k ?b
      (case a=>k_is);(case l=>k_is);(case c=>k_is);(case k=>k_is);(case b=>exact fun _ _ _ _ _ _ us hl=>match us,hl with | [_,_],_=>rfl)
    have DPU:Fc.Def (L2.aY KX) mg "_law_purse" K1.nA ["_law_script"]:=by
      dsimp only [L2.aY]
      refine' Fc.aW KX G ?a ?l ?c ?k ?b
      (case a=>k_is);(case l=>k_is);(case c=>k_is);(case k=>k_is);(case b=>exact fun _ _ _ _ _ _ us hl=>match us,hl with | [_],_=>rfl)
    have DOR:Fc.Def (L2.aY KX) mg "_law_order" K1.uF ["_law_purse_here","_law_many"]:=by
      dsimp only [L2.aY]
      refine' Fc.aW KX G ?a ?l ?c ?k ?b
      (case a=>k_is);(case l=>k_is);(case c=>k_is);(case k=>k_is);(case b=>exact fun _ _ _ _ _ _ us hl=>match us,hl with | [_,_],_=>rfl)
    have DPT:Fc.Def (L2.aY KX) mg "_law_part" K1.iy ["_law_purse_here","_law_many","_law_loose"]:=by
      dsimp only [L2.aY]
      refine' Fc.aW KX G ?a ?l ?c ?k ?b
      (case a=>k_is);(case l=>k_is);(case c=>k_is);(case k=>k_is);(case b=>exact fun _ _ _ _ _ _ us hl=>match us,hl with | [_,_,_],_=>rfl)
    have DCL:Fc.Def (L2.aY KX) mg "_law_called" K1.rf ["_law_purse_here","_law_rows","_law_parts"]:=by
      dsimp only [L2.aY]
      refine' Fc.aW KX G ?a ?l ?c ?k ?b
      (case a=>k_is);(case l=>k_is);(case c=>k_is);(case k=>k_is);(case b=>exact fun _ _ _ _ _ _ us hl=>match us,hl with | [_,_,_],_=>rfl)
    have DWB:Fc.Def (L2.aY KX) mg "_law_web" K1.oq ["_law_purse_here","_law_loose"]:=by
      dsimp only [L2.aY]
      refine' Fc.aW KX G ?a ?l ?c ?k ?b
      (case a=>k_is);(case l=>k_is);(case c=>k_is);(case k=>k_is);(case b=>exact fun _ _ _ _ _ _ us hl=>match us,hl with | [_,_],_=>rfl)
    have DFR:Fc.Def (L2.aY KX) mg "_law_from" K1.nY ["_law_web_here","_law_part_here","_law_place"]:=by
      dsimp only [L2.aY]
      refine' Fc.aW KX G ?a ?l ?c ?k ?b
      (case a=>k_is);(case l=>k_is);(case c=>k_is);(case k=>k_is);(case b=>exact fun _ _ _ _ _ _ us hl=>match us,hl with | [_,_,_],_=>rfl)
    have DON:Fc.Def (L2.aY KX) mg "_law_on" K1.kW ["_law_web_here","_law_part_here"]:=by
      dsimp only [L2.aY]
      refine' Fc.aW KX G ?a ?l ?c ?k ?b
      (case a=>k_is);(case l=>k_is);(case c=>k_is);(case k=>k_is);(case b=>exact fun _ _ _ _ _ _ us hl=>match us,hl with | [_,_],_=>rfl)
    have DGO:Fc.Def (L2.aY KX) mg "_law_goes" K1.uy ["_law_web_here","_law_part_here","_law_rows"]:=by
      dsimp only [L2.aY]
      refine' Fc.aW KX G ?a ?l ?c ?k ?b
      (case a=>k_is);(case l=>k_is);(case c=>k_is);(case k=>k_is);(case b=>exact fun _ _ _ _ _ _ us hl=>match us,hl with | [_,_,_],_=>rfl)
    have DAL:Fc.Def (L2.aY KX) mg "_law_alone" K1.oF ["_law_web_here","_law_part_here"]:=by
      dsimp only [L2.aY]
      refine' Fc.aW KX G ?a ?l ?c ?k ?b
      (case a=>k_is);(case l=>k_is);(case c=>k_is);(case k=>k_is);(case b=>exact fun _ _ _ _ _ _ us hl=>match us,hl with | [_,_],_=>rfl)
    have DTH:Fc.Def (L2.aY KX) mg "_law_through" K1.jx ["_law_web_here","_law_part_here","_law_k"]:=by
      dsimp only [L2.aY]
      refine' Fc.aW KX G ?a ?l ?c ?k ?b
      (case a=>k_is);(case l=>k_is);(case c=>k_is);(case k=>k_is);(case b=>exact fun _ _ _ _ _ _ us hl=>match us,hl with | [_,_,_],_=>rfl)
    refine' K1.wz KX G hmg ⟨M,DIW,DAW,DRF,DWF,DWZ,DLW,DIC,DRE,DLO,DWE,DNW,DIP,DNP,DIL,DNO,DRV,DWN,DWY,DWI,DWT,DRW,DCG,DLT,DNU,DYB,DWS,DWV,DDR,DPU,DOR,DPT,DCL,DWB,DFR,DON,DGO,DAL,DTH⟩ ?a ?l ?c ?k
    (case a=>k_is);(case l=>k_is);(case c=>k_is);(case k=>k_is)
