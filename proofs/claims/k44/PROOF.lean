import PyProof.Rows.All
import Lean
import Wide.All
import OpenK.AllK
import Wide.FinOn
import PyProof.EqAt
import PyProof.EqKinds
import PyProof.TupleCall
import PyProof.NeKinds
import PyProof.WalksEnum
import PyProof.EnumMake
import KE.KTryMore
import PyProof.NsDelKeeps
import KE.KRevIter
import PyProof.ListRange
import PySem.Challenge.RW_fewcounters_k44_ways_refused
import PyProof.SumWalkG
import PyProof.SeqI3
import PyProof.Rows.TupIter
namespace Fc
open Lean
def ai:Syntax:=Unhygienic.run `(Parser.Tactic.tacticSeq| rfl)
def aw:Syntax:=Unhygienic.run `(Parser.Tactic.tacticSeq| decide)
def bO:Syntax:=Unhygienic.run `(Parser.Tactic.tacticSeq| first | exact Or.inl rfl | exact Or.inr (Or.inl rfl) | exact Or.inr (Or.inr rfl))
def cZ:Syntax:=Unhygienic.run `(Parser.Tactic.tacticSeq| intro _;rfl)
def dA:Syntax:=Unhygienic.run `(Parser.Tactic.tacticSeq| first | exact Or.inl rfl | exact Or.inr rfl)
def dY:Syntax:=Unhygienic.run `(Parser.Tactic.tacticSeq| first | assumption | decide)
def fZ:Syntax:=Unhygienic.run `(Parser.Tactic.tacticSeq| first | exact .inl rfl | exact .inr rfl)
def nr:Syntax:=Unhygienic.run `(Parser.Tactic.tacticSeq| exact fun _ _=>rfl)
def aIs:Syntax:=Unhygienic.run `(Parser.Tactic.tacticSeq| intros;rfl)
end Fc
set_option Elab.async false
set_option linter.all false
set_option maxRecDepth 100000
namespace L2
open PySem PySem.Spec PyProof.Rows
noncomputable abbrev Key:=Sum Int Str
noncomputable def jz:Key→Value→Bool
  | .inl k,v=>Value.isInt k v
  | .inr x,v=>Value.isStrOf x v
noncomputable def Dp (w:World):Key→Int
  | .inl k=>hashInt k
  | .inr x=>hashStr w x
theorem cN:∀{k:Key} {v:Value},jz k v=true→(∃i t,k=Sum.inl i∧v=Value.int i t)∨(∃x t,k=Sum.inr x∧v=Value.str x t)
  | .inl i,v,h=>by
    obtain ⟨t,e⟩:=Value.isInt_shape (k:=i) (v:=v) h
    exact .inl ⟨i,t,rfl,e⟩
  | .inr x,v,h=>by
    obtain ⟨t,e⟩:=Value.isStrOf_shape (x:=x) (v:=v) h
    exact .inr ⟨x,t,rfl,e⟩
theorem tT (i:Int)(t:Tok):jz (.inl i) (.int i t)=true:=by simp [jz,Value.isInt]
theorem ue (x:Str)(t:Tok):jz (.inr x) (.str x t)=true:=by simp [jz,Value.isStrOf]
theorem yr (a b:Int):decide ((Sum.inl a:Key)=Sum.inl b)=(a==b):=by
  by_cases e:a=b
  · subst e;simp
  · have h:¬(Sum.inl a:Key)=Sum.inl b:=fun q=>e (Sum.inl.inj q)
    rw [decide_eq_false h]
    exact (beq_eq_false_iff_ne.mpr e).symm
theorem xT (a b:Str):decide ((Sum.inr a:Key)=Sum.inr b)=decide (a=b):=by
  by_cases e:a=b
  · subst e;simp
  · have h:¬(Sum.inr a:Key)=Sum.inr b:=fun q=>e (Sum.inr.inj q)
    rw [decide_eq_false h,decide_eq_false e]
theorem AM (a:Int)(b:Str):decide ((Sum.inl a:Key)=Sum.inr b)=false:=decide_eq_false (fun q=>nomatch q)
theorem yo (a:Str)(b:Int):decide ((Sum.inr a:Key)=Sum.inl b)=false:=decide_eq_false (fun q=>nomatch q)
noncomputable def cE (prog:Program)(w:World):PySem.KeyKind prog w Key where
  is:=jz
  hash:=Dp w
  inj :=fun v a b ha hb=>by
    rcases cN ha with ⟨i,t,rfl,rfl⟩ | ⟨x,t,rfl,rfl⟩
    · rcases cN hb with ⟨j,u,rfl,e⟩ | ⟨y,u,rfl,e⟩
      · injection e with e1 _;rw [e1]
      · exact nomatch e
    · rcases cN hb with ⟨j,u,rfl,e⟩ | ⟨y,u,rfl,e⟩
      · exact nomatch e
      · injection e with e1 _;rw [e1]
  byValue:=fun k v h=>by
    rcases cN h with ⟨i,t,rfl,rfl⟩ | ⟨x,t,rfl,rfl⟩<;>rfl
  pyHash:=fun hv h=>by
    rcases cN hv with ⟨i,t,rfl,rfl⟩ | ⟨x,t,rfl,rfl⟩
    · exact wpAny_pyHash_int h
    · exact wpAny_pyHash_str h
  eqBool:=fun hu hv h=>by
    rcases cN hu with ⟨i,t,rfl,rfl⟩ | ⟨x,t,rfl,rfl⟩
    · rcases cN hv with ⟨j,u,rfl,rfl⟩ | ⟨y,u,rfl,rfl⟩
      · rw [yr] at h;exact wpAny_eqBool_int h
      · rw [AM] at h;exact SeqAt.EqAt.int_str i t y u _ _ _ _ h
    · rcases cN hv with ⟨j,u,rfl,rfl⟩ | ⟨y,u,rfl,rfl⟩
      · rw [yo] at h;exact SeqAt.EqAt.str_int x t j u _ _ _ _ h
      · rw [xT] at h;exact wpAny_eqBool_str h
  «strs»:=fun k x t v h=>by
    rcases cN h with ⟨i,u,rfl,e⟩ | ⟨y,u,rfl,e⟩
    · exact nomatch e
    · injection e with e1 _
      subst e1
      cases v<;>rfl
theorem oY (prog:Program)(w:World)(i:Int)(t:Tok):(cE prog w).is (.inl i) (.int i t)=true:=tT i t
theorem oU (prog:Program)(w:World)(x:Str)(t:Tok):(cE prog w).is (.inr x) (.str x t)=true:=ue x t
inductive V where
  | non | bl (b:Bool) | int (i:Int) | str (x:Str) | byt (b:Array UInt8) | flt (b:UInt64) | ref (a:Addr) | ty (n:String)
  deriving DecidableEq
noncomputable def RelV:V→Value→Prop
  | .non,u=>u=Value.none
  | .bl b,u=>u=Value.bool b
  | .int i,u=>∃t,u=Value.int i t
  | .str x,u=>∃t,u=Value.str x t
  | .byt b,u=>∃t,u=Value.bytes b t
  | .flt b,u=>∃t,u=Value.float b t
  | .ref a,u=>u=Value.ref a
  | .ty n,u=>u=Value.type n
noncomputable abbrev Vals:List V→List Value→Prop:=Paired RelV
theorem Vals.length {xs:List V}{us:List Value}(r:Vals xs us):xs.length=us.length:=Paired.length r
theorem Vals.get:∀{xs:List V} {us:List Value} {i:Nat} {x:V},Vals xs us→xs[i]?=some x→∃u,us[i]?=some u∧RelV x u
  | _,_,_,_,.nil,e=>by simp at e
  | _,_,0,_,.cons r _,e=>by simp at e;subst e;exact ⟨_,rfl,r⟩
  | _,_,i + 1,x,.cons _ t,e=>by
    obtain ⟨u,h1,h2⟩:=Vals.get (i:=i) (x:=x) t (by simpa using e)
    exact ⟨u,by simpa using h1,h2⟩
theorem Vals.set {x:V}{u:Value}(r:RelV x u):∀{xs:List V} {us:List Value} (i:Nat),Vals xs us→Vals (xs.set i x) (us.set i u)
  | _,_,_,.nil=>.nil
  | _,_,0,.cons _ t=>.cons r t
  | _,_,i + 1,.cons q t=>.cons q (Vals.set r i t)
theorem Vals.append:∀{xs ys:List V} {us ws:List Value},Vals xs us→Vals ys ws→Vals (xs++ys) (us++ws)
  | _,_,_,_,.nil,s=>s
  | _,_,_,_,.cons r t,s=>.cons r (Vals.append t s)
theorem Vals.take:∀{xs:List V} {us:List Value} (n:Nat),Vals xs us→Vals (xs.take n) (us.take n)
  | _,_,0,_=>.nil
  | _,_,_ + 1,.nil=>.nil
  | _,_,n + 1,.cons r t=>.cons r (Vals.take n t)
theorem Vals.drop:∀{xs:List V} {us:List Value} (n:Nat),Vals xs us→Vals (xs.drop n) (us.drop n)
  | _,_,0,r=>r
  | _,_,_ + 1,.nil=>.nil
  | _,_,n + 1,.cons _ t=>Vals.drop n t
noncomputable def gO:Option V→Option Value→Prop
  | some v,some u=>RelV v u
  | none,none=>True
  | _,_=>False
noncomputable def KV {κ:Type}:List (κ×V)→List (κ×Value)→Prop:=Paired fun (p:κ×V) (q:κ×Value)=>p.1=q.1∧RelV p.2 q.2
noncomputable def kV:Key→V
  | .inl i=>.int i
  | .inr x=>.str x
inductive HO where
  /-- a list -/
  | lst (xs:List V)
  /-- a tuple (never changes) -/
  | tup (xs:List V)
  /-- a dict whose keys are ints and texts;one whose keys are tuples of ints and texts (the empty one is both) -/
  | dK (kvs:List (Key×V)) | dT (kvs:List (List Key×V))
  /-- a set of ints:its members,its size -/
  | set (S:Int→Bool) (n:Nat)
  /-- an instance of the class at C,its dict at dx,its attributes -/
  | ins (C dx:Addr) (fs:List (Str×V))
  /-- the dict of the instance at x -/
  | own (x:Addr)
  /-- the dict of an exception -/
  | xd (fs:List (Str×V))
  /-- a bound method,f of x -/
  | met (f x:Addr)
  /-- a range object lo,lo + 1,.. below hi -/
  | rng (lo hi:Int)
  /-- a thing that is known to the object (the script;a dict while a loop walks it):read,never written while it is so -/
  | frz (o:Obj) (u:HO)
  /-- a code object's table -/
  | tbl (ps:Array Value)
  /-- any other thing,by what is true of its one object (a def of one's own:SetO a S n:=HO.ext fun h=>..) -/
  | ext (φ:Heap→Prop)
noncomputable abbrev Hp:=Addr→Option HO
noncomputable def upd (H:Hp)(a:Addr)(o:HO):Hp:=fun b=>if b=a then some o else H b
theorem aD {H:Hp}{a:Addr}{o:HO}:upd H a o a=some o:=by unfold upd;rw [if_pos rfl]
theorem aJ {H:Hp}{a b:Addr}{o:HO}(h:b≠a):upd H a o b=H b:=by unfold upd;rw [if_neg h]
theorem w9 {H:Hp}{a:Addr}{o u:HO}:upd (upd H a o) a u=upd H a u:=by
  funext b;unfold upd;split<;>rfl
theorem Bf {H:Hp}{a b:Addr}{o u:HO}(h:H a=some o)(h':H b=some u)(d:o≠u):a≠b:=by
  intro e;subst e;rw [h] at h';exact d (Option.some.inj h')
theorem cx {H:Hp}{a b:Addr}{o:HO}(h:H a=some o)(h':H b=none):a≠b:=by
  intro e;subst e;rw [h] at h';cases h'
section
variable (P:Program)(w:World)
noncomputable def bK (H:Hp)(h:Heap)(a:Addr):HO→Prop
  | .lst xs=>xs.length≤sizeLine∧∃(its:List Value) (n:Nat),Vals xs its∧h.get? a=some {cls:=.type "list",data:=.seq its.toArray n}
  | .tup xs=>xs.length≤sizeLine∧∃its:List Value,Vals xs its∧IsTup h a its.toArray
  | .dK kvs=>kvs.length≤sizeLine∧(a==sysModules)=false∧∃vs,KV kvs vs∧h.DictOf (cE P w) a vs
  | .dT kvs=>kvs.length≤sizeLine∧(a==sysModules)=false∧∃xs:List (List Key×Addr×Value),
      Paired (fun (p:List Key×V) (q:List Key×Addr×Value)=>p.1=q.1∧H q.2.1=some (.tup (p.1.map kV))∧RelV p.2 q.2.2) kvs xs∧
      ∃o es ep,h.get? a=some o∧o.ExactDict∧o.data= .dict es ep∧es.toList=xs.map (entryOfKey (tupleKind (cE P w)))∧(xs.map (·.1)).Nodup
  | .set S n=>h.SetOf (intKind P w) a S n
  | .ins C dx fs=>H dx=some (.own a)∧fs.length≤1000∧dx≠a∧h.get? a=some (PySem.W.instObj C dx)∧
      ∃mA,h.Ns1 dx mA∧(∀f,gO (fs.lookup f) (mA f))∧PySem.Within mA (fs.map (·.1))
  | .own _=>∃o,h.get? a=some o
  | .xd fs=>∃mA,h.Ns1 a mA∧∀f,gO (fs.lookup f) (mA f)
  | .rng lo hi=>∃t u v,h.get? a=some {cls:=.type "range",data:=.fields #[.int lo t,.int hi u,.int 1 v]}
  | .frz o u=>h.get? a=some o∧bK H h a u
  | .tbl ps=>h.get? a=some {cls:=.none,data:=.fields ps}
  | .met f x=>h.get? a=some (PySem.W.methodObj (.ref f) (.ref x))
  | .ext φ=>φ h∧(∃o,h.get? a=some o)∧∀h1 h2:Heap,φ h1→(∀o,h1.get? a=some o→h2.get? a=some o)→φ h2
noncomputable def cg (H:Hp)(h:Heap):Prop:=∀a o,H a=some o→bK P w H h a o
end
section
variable {P:Program}{w:World}{H H':Hp}{h h':Heap}{a:Addr}{o:HO}
theorem bK.lt (x:bK P w H h a o):a < h.objs.size:=by
  cases o with
  | lst xs=>obtain ⟨_,_,_,_,e⟩:=x;exact Heap.lt_size e
  | tup xs=>obtain ⟨_,_,_,p⟩:=x;exact p.lt
  | dK kvs=>obtain ⟨_,_,_,_,o,_,_,e,_⟩:=x;exact Heap.lt_size e
  | dT kvs=>obtain ⟨_,_,_,_,o,_,_,e,_⟩:=x;exact Heap.lt_size e
  | set S n=>obtain ⟨o,_,_,_,e,_⟩:=x;exact Heap.lt_size e
  | ins C dx fs=>obtain ⟨_,_,_,e,_⟩:=x;exact Heap.lt_size e
  | own y=>obtain ⟨_,e⟩:=x;exact Heap.lt_size e
  | xd fs=>obtain ⟨_,⟨_,_,_,e,_⟩,_⟩:=x;exact Heap.lt_size e
  | rng lo hi=>obtain ⟨_,_,_,e⟩:=x;exact Heap.lt_size e
  | frz ob u=>obtain ⟨e,_⟩:=x;exact Heap.lt_size e
  | tbl ps=>exact Heap.lt_size (show h.get? a=some _ from x)
  | met f y=>exact Heap.lt_size (show h.get? a=some _ from x)
  | ext φ=>obtain ⟨_,⟨_,e⟩,_⟩:=x;exact Heap.lt_size e
theorem Paired.uC {α β:Type}{F G:α→β→Prop}:∀{l₁:List α} {l₂:List β},Paired F l₁ l₂→(∀a b,F a b→G a b)→Paired G l₁ l₂
  | _,_,.nil,_=>.nil
  | _,_,.cons r t,f=>.cons (f _ _ r) (Paired.uC t f)
theorem bK.gC (x:bK P w H h a o)(k:∀b u,(b=a∨H b=some (.own a))→h.get? b=some u→h'.get? b=some u)
    (ho:∀b,H b=some (.own a)→H' b=some (.own a)) (ht:∀b xs,H b=some (.tup xs)→H' b=some (.tup xs)):bK P w H' h' a o:=by
  induction o with
  | lst xs=>obtain ⟨z,its,n,r,e⟩:=x;exact ⟨z,its,n,r,k _ _ (.inl rfl) e⟩
  | tup xs=>obtain ⟨z,its,r,ob,e,c⟩:=x;exact ⟨z,its,r,ob,k _ _ (.inl rfl) e,c⟩
  | dK kvs=>obtain ⟨z,y,vs,r,ob,es,ep,e,c⟩:=x;exact ⟨z,y,vs,r,ob,es,ep,k _ _ (.inl rfl) e,c⟩
  | dT kvs=>
    obtain ⟨z,y,xs,r,ob,es,ep,e,c⟩:=x
    exact ⟨z,y,xs,Paired.uC r fun p q z=>⟨z.1,ht _ _ z.2.1,z.2.2⟩,ob,es,ep,k _ _ (.inl rfl) e,c⟩
  | set S n=>obtain ⟨ob,es,ep,t,e,c⟩:=x;exact ⟨ob,es,ep,t,k _ _ (.inl rfl) e,c⟩
  | ins C dx fs=>
    obtain ⟨d,z,ne,e,mA,⟨od,es,ep,e2,c⟩,r⟩:=x
    exact ⟨ho _ d,z,ne,k _ _ (.inl rfl) e,mA,⟨od,es,ep,k _ _ (.inr d) e2,c⟩,r⟩
  | own y=>obtain ⟨ob,e⟩:=x;exact ⟨ob,k _ _ (.inl rfl) e⟩
  | xd fs=>obtain ⟨mA,⟨od,es,ep,e,c⟩,r⟩:=x;exact ⟨mA,⟨od,es,ep,k _ _ (.inl rfl) e,c⟩,r⟩
  | rng lo hi=>obtain ⟨t,u,v,e⟩:=x;exact ⟨t,u,v,k _ _ (.inl rfl) e⟩
  | frz ob u ih=>obtain ⟨e,q⟩:=x;exact ⟨k _ _ (.inl rfl) e,ih q⟩
  | tbl ps=>
    have e:h.get? a=some {cls:=.none,data:=.fields ps}:=x
    show h'.get? a=some {cls:=.none,data:=.fields ps}
    exact k a _ (.inl rfl) e
  | met f y=>
    have e:h.get? a=some (PySem.W.methodObj (.ref f) (.ref y)):=x
    show h'.get? a=some (PySem.W.methodObj (.ref f) (.ref y))
    exact k a _ (.inl rfl) e
  | ext φ=>obtain ⟨p,⟨o,e⟩,st⟩:=x;exact ⟨st _ _ p fun o q=>k _ _ (.inl rfl) q,⟨o,k _ _ (.inl rfl) e⟩,st⟩
theorem cg.lt (x:cg P w H h)(e:H a=some o):a < h.objs.size:=(x a o e).lt
theorem cg.fresh (x:cg P w H h)(e:h.objs.size≤a):H a=none:=by
  cases q:H a with
  | none=>rfl
  | some u=>exact absurd (Nat.lt_of_lt_of_le (x.lt q) e) (Nat.lt_irrefl _)
theorem cg.kept (x:cg P w H h)(k:∀b u,h.get? b=some u→h'.get? b=some u):cg P w H h':=fun a o e=>
  (x a o e).gC (fun b u _ q=>k b u q) (fun _ q=>q) fun _ _ q=>q
theorem cg.laid (x:cg P w H h)(k:∀b u,h.get? b=some u→h'.get? b=some u)(hp:h.objs.size≤a)(new:bK P w (upd H a o) h' a o):cg P w (upd H a o) h':=fun b u e=>by
  have hn:=x.fresh hp
  by_cases hb:b=a
  · subst hb;rw [aD] at e;cases e;exact new
  · rw [aJ hb] at e
    exact (x b u e).gC (fun c v _ q=>k c v q) (fun c q=>by rw [aJ (cx q hn)];exact q) fun c xs q=>by rw [aJ (cx q hn)];exact q
end
noncomputable def Rd (H:Hp)(a:Addr)(u:HO):Prop:=H a=some u∨∃o,H a=some (.frz o u)
theorem Rd.ok {P:Program}{w:World}{H:Hp}{h:Heap}{a:Addr}{u:HO}(r:Rd H a u)(x:cg P w H h):bK P w H h a u:=by
  rcases r with r | ⟨o,r⟩
  · exact x a u r
  · obtain ⟨_,q⟩:=x a _ r
    exact q
noncomputable def sQ:Option HO→Prop
  | some (.lst _)=>True
  | some (.dK _)=>True
  | some (.dT _)=>True
  | some (.set _ _)=>True
  | some (.ins _ _ _)=>True
  | some (.ext _)=>True
  | _=>False
section
variable {P:Program}{w:World}{H:Hp}{h h':Heap}{x e:Addr}{o':HO}
theorem cg.write (ok:cg P w H h)(mu:sQ (H x))(he:e=x∨H e=some (.own x))(k:∀b u,b≠e→h.get? b=some u→h'.get? b=some u)(heo:∃u,h'.get? e=some u)
    (new:bK P w (upd H x o') h' x o'):cg P w (upd H x o') h':=fun b u q=>by
  have nown:∀c y,H c=some (.own y)→c≠x:=fun c y r z=>by subst z;rw [r] at mu;exact mu
  have ntup:∀c xs,H c=some (.tup xs)→c≠x:=fun c xs r z=>by subst z;rw [r] at mu;exact mu
  by_cases hb:b=x
  · subst hb;rw [aD] at q;cases q;exact new
  · rw [aJ hb] at q
    by_cases hbe:b=e
    · have q':H b=some (.own x):=by
        rcases he with z | z
        · exact absurd (hbe.trans z) hb
        · rw [hbe];exact z
      rw [q] at q';cases q'
      obtain ⟨v,hv⟩:=heo
      exact ⟨v,by rw [hbe];exact hv⟩
    · refine (ok b u q).gC (fun c v hc r=>k c v ?_ r) (fun c r=>by rw [aJ (nown c b r)];exact r) fun c xs r=>by rw [aJ (ntup c xs r)];exact r
      rcases hc with rfl | hc
      · exact hbe
      · rintro rfl
        rcases he with z | z
        · exact nown c b hc z
        · rw [hc] at z;cases z;exact hb rfl
end
structure Un (fs ex:List Addr) (H H':Hp) (h h':Heap):Prop where
  keep:∀b o,h.get? b=some o→H b=none→b∉fs→b∉ex→h'.get? b=some o
  slot:∀b o,h.get? b=some o→H b=none→b∈fs→b∉ex→∃sl,h'.get? b=some {o with slots:=sl}
  free:∀b o,h.get? b=some o→H b=none→b∉ex→H' b=none
  there:∀b o,h.get? b=some o→b∉ex→∃o',h'.get? b=some o'
  tups:∀b xs,H b=some (.tup xs)→H' b=some (.tup xs)
  frzs:∀b o u,H b=some (.frz o u)→H' b=some (.frz o u)
  tbls:∀b ps,H b=some (.tbl ps)→∃more,H' b=some (.tbl (ps++more))
section
variable {fs fs' ex ex':List Addr}{H H1 H2:Hp}{h h1 h2 h':Heap}{a x e:Addr}{o:HO}
theorem Un.any (u:Un fs ex H H1 h h1){b:Addr}{ob:Obj}(q:h.get? b=some ob)(n:H b=none)(hx:b∉ex):∃sl,h1.get? b=some {ob with slots:=sl}:=by
  by_cases hb:b∈fs
  · exact u.slot b ob q n hb hx
  · exact ⟨ob.slots,u.keep b ob q n hb hx⟩
theorem Un.trans (a:Un fs ex H H1 h h1)(b:Un fs ex H1 H2 h1 h2):Un fs ex H H2 h h2 where
  keep:=fun c ob q n hc hx=>b.keep c ob (a.keep c ob q n hc hx) (a.free c ob q n hx) hc hx
  slot:=fun c ob q n hc hx=>by
    obtain ⟨sl,e1⟩:=a.slot c ob q n hc hx
    obtain ⟨sl',e2⟩:=b.slot c _ e1 (a.free c ob q n hx) hc hx
    exact ⟨sl',e2⟩
  free:=fun c ob q n hx=>by
    obtain ⟨o',e1⟩:=a.there c ob q hx
    exact b.free c o' e1 (a.free c ob q n hx) hx
  there:=fun c ob q hx=>by
    obtain ⟨o',e1⟩:=a.there c ob q hx
    exact b.there c o' e1 hx
  tups:=fun c xs q=>b.tups c xs (a.tups c xs q)
  frzs:=fun c ob xs q=>b.frzs c ob xs (a.frzs c ob xs q)
  tbls:=fun c ps q=>by
    obtain ⟨m1,e1⟩:=a.tbls c ps q
    obtain ⟨m2,e2⟩:=b.tbls c _ e1
    exact ⟨m1++m2,by rw [e2,Array.append_assoc]⟩
theorem Un.kept (k:∀b u,h.get? b=some u→h'.get? b=some u):Un fs ex H H h h':=
  ⟨fun b ob q _ _ _=>k b ob q,fun b ob q _ _ _=>⟨ob.slots,k b ob q⟩,fun _ _ _ n _=>n,fun b ob q _=>⟨ob,k b ob q⟩,fun _ _ q=>q,fun _ _ _ q=>q,fun _ ps q=>⟨#[],by rw [q];simp⟩⟩
theorem Un.refl:Un fs ex H H h h:=Un.kept fun _ _ q=>q
theorem Un.laid (k:∀b u,h.get? b=some u→h'.get? b=some u)(hp:h.objs.size≤a)(hn:H a=none):Un fs ex H (upd H a o) h h' where
  keep:=fun b u q _ _ _=>k b u q
  slot:=fun b u q _ _ _=>⟨u.slots,k b u q⟩
  free:=fun b u q n _=>by rw [aJ (Nat.ne_of_lt (Nat.lt_of_lt_of_le (Heap.lt_size q) hp))];exact n
  there:=fun b u q _=>⟨u,k b u q⟩
  tups:=fun b xs q=>by rw [aJ (cx q hn)];exact q
  frzs:=fun b u xs q=>by rw [aJ (cx q hn)];exact q
  tbls:=fun b ps q=>⟨#[],by rw [aJ (cx q hn),q];simp⟩
theorem Un.write (mu:sQ (H x))(he:e=x∨H e=some (.own x))(k:∀b u,b≠e→h.get? b=some u→h'.get? b=some u)(heo:∃u,h'.get? e=some u):Un fs ex H (upd H x o) h h':=by
  have hx:∀b,H b=none→b≠x:=fun b n z=>by subst z;rw [n] at mu;exact mu
  have hb:∀b,H b=none→b≠e:=fun b n z=>by
    subst z
    rcases he with r | r
    · exact hx b n r
    · rw [n] at r;cases r
  have hm:∀b u,H b=some u→¬sQ (some u)→b≠x:=fun b u q nm z=>by subst z;rw [q] at mu;exact nm mu
  refine ⟨fun b u q n _ _=>k b u (hb b n) q,fun b u q n _ _=>⟨u.slots,k b u (hb b n) q⟩,fun b u q n _=>by rw [aJ (hx b n)];exact n,fun b u q _=>?_,
    fun b xs q=>by rw [aJ (hm b _ q fun z=>z)];exact q,fun b u xs q=>by rw [aJ (hm b _ q fun z=>z)];exact q,fun b ps q=>⟨#[],by rw [aJ (hm b _ q fun z=>z),q];simp⟩⟩
  by_cases hbe:b=e
  · subst hbe;exact heo
  · exact ⟨u,k b u hbe q⟩
theorem Un.mono (u:Un fs ex H H1 h h1)(hs:∀b∈fs,b∈fs')(hx:∀b∈ex,b∈ex'):Un fs' ex' H H1 h h1:=
  ⟨fun b ob q n hb he=>u.keep b ob q n (fun z=>hb (hs b z)) fun z=>he (hx b z),fun _ _ q n _ he=>u.any q n fun z=>he (hx _ z),fun b ob q n he=>u.free b ob q n fun z=>he (hx b z),fun b ob q he=>u.there b ob q fun z=>he (hx b z),u.tups,u.frzs,u.tbls⟩
end
noncomputable def vP (h:Heap)(H:Hp):List Addr:=(List.range h.objs.size).filter fun a=>(H a).isSome
noncomputable def iR (h:Heap)(H:Hp):Heap:=PySem.W.hideAll h (vP h H)
theorem si (h:Heap)(H:Hp):(iR h H).objs.size=h.objs.size:=PySem.W.hideAll_size _ _
theorem uE {h:Heap}{H:Hp}{b:Addr}{o:Obj}(e:h.get? b=some o)(n:H b=none):(iR h H).get? b=some o:=
  PySem.W.hideAll_get _ e fun hm=>by
    have q:(H b).isSome=true:=(List.mem_filter.mp hm).2
    rw [n] at q;simp at q
theorem wN {h:Heap}{H:Hp}{b:Addr}{o:Obj}(e:(iR h H).get? b=some o):h.get? b=some o∧H b=none:=by
  have e':h.get? b=some o:=PySem.W.of_hideAll (vP h H) e
  refine ⟨e',?_⟩
  cases q:H b with
  | none=>rfl
  | some x=>
    have hm:b∈vP h H:=List.mem_filter.mpr ⟨List.mem_range.mpr (Heap.lt_size e'),by simp [q]⟩
    have z:(iR h H).get? b=none:=PySem.W.hideAll_none (vP h H) hm
    rw [z] at e;cases e
structure Mod (K:PySem.W.Frag) (mg:Str→Option Value) (base:Heap):Prop where
  kin:K.In base
  glob:base.Ns mainGlobals mg
  blt:∃mb,base.Ns builtinsNs mb∧∀x:Str,x≠"__name__"→mb x=bootBuiltins x
  nolimit:base.NoLimit
structure Cx where
  prog:Program
  w:World
  K:PySem.W.Frag
  mg:Str→Option Value
  base:Heap
  A:Around
  N:List Str
  s₀:Shared
  H₀:Hp
  env:Env
  outer:List Env
  stack:List Env
  ex:List Addr
  fn:Str→Bool
  calm:Bool
  pn:List (Addr×Obj)
  xe:Value→Shared→Prop
noncomputable def bV (l:List Env):List Addr:=l.filterMap (·.frame)
noncomputable abbrev Cx.fs (X:Cx):List Addr:=bV X.outer
noncomputable def ck (sc:Scope)(x:Str):Prop:=sc.names.lookup x=some .local∨sc.names.lookup x=some .cell∨sc.names.lookup x=some .free
noncomputable def Loc (sc:Scope)(x:Str):Prop:=sc.names.lookup x=some .local∨sc.names.lookup x=some .cell
noncomputable def Look (env:Env)(h:Heap)(m:Str→Option Value)(x:Str)(u:Value):Prop:=
  (env.kindOf x=some .local∧m x=some u)∨((env.kindOf x=some .cell∨env.kindOf x=some .free)∧∃c,env.cells.lookup x=some c∧h.IsCell c (some u))
structure Cx.Ok (X:Cx):Prop where
  mod:Mod X.K X.mg X.base
  kind:X.env.scope.kind= .function
  glob:X.env.globals=mainGlobals
  blt:X.env.builtins=builtinsNs
  above:X.s₀.heap.objs.size≤X.env.locals
  inj:∀x y c,X.env.cells.lookup x=some c→X.env.cells.lookup y=some c→x=y
  has:∀x,(X.env.kindOf x=some .cell∨X.env.kindOf x=some .free)→∃c,X.env.cells.lookup x=some c
  cab:∀x c,X.fn x=true→X.env.cells.lookup x=some c→X.s₀.heap.objs.size≤c
  hd:X.calm=true→X.A.handled=none
  frames:X.A.frames=some X.stack
  stk:X.stack=X.outer∨(X.stack=X.env::X.outer∧X.env.frame=some X.env.locals)
  exf:∀b∈X.ex,b≠X.env.locals∧∀x c,X.env.cells.lookup x=some c→c≠b
  bs:∀b o,X.base.get? b=some o→X.s₀.heap.get? b=some o∧X.H₀ b=none
  bsz:X.base.objs.size≤X.s₀.heap.objs.size
  noex:∀b o,X.base.get? b=some o→b∉X.ex
  exfs:∀b∈X.ex,b∉X.fs
  funs:X.s₀.heap.FunFrames X.base X.outer
  frf:∀b∈X.fs,X.H₀ b=none
structure Inv (X:Cx) (pins:List (Addr×Obj)) (σ:List (Option V)) (H:Hp) (s:Shared):Prop where
  ok:X.Ok
  os:s.os=X.s₀.os
  bare:AllBare s.gens
  base:Un X.fs X.ex X.H₀ H X.s₀.heap s.heap
  loc:∃m,s.heap.Ns X.env.locals m∧∀(i:Nat) (x:Str) (v:V),X.N[i]?=some x→σ[i]?=some (some v)→ck X.env.scope x→∃u,RelV v u∧Look X.env s.heap m x u
  cell:∀x c,X.env.cells.lookup x=some c→∃v,s.heap.IsCell c v
  free:H X.env.locals=none
  freeC:∀x c,X.env.cells.lookup x=some c→H c=none
  pin:∀p∈X.pn++pins,s.heap.get? p.1=some p.2∧H p.1=none∧p.1≠X.env.locals∧p.1∉X.fs∧∀v,p.2.data≠ .cell v
  hok:cg X.prog X.w H s.heap
  len:σ.length=X.N.length
section
variable {X:Cx}{pins:List (Addr×Obj)}{σ:List (Option V)}{H H':Hp}{s:Shared}{h':Heap}
theorem Cx.Ok.DL (ok:X.Ok){b:Addr}{o:Obj}(e:X.base.get? b=some o):b∉X.fs:=fun hb=>by
  have:=(ok.funs.mem hb).1
  rw [e] at this;cases this
theorem Inv.bs (I:Inv X pins σ H s):∀b o,X.base.get? b=some o→s.heap.get? b=some o∧H b=none:=fun b o e=>
  ⟨I.base.keep b o (I.ok.bs b o e).1 (I.ok.bs b o e).2 (I.ok.DL e) (I.ok.noex b o e),I.base.free b o (I.ok.bs b o e).1 (I.ok.bs b o e).2 (I.ok.noex b o e)⟩
theorem Inv.bk (I:Inv X pins σ H s):∀b o,X.base.get? b=some o→s.heap.get? b=some o:=fun b o e=>(I.bs b o e).1
theorem Inv.mod (I:Inv X pins σ H s):Mod X.K X.mg X.base:=I.ok.mod
theorem Inv.dj (I:Inv X pins σ H s):X.K.In s.heap:=I.ok.mod.kin.keeps I.bk
theorem Inv.lt (I:Inv X pins σ H s):X.env.locals < s.heap.objs.size:=let ⟨_,hn,_⟩:=I.loc;hn.lt
theorem Inv.sz (I:Inv X pins σ H s):X.s₀.heap.objs.size≤s.heap.objs.size:=Nat.le_trans I.ok.above (Nat.le_of_lt I.lt)
theorem Inv.DH (I:Inv X pins σ H s){a:Addr}(h:s.heap.objs.size≤a):a∉X.fs:=fun hb=>by
  obtain ⟨_,o,ho,_⟩:=I.ok.funs.mem hb
  exact absurd (Nat.lt_of_lt_of_le (Heap.lt_size ho) (Nat.le_trans I.sz h)) (Nat.lt_irrefl _)
theorem Inv.cne (I:Inv X pins σ H s):∀x c,X.env.cells.lookup x=some c→c≠X.env.locals:=fun x c e z=>by
  obtain ⟨v,o,ho,hd⟩:=I.cell x c e
  obtain ⟨m,⟨o',es,ep,ho',hd',_⟩,_⟩:=I.loc
  rw [z,ho'] at ho;cases ho;rw [hd'] at hd;cases hd
theorem Inv.funs (I:Inv X pins σ H s):s.heap.FunFrames X.base X.outer:=by
  have all:∀(l:List Env),(∀b∈bV l,b∈X.fs)→X.s₀.heap.FunFrames X.base l→s.heap.FunFrames X.base l:=by
    intro l
    induction l with
    | nil=>intro _ _;trivial
    | cons env r ih=>
      intro hs hl
      obtain ⟨hk,⟨L,o,hf,hn,ho,hd⟩,hr⟩:=hl
      have hL:L∈X.fs:=hs L (by unfold bV;rw [List.filterMap_cons,hf];exact List.mem_cons_self)
      obtain ⟨sl,e⟩:=I.base.slot L o ho (I.ok.frf L hL) hL fun z=>I.ok.exfs L z hL
      exact ⟨hk,⟨L,_,hf,hn,e,hd⟩,ih (fun b hb=>hs b (by unfold bV;rw [List.filterMap_cons,hf];exact List.mem_cons_of_mem _ hb)) hr⟩
  exact all X.outer (fun _ hb=>hb) I.ok.funs
theorem Inv.stack (I:Inv X pins σ H s):s.heap.FunFrames X.base X.stack:=by
  rcases I.ok.stk with e | ⟨e,hf⟩
  · rw [e];exact I.funs
  · rw [e]
    obtain ⟨m,hn,_⟩:=I.loc
    refine .cons (by rw [I.ok.kind];decide) hf hn ?_ I.funs
    exact Heap.get?_none_of_le (Nat.le_trans I.ok.bsz I.ok.above)
theorem Inv.lh (I:Inv X pins σ H s):∀b∈bV X.stack,b∈X.env.locals::X.fs:=fun b hb=>by
  rcases I.ok.stk with e | ⟨e,hf⟩
  · rw [e] at hb;exact List.mem_cons_of_mem _ hb
  · rw [e] at hb
    unfold bV at hb
    rw [List.filterMap_cons,hf] at hb
    exact hb
theorem Inv.fE (I:Inv X pins σ H s):∀b∈bV X.stack,H b=none:=fun b hb=>by
  rcases List.mem_cons.mp (I.lh b hb) with e | hb
  · rw [e];exact I.free
  · obtain ⟨_,o,ho,_⟩:=I.ok.funs.mem hb
    exact I.base.free b o ho (I.ok.frf b hb) fun z=>I.ok.exfs b z hb
theorem Inv.step {g':Array GenState}{t':Nat}{d':Drawn}{ch:List Addr}(I:Inv X pins σ H s)
    (hch:∀b∈ch,(b∈X.ex∨X.s₀.heap.objs.size≤b)∧b≠X.env.locals∧(∀x c,X.env.cells.lookup x=some c→c≠b)∧∀p∈X.pn++pins,p.1≠b)
    (keep:∀b o,b≠X.env.locals→b∉X.fs→b∉ch→s.heap.get? b=some o→H b=none→h'.get? b=some o)
    (slot:∀b o,b≠X.env.locals→b∈X.fs→b∉ch→s.heap.get? b=some o→H b=none→∃sl,h'.get? b=some {o with slots:=sl}) (free:∀b o,b∉ch→s.heap.get? b=some o→H b=none→H' b=none)
    (there:∀b o,b∉ch→s.heap.get? b=some o→∃o',h'.get? b=some o')
    (tups:∀b xs,H b=some (.tup xs)→H' b=some (.tup xs)) (frzs:∀b o u,H b=some (.frz o u)→H' b=some (.frz o u)) (tbls:∀b ps,H b=some (.tbl ps)→∃more,H' b=some (.tbl (ps++more)))
    (ns:∀m,s.heap.Ns X.env.locals m→h'.Ns X.env.locals m) (hok:cg X.prog X.w H' h') (hg:AllBare g'):
    Inv X pins σ H' {s with heap:=h',gens:=g',drawn:=d',toks:=t'}:=by
  have neL:∀b o,X.s₀.heap.get? b=some o→b≠X.env.locals:=fun b o e=>Nat.ne_of_lt (Nat.lt_of_lt_of_le (Heap.lt_size e) I.ok.above)
  have neC:∀b o,X.s₀.heap.get? b=some o→b∉X.ex→b∉ch:=fun b o e hx hb=>by
    rcases (hch b hb).1 with z | z
    · exact hx z
    · exact absurd (Nat.lt_of_lt_of_le (Heap.lt_size e) z) (Nat.lt_irrefl _)
  have cellK:∀x c,X.env.cells.lookup x=some c→∀v,s.heap.IsCell c v→h'.IsCell c v:=fun x c e v ⟨o,ho,hd⟩=>by
    have nch:c∉ch:=fun z=>(hch c z).2.2.1 x c e rfl
    by_cases hc:c∈X.fs
    · obtain ⟨sl,q⟩:=slot c o (I.cne x c e) hc nch ho (I.freeC x c e)
      exact ⟨_,q,hd⟩
    · exact ⟨o,keep c o (I.cne x c e) hc nch ho (I.freeC x c e),hd⟩
  refine ⟨I.ok,I.os,hg,⟨fun b o e n hb hx=>?_,fun b o e n hb hx=>?_,fun b o e n hx=>?_,fun b o e hx=>?_,fun b xs e=>tups b xs (I.base.tups b xs e),fun b o xs e=>frzs b o xs (I.base.frzs b o xs e),fun b ps e=>?_⟩,?_,fun x c e=>?_,?_,fun x c e=>?_,fun p hp=>?_,hok,I.len⟩
  · exact keep b o (neL b o e) hb (neC b o e hx) (I.base.keep b o e n hb hx) (I.base.free b o e n hx)
  · obtain ⟨sl,e1⟩:=I.base.slot b o e n hb hx
    obtain ⟨sl',e2⟩:=slot b _ (neL b o e) hb (neC b o e hx) e1 (I.base.free b o e n hx)
    exact ⟨sl',e2⟩
  · obtain ⟨o',e1⟩:=I.base.there b o e hx
    exact free b o' (neC b o e hx) e1 (I.base.free b o e n hx)
  · obtain ⟨o',e1⟩:=I.base.there b o e hx
    exact there b o' (neC b o e hx) e1
  · obtain ⟨m1,e1⟩:=I.base.tbls b ps e
    obtain ⟨m2,e2⟩:=tbls b _ e1
    exact ⟨m1++m2,by rw [e2,Array.append_assoc]⟩
  · obtain ⟨m,hn,hl⟩:=I.loc
    refine ⟨m,ns m hn,fun i x v e1 e2 e3=>?_⟩
    obtain ⟨u,r,l⟩:=hl i x v e1 e2 e3
    refine ⟨u,r,?_⟩
    rcases l with l | ⟨k,c,e,z⟩
    · exact .inl l
    · exact .inr ⟨k,c,e,cellK x c e _ z⟩
  · obtain ⟨v,z⟩:=I.cell x c e
    exact ⟨v,cellK x c e v z⟩
  · obtain ⟨m,⟨o,_,_,ho,_⟩,_⟩:=I.loc
    exact free _ o (fun z=>(hch _ z).2.1 rfl) ho I.free
  · obtain ⟨v,o,ho,hd⟩:=I.cell x c e
    exact free c o (fun z=>(hch c z).2.2.1 x c e rfl) ho (I.freeC x c e)
  · obtain ⟨e,n,ne,nf,d⟩:=I.pin p hp
    have nch:p.1∉ch:=fun z=>(hch p.1 z).2.2.2 p hp rfl
    exact ⟨keep p.1 p.2 ne nf nch e n,free p.1 p.2 nch e n,ne,nf,d⟩
theorem Inv.un {t':Nat}(I:Inv X pins σ H s)(u:Un X.fs [] H H' s.heap h')(hok:cg X.prog X.w H' h'):Inv X pins σ H' {s with heap:=h',toks:=t'}:=by
  obtain ⟨m,⟨o,es,ep,ho,r⟩,_⟩:=id I.loc
  obtain ⟨sl,hL⟩:=u.any ho I.free (by simp)
  exact I.step (g':=s.gens) (d':=s.drawn) (ch:=[]) (fun _ z=>nomatch z) (fun b o _ hb _ e n=>u.keep b o e n hb (by simp)) (fun b o _ hb _ e n=>u.slot b o e n hb (by simp)) (fun b o _ e n=>u.free b o e n (by simp)) (fun b o _ e=>u.there b o e (by simp)) u.tups u.frzs u.tbls (fun m' hm=>by
    obtain ⟨o',es',ep',ho',r'⟩:=hm
    rw [ho] at ho';cases ho'
    exact ⟨_,es',ep',hL,r'⟩) hok I.bare
theorem Inv.call {g':Array GenState}{t':Nat}{d':Drawn}{ch:List Addr}(I:Inv X pins σ H s)(u:Un (bV X.stack) ch H H' s.heap h')(hok:cg X.prog X.w H' h')(hg:AllBare g')
    (hch:∀b∈ch,(b∈X.ex∨X.s₀.heap.objs.size≤b)∧b≠X.env.locals∧(∀x c,X.env.cells.lookup x=some c→c≠b)∧∀p∈X.pn++pins,p.1≠b):
    Inv X pins σ H' {s with heap:=h',gens:=g',drawn:=d',toks:=t'}:=by
  obtain ⟨m,⟨o,es,ep,ho,r⟩,_⟩:=id I.loc
  obtain ⟨sl,hL⟩:=u.any ho I.free fun z=>(hch _ z).2.1 rfl
  exact I.step (ch:=ch) hch (fun b o hL hb hc e n=>u.keep b o e n (fun z=>(List.mem_cons.mp (I.lh b z)).elim hL hb) hc) (fun b o _ _ hc e n=>u.any e n hc) (fun b o hc e n=>u.free b o e n hc) (fun b o hc e=>u.there b o e hc) u.tups u.frzs u.tbls (fun m' hm=>by
    obtain ⟨o',es',ep',ho',r'⟩:=hm
    rw [ho] at ho';cases ho'
    exact ⟨_,es',ep',hL,r'⟩) hok hg
theorem Inv.turned {t':Nat}{it:Addr}(I:Inv X pins σ H s)(k:∀b o,b≠it→s.heap.get? b=some o→h'.get? b=some o)(hn:H it=none)(hL:it≠X.env.locals)
    (h1:it∈X.ex∨X.s₀.heap.objs.size≤it) (h2:∀x c,X.env.cells.lookup x=some c→c≠it) (h3:∀p∈X.pn++pins,p.1≠it):Inv X pins σ H {s with heap:=h',toks:=t'}:=by
  have nit:∀b u,H b=some u→b≠it:=fun b u e z=>by rw [z,hn] at e;cases e
  refine I.step (g':=s.gens) (d':=s.drawn) (ch:=[it]) (fun b hb=>?_) (fun b o _ _ hc e _=>k b o (fun z=>hc (by simp [z])) e) (fun b o _ _ hc e _=>⟨o.slots,k b o (fun z=>hc (by simp [z])) e⟩) (fun _ _ _ _ n=>n)
    (fun b o hc e=>⟨o,k b o (fun z=>hc (by simp [z])) e⟩) (fun _ _ e=>e) (fun _ _ _ e=>e) (fun b ps e=>⟨#[],by rw [e];simp⟩) (fun m hm=>?_) (fun b u e=>?_) I.bare
  · have e:b=it:=by simpa using hb
    subst e
    exact ⟨h1,hL,h2,h3⟩
  · obtain ⟨o,es,ep,ho,r⟩:=hm
    exact ⟨o,es,ep,k _ o (Ne.symm hL) ho,r⟩
  · refine (I.hok b u e).gC (fun c v hc q=>k c v ?_ q) (fun _ q=>q) fun _ _ q=>q
    rcases hc with z | z
    · rw [z];exact nit b u e
    · exact nit c _ z
theorem Inv.tok (I:Inv X pins σ H s)(t:Nat):Inv X pins σ H {s with toks:=t}:=I.un (h':=s.heap) (t':=t) Un.refl I.hok
theorem Inv.kept {t':Nat}(I:Inv X pins σ H s)(k:∀b u,s.heap.get? b=some u→h'.get? b=some u):Inv X pins σ H {s with heap:=h',toks:=t'}:=I.un (Un.kept k) (I.hok.kept k)
theorem Inv.laid {a:Addr}{o:HO}{t':Nat}(I:Inv X pins σ H s)(k:∀b u,s.heap.get? b=some u→h'.get? b=some u)(hp:s.heap.objs.size≤a)(new:bK X.prog X.w (upd H a o) h' a o):
    Inv X pins σ (upd H a o) {s with heap:=h',toks:=t'}:=I.un (Un.laid k hp (I.hok.fresh hp)) (I.hok.laid k hp new)
theorem Inv.write {x e:Addr}{o:HO}{t':Nat}(I:Inv X pins σ H s)(mu:sQ (H x))(he:e=x∨H e=some (.own x))(k:∀b u,b≠e→s.heap.get? b=some u→h'.get? b=some u)(heo:∃u,h'.get? e=some u)
    (new:bK X.prog X.w (upd H x o) h' x o):Inv X pins σ (upd H x o) {s with heap:=h',toks:=t'}:=I.un (Un.write mu he k heo) (I.hok.write mu he k heo new)
theorem Inv.gv {pins':List (Addr×Obj)}(I:Inv X pins σ H s)(h:∀p∈pins',s.heap.get? p.1=some p.2∧H p.1=none∧p.1≠X.env.locals∧p.1∉X.fs∧∀v,p.2.data≠ .cell v):Inv X pins' σ H s:=
  ⟨I.ok,I.os,I.bare,I.base,I.loc,I.cell,I.free,I.freeC,fun p hp=>(List.mem_append.mp hp).elim (fun z=>I.pin p (List.mem_append_left _ z)) (h p),I.hok,I.len⟩
theorem kn {N:List Str}(hN:N.Nodup){i j:Nat}{x:Str}(a:N[i]?=some x)(b:N[j]?=some x):i=j:=by
  obtain ⟨h1,e1⟩:=List.getElem?_eq_some_iff.mp a
  obtain ⟨h2,e2⟩:=List.getElem?_eq_some_iff.mp b
  exact (List.getElem_inj hN).mp (e1.trans e2.symm)
theorem my {M:Model}{A:Around}{E:Value→Shared→Prop}{i:Nat}{x:Str}{v:V}{u:Value}{Q:Unit→Shared→Prop}(I:Inv X pins σ H s)(hN:X.N.Nodup)(hi:X.N[i]?=some x)(hx:Loc X.env.scope x)(r:RelV v u)
    (h:∀s',Inv X pins (σ.set i (some v)) H s'→(∃a,Heap.SameBut a s.heap s'.heap∧(a=X.env.locals∨X.env.cells.lookup x=some a))→Q () s') (hf:X.fn x=true∨X.env.scope.names.lookup x=some .local:=by first | exact .inl rfl | exact .inr rfl | assumption):wpAny M A (storeName X.env x u) Q E s:=by
  obtain ⟨m,hn,hl⟩:=id I.loc
  have hcls:(X.env.scope.kind== .class ||(X.env.scope.kind== .module&&X.env.locals != X.env.globals))=false:=by rw [I.ok.kind];rfl
  have hiσ:i < σ.length:=by rw [I.len];exact (List.getElem?_eq_some_iff.mp hi).1
  have cne:=I.cne
  have tracked:∀{a:Addr} {h':Heap},(∃o,s.heap.get? a=some o∧H a=none)→Heap.SameBut a s.heap h'→cg X.prog X.w H h':=fun {a h'} ha hs b ob e=>by
    obtain ⟨_,_,hfree⟩:=ha
    refine (I.hok b ob e).gC (fun c w' hc q=>(hs.2 c ?_).trans q) (fun _ q=>q) fun _ _ q=>q
    rintro rfl
    rcases hc with rfl | hc
    · rw [hfree] at e;cases e
    · rw [hfree] at hc;cases hc
  rcases hx with hk | hk
  · refine wpAny_storeName_local hk hn (fun h' hn' hs=>?_) hcls
    obtain ⟨oL,_,_,hoL,_⟩:=id hn
    refine h _ ⟨I.ok,I.os,I.bare,⟨fun b o e n hb hx=>?_,fun b o e n hb hx=>?_,I.base.free,fun b o e hx=>?_,I.base.tups,I.base.frzs,I.base.tbls⟩,⟨_,hn',fun j y v' e1 e2 e3=>?_⟩,fun y c e=>?_,I.free,I.freeC,fun p hp=>?_,tracked ⟨oL,hoL,I.free⟩ hs,by simpa using I.len⟩ ⟨_,hs,.inl rfl⟩
    · exact (hs.2 b (Nat.ne_of_lt (Nat.lt_of_lt_of_le (Heap.lt_size e) I.ok.above))).trans (I.base.keep b o e n hb hx)
    · obtain ⟨sl,e1⟩:=I.base.slot b o e n hb hx
      exact ⟨sl,(hs.2 b (Nat.ne_of_lt (Nat.lt_of_lt_of_le (Heap.lt_size e) I.ok.above))).trans e1⟩
    · obtain ⟨o',e1⟩:=I.base.there b o e hx
      exact ⟨o',(hs.2 b (Nat.ne_of_lt (Nat.lt_of_lt_of_le (Heap.lt_size e) I.ok.above))).trans e1⟩
    · by_cases hj:j=i
      · subst hj
        rw [hi] at e1;cases e1
        rw [List.getElem?_set_self hiσ] at e2
        cases e2
        exact ⟨u,r,.inl ⟨hk,by simp⟩⟩
      · rw [List.getElem?_set_ne (Ne.symm hj)] at e2
        obtain ⟨u',r',q⟩:=hl j y v' e1 e2 e3
        refine ⟨u',r',?_⟩
        rcases q with ⟨k,e⟩ | ⟨k,c,e,z⟩
        · refine .inl ⟨k,?_⟩
          have:y≠x:=fun e=>hj (kn hN e1 (e▸hi))
          simp [this,e]
        · exact .inr ⟨k,c,e,z.sameBut hs (cne y c e)⟩
    · obtain ⟨w',z⟩:=I.cell y c e
      exact ⟨w',z.sameBut hs (cne y c e)⟩
    · obtain ⟨e,n,ne,nf,d⟩:=I.pin p hp
      exact ⟨(hs.2 p.1 ne).trans e,n,ne,nf,d⟩
  · have hfn:X.fn x=true:=by
      rcases hf with z | z
      · exact z
      · rw [z] at hk;cases hk
    obtain ⟨c,hc⟩:=I.ok.has x (.inl hk)
    obtain ⟨w',z⟩:=I.cell x c hc
    refine wpAny_storeName_cell I.ok.kind hk hc z (fun h' hc' hs=>?_)
    obtain ⟨oc,hoc,hocd⟩:=id z
    refine h {s with heap:=h'} ⟨I.ok,I.os,I.bare,⟨fun b o e n hb hx=>?_,fun b o e n hb hx=>?_,I.base.free,fun b o e hx=>?_,I.base.tups,I.base.frzs,I.base.tbls⟩,⟨m,hn.sameBut hs (Ne.symm (cne x c hc)),fun j y v' e1 e2 e3=>?_⟩,fun y c' e=>?_,I.free,I.freeC,fun p hp=>?_,tracked ⟨oc,hoc,I.freeC x c hc⟩ hs,by simpa using I.len⟩ ⟨c,hs,.inr hc⟩
    · exact (hs.2 b (Nat.ne_of_lt (Nat.lt_of_lt_of_le (Heap.lt_size e) (I.ok.cab x c hfn hc)))).trans (I.base.keep b o e n hb hx)
    · obtain ⟨sl,e1⟩:=I.base.slot b o e n hb hx
      exact ⟨sl,(hs.2 b (Nat.ne_of_lt (Nat.lt_of_lt_of_le (Heap.lt_size e) (I.ok.cab x c hfn hc)))).trans e1⟩
    · obtain ⟨o',e1⟩:=I.base.there b o e hx
      exact ⟨o',(hs.2 b (Nat.ne_of_lt (Nat.lt_of_lt_of_le (Heap.lt_size e) (I.ok.cab x c hfn hc)))).trans e1⟩
    · by_cases hj:j=i
      · subst hj
        rw [hi] at e1;cases e1
        rw [List.getElem?_set_self hiσ] at e2
        cases e2
        exact ⟨u,r,.inr ⟨.inl hk,c,hc,hc'⟩⟩
      · rw [List.getElem?_set_ne (Ne.symm hj)] at e2
        obtain ⟨u',r',q⟩:=hl j y v' e1 e2 e3
        refine ⟨u',r',?_⟩
        rcases q with q | ⟨k,c',e,z'⟩
        · exact .inl q
        · refine .inr ⟨k,c',e,z'.sameBut hs ?_⟩
          rintro rfl
          exact hj (kn hN e1 (I.ok.inj _ _ _ e hc▸hi))
    · by_cases hcc:c'=c
      · subst hcc;exact ⟨_,hc'⟩
      · obtain ⟨w2,z2⟩:=I.cell y c' e
        exact ⟨w2,z2.sameBut hs hcc⟩
    · obtain ⟨e,n,ne,nf,d⟩:=I.pin p hp
      refine ⟨(hs.2 p.1 ?_).trans e,n,ne,nf,d⟩
      intro q
      rw [q,hoc] at e
      have q':oc=p.2:=Option.some.inj e
      exact d w' (by rw [← q'];exact hocd)
theorem iM {M:Model}{A:Around}{E:Value→Shared→Prop}{i:Nat}{x:Str}{v:V}{u:Value}{Q:Unit→Shared→Prop}(I:Inv X pins σ H s)(hN:X.N.Nodup)(hi:X.N[i]?=some x)(hx:Loc X.env.scope x)(r:RelV v u)
    (h:∀s',Inv X pins (σ.set i (some v)) H s'→Q () s') (hf:X.fn x=true∨X.env.scope.names.lookup x=some .local:=by first | exact .inl rfl | exact .inr rfl | assumption):wpAny M A (storeName X.env x u) Q E s:=
  my I hN hi hx r (fun s' I' _=>h s' I') hf
theorem Inv.qv {s':Shared}{ch:List Addr}(I:Inv X pins σ H s)(ho:s'.os=s.os)(u:Un (bV X.stack) ch H H' s.heap s'.heap)(hok:cg X.prog X.w H' s'.heap)(hg:AllBare s'.gens)
    (hch:∀b∈ch,(b∈X.ex∨X.s₀.heap.objs.size≤b)∧b≠X.env.locals∧(∀x c,X.env.cells.lookup x=some c→c≠b)∧∀p∈X.pn++pins,p.1≠b):Inv X pins σ H' s':=by
  obtain ⟨h',g',d',t',o'⟩:=s'
  have e:o'=s.os:=ho
  subst e
  exact I.call (g':=g') (t':=t') (d':=d') u hok hg hch
end
noncomputable abbrev XK:=Value→Option Addr→Hp→Prop
noncomputable abbrev St:=List (Option V)
noncomputable abbrev VK:=V→Hp→Prop
noncomputable abbrev TE:=St→Hp→VK→Prop
noncomputable abbrev TT:=St→Hp→(Bool→Hp→Prop)→Prop
noncomputable abbrev TA:=St→Hp→(List V→Hp→Prop)→Prop
structure Ends where
  nx:St→Hp→Prop
  rt:VK
  bk:St→Hp→Prop:=fun _ _=>False
  ct:St→Hp→Prop:=fun _ _=>False
noncomputable abbrev TS:=Ends→St→Hp→Prop
noncomputable def EP (X:Cx)(pins:List (Addr×Obj))(σ:St)(Q:VK)(u:Value)(s':Shared):Prop:=∃v H',Inv X pins σ H' s'∧RelV v u∧Q v H'
noncomputable def TP (X:Cx)(pins:List (Addr×Obj))(σ:St)(Q:Bool→Hp→Prop)(b:Bool)(s':Shared):Prop:=∃H',Inv X pins σ H' s'∧Q b H'
noncomputable def AP (X:Cx)(pins:List (Addr×Obj))(σ:St)(Q:List V→Hp→Prop)(us:List Value)(s':Shared):Prop:=∃vs H',Inv X pins σ H' s'∧Vals vs us∧Q vs H'
noncomputable def SP (X:Cx)(pins:List (Addr×Obj))(D:Ends)(f:Flow)(s':Shared):Prop:=
  match f with
  | .next=>∃σ' H',Inv X pins σ' H' s'∧D.nx σ' H'
  | .brk=>∃σ' H',Inv X pins σ' H' s'∧D.bk σ' H'
  | .cont=>∃σ' H',Inv X pins σ' H' s'∧D.ct σ' H'
  | .ret u=>∃v σ' H',Inv X pins σ' H' s'∧RelV v u∧D.rt v H'
noncomputable def PE (X:Cx)(e:Expr)(t:TE):Prop:=
  ∀(pins:List (Addr×Obj)) (s:Shared) (σ:St) (H:Hp) (Q:VK),Inv X pins σ H s→t σ H Q→wpAny (model X.prog X.w) X.A (eval e X.env) (EP X pins σ Q) X.xe s
noncomputable def PT (X:Cx)(e:Expr)(t:TT):Prop:=
  ∀(pins:List (Addr×Obj)) (s:Shared) (σ:St) (H:Hp) (Q:Bool→Hp→Prop),Inv X pins σ H s→t σ H Q→wpAny (model X.prog X.w) X.A (isTrue e X.env (eval e X.env)) (TP X pins σ Q) X.xe s
noncomputable def PW (X:Cx)(e:Expr)(t:TT):Prop:=
  ∀(whole:Sem Value) (pins:List (Addr×Obj)) (s:Shared) (σ:St) (H:Hp) (Q:Bool→Hp→Prop),Inv X pins σ H s→t σ H Q→wpAny (model X.prog X.w) X.A (isTrue e X.env whole) (TP X pins σ Q) X.xe s
theorem PW.pt {X:Cx}{e:Expr}{t:TT}(h:PW X e t):PT X e t:=h _
noncomputable def PA (X:Cx)(es:List Expr)(t:TA):Prop:=
  ∀(pos:Pos) (pins:List (Addr×Obj)) (s:Shared) (σ:St) (H:Hp) (Q:List V→Hp→Prop),Inv X pins σ H s→t σ H Q→wpAny (model X.prog X.w) X.A (spliced (backTo pos (starEach es X.env))) (AP X pins σ Q) X.xe s
noncomputable def PS (X:Cx)(st:Stmt)(t:TS):Prop:=
  ∀(pins:List (Addr×Obj)) (s:Shared) (σ:St) (H:Hp) (D:Ends),Inv X pins σ H s→t D σ H→wpAny (model X.prog X.w) X.A (exec st X.env) (SP X pins D) X.xe s
noncomputable def f9 (X:Cx)(st:List Stmt)(t:TS):Prop:=
  ∀(pins:List (Addr×Obj)) (s:Shared) (σ:St) (H:Hp) (D:Ends),Inv X pins σ H s→t D σ H→wpAny (model X.prog X.w) X.A (execs st X.env) (SP X pins D) X.xe s
theorem aR {α:Type}{t:Sem α}{Q Q':α→Shared→Prop}{M:Model}{A:Around}{E:Value→Shared→Prop}{s:Shared}(h:wpAny M A t Q E s)(hQ:∀a s,Q a s→Q' a s):wpAny M A t Q' E s:=wpAny_mono h hQ fun _ _ x=>x
section
variable {X:Cx}
noncomputable def DW (i:Nat):TE:=fun σ H Q=>∃v,σ[i]?=some (some v)∧Q v H
noncomputable def tC (v:V):TE:=fun _ H Q=>Q v H
theorem br {i:Nat}{x:Str}{pos:Pos}(hN:X.N[i]?=some x)(hv:ck X.env.scope x)(hd:autoParam ((x==("__debug__":Str))=false) Fc.aw)(hcd:autoParam ((x==("__classdict__":Str))=false) Fc.aw):PE X (.Name x pos) (DW i):=by
  intro pins s σ H Q I h
  obtain ⟨v,e,h⟩:=h
  obtain ⟨m,hn,hl⟩:=I.loc
  obtain ⟨u,r,l⟩:=hl i x v hN e hv
  have fin:EP X pins σ Q u s:=⟨v,H,I,r,h⟩
  rcases l with ⟨hk,hm⟩ | ⟨hk,c,hc,hcell⟩
  · exact wpAny_Name (wpAny_loadName_local I.ok.kind hk hn hm fin) hd
  · rcases hk with hk | hk
    · exact wpAny_Name (wpAny_loadName_cell I.ok.kind hk hc hcell fin) hd
    · exact wpAny_Name (wpAny_loadName_free I.ok.kind hk hc hcell fin hcd) hd
theorem dQ {i j pos}:PE X (.Constant (.int i) j pos) (tC (.int i)):=fun _ _ _ H _ I h=>wpAny_Constant_int ⟨.int i,H,I.tok _,⟨_,rfl⟩,h⟩
theorem qU {b j pos}:PE X (.Constant (.bool b) j pos) (tC (.bl b)):=fun _ _ _ H _ I h=>Constant_bool ⟨.bl b,H,I,rfl,h⟩
theorem y6 {j pos}:PE X (.Constant .none j pos) (tC .non):=fun _ _ _ H _ I h=>Constant_none ⟨.non,H,I,rfl,h⟩
theorem xW {x j pos}:PE X (.Constant (.str x) j pos) (tC (.str x)):=fun _ _ _ H _ I h=>Calls.Constant_str ⟨.str x,H,I.tok _,⟨_,rfl⟩,h⟩
noncomputable def Gl (X:Cx)(x:Str):Prop:=X.env.kindOf x=some .globalImplicit
theorem fb {E:Value→Shared→Prop}{pins:List (Addr×Obj)}{s:Shared}{σ:St}{H:Hp}{x:Str}{u:Value}{pos:Pos}{Q:Value→Shared→Prop}(I:Inv X pins σ H s)(hg:Gl X x)(hm:X.mg x=some u)(h:Q u s)
    (hd:autoParam ((x==("__debug__":Str))=false) Fc.aw):wpAny (model X.prog X.w) X.A (eval (.Name x pos) X.env) Q E s:=
  Calls.Name_function_global I.ok.kind hg (Calls.loadGlobal_global (by rw [I.ok.glob];exact I.mod.glob.keeps I.bk) hm h) hd
theorem iz {E:Value→Shared→Prop}{pins:List (Addr×Obj)}{s:Shared}{σ:St}{H:Hp}{x:Str}{u:Value}{pos:Pos}{Q:Value→Shared→Prop}(I:Inv X pins σ H s)(hg:Gl X x)(hm:X.mg x=none)(hv:bootBuiltins x=some u)(h:Q u s)
    (hn:autoParam (x≠"__name__") Fc.aw) (hd:autoParam ((x==("__debug__":Str))=false) Fc.aw):wpAny (model X.prog X.w) X.A (eval (.Name x pos) X.env) Q E s:=by
  obtain ⟨mb,h1,h2⟩:=I.mod.blt
  exact Calls.Name_function_global I.ok.kind hg (Calls.loadGlobal_builtin (by rw [I.ok.glob];exact I.mod.glob.keeps I.bk) hm (by rw [I.ok.blt];exact h1.keeps I.bk) ((h2 x hn).trans hv) h) hd
theorem gA {x:Str}{v:V}{u:Value}{pos:Pos}(hg:Gl X x)(hm:X.mg x=some u)(r:RelV v u)(hd:autoParam ((x==("__debug__":Str))=false) Fc.aw):PE X (.Name x pos) (tC v):=
  fun _ _ _ H _ I h=>fb I hg hm ⟨v,H,I,r,h⟩ hd
theorem pA {x:Str}{v:V}{u:Value}{pos:Pos}(hg:Gl X x)(hm:X.mg x=none)(hv:bootBuiltins x=some u)(r:RelV v u)(hn:autoParam (x≠"__name__") Fc.aw)(hd:autoParam ((x==("__debug__":Str))=false) Fc.aw):PE X (.Name x pos) (tC v):=
  fun _ _ _ H _ I h=>iz I hg hm hv ⟨v,H,I,r,h⟩ hn hd
variable {a b:Expr}{ta tb:TE}{pos:Pos}
noncomputable def PC (X:Cx)(op:CmpOp)(a b:Expr)(t:TE):Prop:=
  ∀ (pins:List (Addr×Obj)) (s:Shared) (σ:St) (H:Hp) (Q:VK),Inv X pins σ H s→t σ H Q→
    wpAny (model X.prog X.w) X.A (eval a X.env) (fun v s₁=>wpAny (model X.prog X.w) X.A (eval b X.env) (fun u s₂=>wpAny (model X.prog X.w) X.A (compareOp op v u) (EP X pins σ Q) X.xe s₂) X.xe s₁) X.xe s
noncomputable def tB (t:TE):TT:=fun σ H Q=>t σ H fun x H1=>∃c,x= .bl c∧Q c H1
theorem tN {op:CmpOp}{t:TE}(h:PC X op a b t)(h1:behindInMarks op b=false:=by first | exact nobehind _ (by decide) (by decide) | rfl):PE X (.Compare a [op] [b] pos) t:=fun pins s σ H Q I hw=>wpAny_Compare1 (h pins s σ H Q I hw) h1
theorem tj {op:CmpOp}{t:TE}(h:PC X op a b t)(h1:behindInMarks op b=false:=by first | exact nobehind _ (by decide) (by decide) | rfl):PT X (.Compare a [op] [b] pos) (tB t):=by
  intro pins s σ H Q I hw
  refine wpAny_isTrue_Compare1 (aR (h pins s σ H _ I hw) fun v s1 h1=>aR h1 fun u s2 h2=>aR h2 fun c s3 ⟨x,H1,I1,r1,q1⟩=>?_) h1
  obtain ⟨d,rfl,q⟩:=q1
  cases r1
  exact wpAny_truthy_bool ⟨H1,I1,q⟩
theorem tu {e:Expr}{t:TE}(h:PE X e t)(he:autoParam (∀whole,isTrue e X.env whole=(do let v ← whole;standAt e.pos;holding [v] (truthy v))) Fc.cZ):PT X e (tB t):=by
  intro pins s σ H Q I hw
  refine isTrue_plain (aR (h pins s σ H _ I hw) fun v s1 ⟨x,H1,I1,r1,q1⟩=>?_) (he _)
  obtain ⟨d,rfl,q⟩:=q1
  cases r1
  exact wpAny_truthy_bool ⟨H1,I1,q⟩
variable {tA tB':TT}{rest:List Expr}
noncomputable def DI (t u:TT):TT:=fun σ H Q=>t σ H fun c H1=>if c=true then u σ H1 Q else Q false H1
noncomputable def tOr (t u:TT):TT:=fun σ H Q=>t σ H fun c H1=>if c=true then Q true H1 else u σ H1 Q
noncomputable def Dv (t:TT):TT:=fun σ H Q=>t σ H fun c H1=>Q (!c) H1
theorem pT (ha:PT X a tA):PW X (.BoolOp .And [a] pos) tA:=by
  intro wh pins s σ H Q I h
  refine isTrue_and (aR (ha pins s σ H Q I h) fun c s1 e=>?_)
  cases c with
  | true=>exact isTrue_and_nil e
  | false=>exact e
theorem zq (ha:PT X a tA):PW X (.BoolOp .Or [a] pos) tA:=by
  intro wh pins s σ H Q I h
  refine isTrue_or (aR (ha pins s σ H Q I h) fun c s1 e=>?_)
  cases c with
  | false=>exact isTrue_or_nil e
  | true=>exact e
theorem tW (ha:PT X a tA)(hb:PW X (.BoolOp .And (b::rest) pos) tB'):PW X (.BoolOp .And (a::b::rest) pos) (DI tA tB'):=by
  intro wh pins s σ H Q I h
  refine isTrue_and (aR (ha pins s σ H _ I h) fun c s1 ⟨H1,I1,q1⟩=>?_)
  cases c with
  | true=>exact hb wh pins s1 σ H1 Q I1 q1
  | false=>exact ⟨H1,I1,q1⟩
theorem A4 (ha:PT X a tA)(hb:PW X (.BoolOp .Or (b::rest) pos) tB'):PW X (.BoolOp .Or (a::b::rest) pos) (tOr tA tB'):=by
  intro wh pins s σ H Q I h
  refine isTrue_or (aR (ha pins s σ H _ I h) fun c s1 ⟨H1,I1,q1⟩=>?_)
  cases c with
  | true=>exact ⟨H1,I1,q1⟩
  | false=>exact hb wh pins s1 σ H1 Q I1 q1
theorem se (ha:PT X a tA):PT X (.UnaryOp .Not a pos) (Dv tA):=by
  intro pins s σ H Q I h
  exact isTrue_not (ha pins s σ H (fun c H1=>Q (!c) H1) I h)
noncomputable def B6 (ta tb:TE):TE:=fun σ H Q=>ta σ H fun x H1=>∃c,x= .bl c∧if c=true then tb σ H1 Q else Q (.bl false) H1
noncomputable def DB (ta tb:TE):TE:=fun σ H Q=>ta σ H fun x H1=>∃c,x= .bl c∧if c=true then Q (.bl true) H1 else tb σ H1 Q
noncomputable def BM (ta:TE):TE:=fun σ H Q=>ta σ H fun x H1=>∃c,x= .bl c∧Q (.bl (!c)) H1
theorem Am {op}{t:TE}(h:PE X a t):PE X (.BoolOp op [a] pos) t:=fun pins s σ H Q I hw=>BoolOp_one (h pins s σ H Q I hw)
theorem zD (ha:PE X a ta)(hb:PE X (.BoolOp .And (b::rest) pos) tb):PE X (.BoolOp .And (a::b::rest) pos) (B6 ta tb):=by
  intro pins s σ H Q I h
  refine BoolOp_and (aR (ha pins s σ H _ I h) fun v s1 ⟨x,H1,I1,r1,q1⟩=>?_)
  obtain ⟨c,rfl,q1⟩:=q1
  cases r1
  refine wpAny_truthy_bool ?_
  cases c with
  | true=>exact hb pins s1 σ H1 Q I1 q1
  | false=>exact ⟨.bl false,H1,I1,rfl,q1⟩
theorem A6 (ha:PE X a ta)(hb:PE X (.BoolOp .Or (b::rest) pos) tb):PE X (.BoolOp .Or (a::b::rest) pos) (DB ta tb):=by
  intro pins s σ H Q I h
  refine BoolOp_or (aR (ha pins s σ H _ I h) fun v s1 ⟨x,H1,I1,r1,q1⟩=>?_)
  obtain ⟨c,rfl,q1⟩:=q1
  cases r1
  refine wpAny_truthy_bool ?_
  cases c with
  | false=>exact hb pins s1 σ H1 Q I1 q1
  | true=>exact ⟨.bl true,H1,I1,rfl,q1⟩
theorem zC (ha:PE X a ta):PE X (.UnaryOp .Not a pos) (BM ta):=by
  intro pins s σ H Q I h
  refine UnaryOp_ (aR (ha pins s σ H _ I h) fun v s1 ⟨x,H1,I1,r1,q1⟩=>?_)
  obtain ⟨c,rfl,q1⟩:=q1
  cases r1
  exact not_of (wpAny_truthy_bool ⟨.bl (!c),H1,I1,rfl,q1⟩)
end
noncomputable def bq (K:PySem.W.Frag)(H:Hp)(a:Addr)(xs:List V):Prop:=
  Rd H a (.lst xs)∨
    ∃(o:Obj) (its:Array Value) (n:Nat),K.lookup a=some o∧o.cls= .type "list"∧o.dict=none∧o.data= .seq its n∧its.size≤sizeLine∧Vals xs its.toList
noncomputable def dE (K:PySem.W.Frag)(H:Hp)(a:Addr)(xs:List V):Prop:=
  Rd H a (.tup xs)∨
    ∃(o:Obj) (its:Array Value) (n:Nat),K.lookup a=some o∧o.cls= .type "tuple"∧o.data= .seq its n∧its.size≤sizeLine∧Vals xs its.toList
noncomputable def DQ:Value→Option V
  | .none=>some .non
  | .bool b=>some (.bl b)
  | .int i _=>some (.int i)
  | .str x _=>some (.str x)
  | .bytes b _=>some (.byt b)
  | .float b _=>some (.flt b)
  | .ref a=>some (.ref a)
  | .type n=>some (.ty n)
  | _=>none
theorem RelV.abs {x:V}{u:Value}(r:RelV x u):DQ u=some x:=by
  cases x with
  | non=>cases r;rfl
  | bl _=>cases r;rfl
  | int _=>obtain ⟨t,rfl⟩:=r;rfl
  | str _=>obtain ⟨t,rfl⟩:=r;rfl
  | byt _=>obtain ⟨t,rfl⟩:=r;rfl
  | flt _=>obtain ⟨t,rfl⟩:=r;rfl
  | ref _=>cases r;rfl
  | ty _=>cases r;rfl
theorem RelV.inj {x y:V}{u:Value}(r:RelV x u)(q:RelV y u):x=y:=Option.some.inj (r.abs.symm.trans q.abs)
theorem Vals.inj:∀{xs ys:List V} {us:List Value},Vals xs us→Vals ys us→xs=ys
  | _,_,_,.nil,.nil=>rfl
  | _,_,_,.cons r t,.cons r' t'=>by rw [r.inj r',Vals.inj t t']
section
variable {X:Cx}{pins:List (Addr×Obj)}{σ:St}{H:Hp}{s:Shared}{a:Addr}{xs ys:List V}
theorem bq.of {K:PySem.W.Frag}(h:H a=some (.lst xs)):bq K H a xs:=.inl (.inl h)
theorem dE.of {K:PySem.W.Frag}(h:H a=some (.tup xs)):dE K H a xs:=.inl (.inl h)
theorem Inv.list (I:Inv X pins σ H s)(h:bq X.K H a xs):∃its:List Value,Vals xs its∧PlainL s.heap a its.toArray∧xs.length≤sizeLine:=by
  rcases h with h | ⟨o,its,n,hk,hc,hd,hs,hz,r⟩
  · obtain ⟨z,its,n,r,e⟩:=h.ok I.hok
    exact ⟨its,r,⟨_,n,e,rfl,rfl,rfl⟩,z⟩
  · refine ⟨its.toList,r,⟨o,n,I.dj a o hk,hc,hd,by simpa using hs⟩,?_⟩
    have e:=r.length
    simp only [Array.length_toList] at e
    omega
theorem Inv.tuple (I:Inv X pins σ H s)(h:dE X.K H a xs):∃its:List Value,Vals xs its∧IsTup s.heap a its.toArray∧xs.length≤sizeLine:=by
  rcases h with h | ⟨o,its,n,hk,hc,hs,hz,r⟩
  · obtain ⟨z,its,r,p⟩:=h.ok I.hok
    exact ⟨its,r,p,z⟩
  · refine ⟨its.toList,r,⟨o,I.dj a o hk,hc,n,by simpa using hs⟩,?_⟩
    have e:=r.length
    simp only [Array.length_toList] at e
    omega
theorem Inv.m7 (I:Inv X pins σ H s)(h:bq X.K H a xs)(h':bq X.K H a ys):xs=ys:=by
  obtain ⟨its,r,⟨o,n,e,_,_,d⟩,_⟩:=I.list h
  obtain ⟨its',r',⟨o',n',e',_,_,d'⟩,_⟩:=I.list h'
  rw [e] at e';cases e'
  rw [d] at d'
  injection d' with d1 _
  have:its=its':=by simpa using congrArg Array.toList d1
  subst this
  exact r.inj r'
theorem Inv.sW (I:Inv X pins σ H s)(h:dE X.K H a xs)(h':dE X.K H a ys):xs=ys:=by
  obtain ⟨its,r,⟨o,e,_,n,d⟩,_⟩:=I.tuple h
  obtain ⟨its',r',⟨o',e',_,n',d'⟩,_⟩:=I.tuple h'
  rw [e] at e';cases e'
  rw [d] at d'
  injection d' with d1 _
  have:its=its':=by simpa using congrArg Array.toList d1
  subst this
  exact r.inj r'
end
noncomputable abbrev Cx.fD (X:Cx)(E:Value→Shared→Prop):Cx:={X with xe:=E}
noncomputable abbrev Cx.bR (X:Cx):Cx:=X.fD fun _ _=>False
theorem Cx.Ok.fD {X:Cx}(ok:X.Ok)(E:Value→Shared→Prop):(X.fD E).Ok:=
  ⟨ok.mod,ok.kind,ok.glob,ok.blt,ok.above,ok.inj,ok.has,ok.cab,ok.hd,ok.frames,ok.stk,ok.exf,ok.bs,ok.bsz,ok.noex,ok.exfs,ok.funs,ok.frf⟩
theorem Cx.Ok.d7 {X:Cx}{E:Value→Shared→Prop}(ok:(X.fD E).Ok):X.Ok:=
  ⟨ok.mod,ok.kind,ok.glob,ok.blt,ok.above,ok.inj,ok.has,ok.cab,ok.hd,ok.frames,ok.stk,ok.exf,ok.bs,ok.bsz,ok.noex,ok.exfs,ok.funs,ok.frf⟩
section
variable {X:Cx}{pins:List (Addr×Obj)}{σ:St}{H:Hp}{s:Shared}{E:Value→Shared→Prop}
theorem Inv.fD (I:Inv X pins σ H s)(E:Value→Shared→Prop):Inv (X.fD E) pins σ H s:=⟨I.ok.fD E,I.os,I.bare,I.base,I.loc,I.cell,I.free,I.freeC,I.pin,I.hok,I.len⟩
theorem Inv.d7 (I:Inv (X.fD E) pins σ H s):Inv X pins σ H s:=⟨I.ok.d7,I.os,I.bare,I.base,I.loc,I.cell,I.free,I.freeC,I.pin,I.hok,I.len⟩
theorem SP.d7 {D:Ends}{f:Flow}{s':Shared}(h:SP (X.fD E) pins D f s'):SP X pins D f s':=by
  cases f with
  | next=>obtain ⟨σ',H',I,q⟩:=h;exact ⟨σ',H',I.d7,q⟩
  | brk=>obtain ⟨σ',H',I,q⟩:=h;exact ⟨σ',H',I.d7,q⟩
  | cont=>obtain ⟨σ',H',I,q⟩:=h;exact ⟨σ',H',I.d7,q⟩
  | ret u=>obtain ⟨v,σ',H',I,r,q⟩:=h;exact ⟨v,σ',H',I.d7,r,q⟩
theorem f9.bR {st:List Stmt}{t:TS}(h:f9 X.bR st t):f9 X st t:=fun pins s σ H D I hw=>
  wpAny_mono (h pins s σ H D (I.fD _) hw) (fun _ _ q=>q.d7) fun _ _ z=>False.elim z
end
section
variable {X:Cx}{st:Stmt}{rest:List Stmt}{t u:TS}{e:Expr}{te:TE}{pos:Pos}
noncomputable def Bc:TS:=fun D σ H=>D.nx σ H
noncomputable def DS (t u:TS):TS:=fun D σ H=>t {D with nx:=u D} σ H
theorem xr:f9 X [] Bc:=fun _ _ σ H _ I h=>wpAny_execs_nil ⟨σ,H,I,h⟩
theorem gI (h1:PS X st t)(h2:f9 X rest u):f9 X (st::rest) (DS t u):=by
  intro pins s σ H D I h
  refine wpAny_execs_cons (aR (h1 pins s σ H {D with nx:=u D} I h) fun f s1 q=>?_)
  cases f with
  | next=>
    obtain ⟨σ',H',I',q⟩:=q
    exact h2 pins s1 σ' H' D I' q
  | ret v=>exact q
  | brk=>exact q
  | cont=>exact q
theorem xp (h1:PS X st t):f9 X [st] t:=by
  intro pins s σ H D I h
  refine wpAny_execs_cons (aR (h1 pins s σ H D I h) fun f s1 q=>?_)
  cases f with
  | next=>exact wpAny_execs_nil q
  | ret v=>exact q
  | brk=>exact q
  | cont=>exact q
theorem Inv.quiet {pins:List (Addr×Obj)}{σ:St}{H:Hp}{s:Shared}(I:Inv X pins σ H s):interactive X.env=false:=by simp [interactive,I.ok.kind]
noncomputable def Cc (te:TE):TS:=fun D σ H=>te σ H fun _ H1=>D.nx σ H1
theorem fc (he:PE X e te)(hs:autoParam (swapsWith e none pos.line X.env=pure false) Fc.ai):PS X (.Expr e pos) (Cc te):=by
  intro pins s σ H D I h
  exact wpAny_Expr_any (aR (he pins s σ H _ I h) fun v s1 ⟨x,H1,I1,r1,q1⟩=>⟨σ,H1,I1,q1⟩) I.quiet hs
noncomputable def Dz (te:TE):TS:=fun D σ H=>te σ H D.rt
theorem dO (he:PE X e te):PS X (.Return (some e) pos) (Dz te):=by
  intro pins s σ H D I h
  exact wpAny_Return_some (aR (he pins s σ H _ I h) fun v s1 ⟨x,H1,I1,r1,q1⟩=>⟨x,σ,H1,I1,r1,q1⟩)
noncomputable def DO (c:TT)(t u:TS):TS:=fun D σ H=>c σ H fun b H1=>if b=true then t D σ H1 else u D σ H1
theorem vz {c:Expr}{a b:List Stmt}{tc:TT}(hc:PT X c tc)(ha:f9 X a t)(hb:f9 X b u):PS X (.If c a b pos) (DO tc t u):=by
  intro pins s σ H D I h
  refine wpAny_If (aR (hc pins s σ H _ I h) fun d s1 ⟨H1,I1,q1⟩=>?_)
  cases d with
  | true=>exact ha pins s1 σ H1 D I1 q1
  | false=>exact hb pins s1 σ H1 D I1 q1
end
noncomputable abbrev TG:=V→St→Hp→(St→Hp→Prop)→Prop
noncomputable abbrev kP:=List V→St→Hp→(St→Hp→Prop)→Prop
noncomputable def PG (X:Cx)(target:Expr)(t:TG):Prop:=
  ∀ (pins:List (Addr×Obj)) (s:Shared) (σ:St) (H:Hp) (v:V) (u:Value) (Q:St→Hp→Prop),Inv X pins σ H s→RelV v u→t v σ H Q→
    wpAny (model X.prog X.w) X.A (assign target X.env u) (fun _ s'=>∃σ' H',Inv X pins σ' H' s'∧Q σ' H') X.xe s
noncomputable def tF (X:Cx)(ts:List Expr)(t:kP):Prop:=
  ∀ (pins:List (Addr×Obj)) (s:Shared) (σ:St) (H:Hp) (vs:List V) (us:List Value) (Q:St→Hp→Prop),Inv X pins σ H s→Vals vs us→t vs σ H Q→
    wpAny (model X.prog X.w) X.A (assignInOrder ((assignEach ts X.env).map (·.2)) us) (fun _ s'=>∃σ' H',Inv X pins σ' H' s'∧Q σ' H') X.xe s
noncomputable abbrev vq:=V→V→V→Hp→(Hp→Prop)→Prop
noncomputable def z5 (X:Cx)(t:vq):Prop:=
  ∀ (pins:List (Addr×Obj)) (s:Shared) (σ:St) (H:Hp) (o i v:V) (ov iv u:Value) (Q:Hp→Prop),Inv X pins σ H s→RelV o ov→RelV i iv→RelV v u→t o i v H Q→
    wpAny (model X.prog X.w) X.A (setItem ov iv u) (fun _ s'=>∃H',Inv X pins σ H' s'∧Q H') X.xe s
noncomputable abbrev wo:=V→V→Hp→VK→Prop
noncomputable def Ah (X:Cx)(op:Operator)(t:wo):Prop:=
  ∀ (pins:List (Addr×Obj)) (s:Shared) (σ:St) (H:Hp) (x y:V) (v u:Value) (Q:VK),Inv X pins σ H s→RelV x v→RelV y u→t x y H Q→
    wpAny (model X.prog X.w) X.A (inplaceOp op v u) (EP X pins σ Q) X.xe s
section
variable {X:Cx}{pos:Pos}
noncomputable def mJ (i:Nat):TG:=fun v σ H Q=>Q (σ.set i (some v)) H
theorem fI {i:Nat}{x:Str}(hN:X.N.Nodup)(hi:X.N[i]?=some x)(hx:Loc X.env.scope x)(hf:X.fn x=true∨X.env.scope.names.lookup x=some .local:=by first | exact .inl rfl | exact .inr rfl | assumption):PG X (.Name x pos) (mJ i):=by
  intro pins s σ H v u Q I r h
  exact wpAny_assign_Name (iM I hN hi hx r (fun s' I'=>⟨_,H,I',h⟩) hf)
noncomputable def Du:kP:=fun vs σ H Q=>vs=[]∧Q σ H
noncomputable def A1 (t:TG)(u:kP):kP:=fun vs σ H Q=>∃v r,vs=v::r∧t v σ H fun σ' H'=>u r σ' H' Q
theorem lR:tF X [] Du:=by
  intro pins s σ H vs us Q I r h
  obtain ⟨e,h⟩:=h
  subst e
  cases r
  exact assignInOrder_nil ⟨σ,H,I,h⟩
theorem fL {e:Expr}{es:List Expr}{t:TG}{u:kP}(h1:PG X e t)(h2:tF X es u)
    (hs:autoParam ((assignEach (e::es) X.env).map (·.2)=assign e X.env::(assignEach es X.env).map (·.2)) Fc.ai):tF X (e::es) (A1 t u):=by
  intro pins s σ H vs us Q I r h
  obtain ⟨v,vr,e1,h⟩:=h
  subst e1
  cases r with
  | cons r rr=>
    rw [hs]
    refine assignInOrder_cons (aR (h1 pins s σ H _ _ _ I r h) fun _ s1 ⟨σ1,H1,I1,q1⟩=>?_)
    exact h2 pins s1 σ1 H1 _ _ Q I1 rr q1
noncomputable def DE (K:PySem.W.Frag)(n:Nat)(t:kP):TG:=fun v σ H Q=>∃a xs,v= .ref a∧dE K H a xs∧xs.length=n∧t xs σ H Q
theorem yk {es:List Expr}{k:Nat}{t:kP}{n:Nat}(hc:X.calm=true)(h:tF X es t)
    (hn:autoParam ((assignEach es X.env).length=n) Fc.ai) (hst:autoParam ((assignEach es X.env).findIdx? (·.1)=none) Fc.ai):PG X (.Tuple es k pos) (DE X.K n t):=by
  intro pins s σ H v u Q I r hw
  obtain ⟨a,xs,e1,hq,hl,hw⟩:=hw
  subst e1
  cases r
  obtain ⟨its,rv,ht,hz⟩:=I.tuple hq
  refine assign_Tuple_tuple (I.ok.hd hc) ht (by simp [hn,← hl,rv.length]) hst fun h' hx=>?_
  have I1:Inv X pins σ H {s with heap:=h'}:=I.kept (t':=s.toks) fun b o e=>hx b o (Nat.ne_of_lt (Heap.lt_size e)) e
  exact h pins _ σ H xs _ Q I1 (by simpa using rv) hw
noncomputable def DY (to ti:TE)(t:vq):TG:=fun v σ H Q=>to σ H fun o H1=>ti σ H1 fun i H2=>t o i v H2 fun H3=>Q σ H3
theorem kS {o i:Expr}{to ti:TE}{t:vq}(ho:PE X o to)(hi:PE X i ti)(hs:z5 X t)
    (ha:autoParam (∀v,assign (.Subscript o i pos) X.env v=(do
      let ov ← holding [v] (eval o X.env)
      let iv ← holding [v,ov] (eval i X.env)
      standAt pos
      holding [v,ov,iv] (setItem ov iv v)
      release [v,ov,iv] [])) Fc.cZ):PG X (.Subscript o i pos) (DY to ti t):=by
  intro pins s σ H v u Q I r h
  rw [ha]
  refine wpAny_bind (wpAny_holding (aR (ho pins s σ H _ I h) fun ov s1 ⟨x,H1,I1,r1,q1⟩=>?_))
  refine wpAny_bind (wpAny_holding (aR (hi pins s1 σ H1 _ I1 q1) fun iv s2 ⟨y,H2,I2,r2,q2⟩=>?_))
  refine wpAny_bind (wpAny_standAt (wpAny_bind (wpAny_holding (aR (hs pins s2 σ H2 x y v ov iv u _ I2 r1 r2 r q2) fun _ s3 ⟨H3,I3,q3⟩=>?_))))
  exact wpAny_release ⟨σ,H3,I3,q3⟩
noncomputable def uI (te:TE)(g:TG):TS:=fun D σ H=>te σ H fun x H1=>g x σ H1 D.nx
theorem gc {tg e:Expr}{te:TE}{g:TG}(he:PE X e te)(hg:PG X tg g)(hs:autoParam (swapsWithSole [tg] e pos.line X.env=pure false) Fc.ai)(hw:autoParam (swappedStores [tg] e X.env=pure none) Fc.ai)
    (h1:autoParam ((assignEach [tg] X.env).map (·.2)=[assign tg X.env]) Fc.ai):PS X (.Assign [tg] e pos) (uI te g):=by
  intro pins s σ H D I h
  refine wpAny_Assign_stores (aR (he pins s σ H _ I h) fun v s1 ⟨x,H1,I1,r1,q1⟩=>?_) hs hw
  rw [h1]
  exact aR (hg pins s1 σ H1 x v _ I1 r1 q1) fun _ s2 q=>q
theorem fv {i:Nat}{x:Str}{e:Expr}{te:TE}{pos':Pos}(hN:X.N.Nodup)(hi:X.N[i]?=some x)(hx:Loc X.env.scope x)(he:PE X e te)(hs:autoParam (swapsWith e (some (.Name x pos')) pos.line X.env=pure false) Fc.ai)(hf:X.fn x=true∨X.env.scope.names.lookup x=some .local:=by first | exact .inl rfl | exact .inr rfl | assumption):
    PS X (.Assign [.Name x pos'] e pos) (uI te (mJ i)):=by
  intro pins s σ H D I h
  refine wpAny_Assign_Name (aR (he pins s σ H _ I h) fun v s1 ⟨y,H1,I1,r1,q1⟩=>?_) hs
  exact iM I1 hN hi hx r1 (fun s2 I2=>⟨_,H1,I2,q1⟩) hf
noncomputable def DF (i:Nat)(te:TE)(ti:wo):TS:=fun D σ H=>∃x,σ[i]?=some (some x)∧te σ H fun y H1=>ti x y H1 fun z H2=>D.nx (σ.set i (some z)) H2
theorem tw {i:Nat}{x:Str}{e:Expr}{te:TE}{op:Operator}{ti:wo}{pos':Pos}(hN:X.N.Nodup)(hi:X.N[i]?=some x)(hx:Loc X.env.scope x)(he:PE X e te)(ho:Ah X op ti)(hf:X.fn x=true∨X.env.scope.names.lookup x=some .local:=by first | exact .inl rfl | exact .inr rfl | assumption):
    PS X (.AugAssign (.Name x pos') op e pos) (DF i te ti):=by
  intro pins s σ H D I h
  obtain ⟨v,e1,h⟩:=h
  obtain ⟨m,hn,hl⟩:=I.loc
  have vis:ck X.env.scope x:=by rcases hx with k | k;exact .inl k;exact .inr (.inl k)
  obtain ⟨u,r,l⟩:=hl i x v hi e1 vis
  refine wpAny_AugAssign_Name ?_
  have go:wpAny (model X.prog X.w) X.A (eval e X.env) (fun w s₂=>wpAny (model X.prog X.w) X.A (inplaceOp op u w) (fun r s₃=>wpAny (model X.prog X.w) X.A (storeName X.env x r) (fun _=>SP X pins D .next) X.xe s₃) X.xe s₂) X.xe s:=by
    refine aR (he pins s σ H _ I h) fun w s1 ⟨y,H1,I1,r1,q1⟩=>?_
    refine aR (ho pins s1 σ H1 v y u w _ I1 r r1 q1) fun z s2 ⟨zv,H2,I2,r2,q2⟩=>?_
    exact iM I2 hN hi hx r2 (fun s3 I3=>⟨_,H2,I3,q2⟩) hf
  rcases l with ⟨hk,hm⟩ | ⟨hk,c,hc,hcell⟩
  · exact wpAny_loadName_local I.ok.kind hk hn hm go
  · rcases hk with hk | hk
    · exact wpAny_loadName_cell I.ok.kind hk hc hcell go
    · rcases hx with k | k
      · have:X.env.scope.names.lookup x=some .free:=hk
        rw [k] at this;cases this
      · have:X.env.scope.names.lookup x=some .free:=hk
        rw [k] at this;cases this
noncomputable def C7 (f:Int→Int→Int):wo:=fun x y H Q=>∃i j,x= .int i∧y= .int j∧Q (.int (f i j)) H
theorem zT:Ah X .Add (C7 fun i j=>i + j):=by
  intro pins s σ H x y v u Q I r1 r2 h
  obtain ⟨i,j,e1,e2,q⟩:=h
  subst e1;subst e2
  obtain ⟨t,rfl⟩:=r1
  obtain ⟨t',rfl⟩:=r2
  exact iadd_int ⟨.int _,H,I.tok _,⟨_,rfl⟩,q⟩
theorem Ap:Ah X .Sub (C7 fun i j=>i - j):=by
  intro pins s σ H x y v u Q I r1 r2 h
  obtain ⟨i,j,e1,e2,q⟩:=h
  subst e1;subst e2
  obtain ⟨t,rfl⟩:=r1
  obtain ⟨t',rfl⟩:=r2
  exact isub_int ⟨.int _,H,I.tok _,⟨_,rfl⟩,q⟩
end
section
variable {X:Cx}{pos:Pos}
noncomputable def z9 (c:TT)(tb:TS):TS:=fun D σ H=>∃W:Nat→St→Hp→Prop,(∃m,W m σ H)∧∀m σ H,W m σ H→
  c σ H fun b H1=>if b=true then∃N:St→Hp→Prop,(∀σ' H',N σ' H'→∃m',m' < m∧W m' σ' H')∧tb {D with nx:=N,ct:=N,bk:=D.nx} σ H1 else D.nx σ H1
theorem uV {c:Expr}{body:List Stmt}{tc:TT}{tb:TS}(hp:PassesOwn (model X.prog X.w) X.A X.env X.xe)(hc:PT X c tc)(hb:f9 X body tb):PS X (.While c body [] pos) (z9 tc tb):=by
  intro pins s σ H D I h
  obtain ⟨W,⟨m0,w0⟩,turn⟩:=h
  refine wpAny_While (codeAny_whileLoop (fun n s'=>∃σ' H',Inv X pins σ' H' s'∧W n σ' H') ?_ m0 ⟨σ,H,I,w0⟩)
  rintro n s1 ⟨σ1,H1,I1,w1⟩
  refine wpAny_passesOwn hp (aR (hc pins s1 σ1 H1 _ I1 (turn n σ1 H1 w1)) fun b s2 ⟨H2,I2,q2⟩=>?_)
  cases b with
  | true=>
    obtain ⟨N,hN,q2⟩:=q2
    rw [if_pos rfl]
    refine wpAny_passesOwn hp (aR (hb pins s2 σ1 H2 _ I2 q2) fun f s3 q3=>?_)
    cases f with
    | next=>
      obtain ⟨σ3,H3,I3,n3⟩:=q3
      obtain ⟨m',hm,w3⟩:=hN σ3 H3 n3
      exact ⟨m',hm,σ3,H3,I3,w3⟩
    | cont=>
      obtain ⟨σ3,H3,I3,n3⟩:=q3
      obtain ⟨m',hm,w3⟩:=hN σ3 H3 n3
      exact ⟨m',hm,σ3,H3,I3,w3⟩
    | brk=>exact q3
    | ret v=>exact q3
  | false=>
    rw [if_neg Bool.false_ne_true]
    exact wpAny_execs_nil ⟨σ1,H2,I2,q2⟩
end
structure It where
  go:Nat→Hp→Prop
  yld:Nat→Hp→V→Hp→Prop
  stop:Nat→Hp→Prop
noncomputable def iP (X:Cx)(pins:List (Addr×Obj))(H:Hp)(b:Addr):Prop:=
  H b=none∧b≠X.env.locals∧b∉X.fs∧(b∈X.ex∨X.s₀.heap.objs.size≤b)∧(∀x c,X.env.cells.lookup x=some c→c≠b)∧∀p∈X.pn++pins,p.1≠b
theorem Inv.lO {X:Cx}{pins:List (Addr×Obj)}{σ:St}{H H':Hp}{s:Shared}{b:Addr}(I:Inv X pins σ H s)(hb:s.heap.objs.size≤b)(hn:H' b=none):iP X pins H' b:=by
  refine ⟨hn,Nat.ne_of_gt (Nat.lt_of_lt_of_le I.lt hb),I.DH hb,.inr (Nat.le_trans I.sz hb),fun x c e z=>?_,fun p hp z=>?_⟩
  · obtain ⟨v,q⟩:=I.cell x c e
    exact absurd (Nat.lt_of_lt_of_le q.lt (by rw [z];exact hb)) (Nat.lt_irrefl _)
  · exact absurd (Nat.lt_of_lt_of_le (Heap.lt_size (I.pin p hp).1) (by rw [z];exact hb)) (Nat.lt_irrefl _)
structure Turn (P:Program) (w:World) (K:PySem.W.Frag) (tg:Expr) (J:It) (fp:List Addr) (it:Addr) (tn:Nat→Heap→Prop):Prop where
  mem:it∈fp
  obj:∀i h,tn i h→∀b∈fp,∃o,h.get? b=some o∧∀v,o.data≠ .cell v
  keep:∀i h h',tn i h→(∀b∈fp,∀o,h.get? b=some o→h'.get? b=some o)→tn i h'
  item:∀(X:Cx),X.prog=P→X.w=w→X.K=K→X.calm=true→∀(i:Nat) (pins:List (Addr×Obj)) (s:Shared) (σ:St) (H:Hp) (E:Value→Shared→Prop),Inv X pins σ H s→(∀b∈fp,iP X pins H b)→tn i s.heap→J.go i H→
    wpAny (model P w) X.A (pyNext (.ref it)) (fun r s1=>∃u,r=some u∧
      wpAny (model P w) X.A (letOwnedTupleGo tg (.ref it) u) (fun _ s2=>∃x H',Inv X pins σ H' s2∧RelV x u∧J.yld i H x H'∧tn (i + 1) s2.heap∧∀b∈fp,H' b=none) E s1) E s
  done:∀(X:Cx),X.prog=P→X.w=w→X.K=K→X.calm=true→∀(i:Nat) (pins:List (Addr×Obj)) (s:Shared) (σ:St) (H:Hp) (E:Value→Shared→Prop),Inv X pins σ H s→(∀b∈fp,iP X pins H b)→tn i s.heap→J.stop i H→
    wpAny (model P w) X.A (pyNext (.ref it)) (fun r s1=>r=none∧Inv X pins σ H s1) E s
  self:∀(A:Around) (i:Nat) (s:Shared) (Q:Value→Shared→Prop) (E:Value→Shared→Prop),tn i s.heap→Q (.ref it) s→wpAny (model P w) A (pyIter (.ref it)) Q E s
noncomputable abbrev TI:=St→Hp→(It→Hp→Prop)→Prop
noncomputable def Cp (X:Cx)(pins:List (Addr×Obj))(σ:St)(tg:Expr)(R:It→Hp→Prop)(itv:Value)(s2:Shared):Prop:=
  ∃(it:Addr) (fp:List Addr) (tn:Nat→Heap→Prop) (J:It) (H':Hp),itv= .ref it∧Inv X pins σ H' s2∧Turn X.prog X.w X.K tg J fp it tn∧tn 0 s2.heap∧(∀b∈fp,iP X pins H' b)∧R J H'
noncomputable def PI (X:Cx)(tg iter:Expr)(wi:TI):Prop:=
  ∀ (pins:List (Addr×Obj)) (s:Shared) (σ:St) (H:Hp) (R:It→Hp→Prop),Inv X pins σ H s→wi σ H R→
    wpAny (model X.prog X.w) X.A (eval iter X.env) (fun v s1=>wpAny (model X.prog X.w) X.A (pyIter v) (Cp X pins σ tg R) X.xe s1) X.xe s
theorem rn {M:Model}{A:Around}{E:Value→Shared→Prop}{s:Shared}{tg:Expr}{it:Addr}{u:Value}{o:Obj}{n:String}{vs:Array Value}{Q:Unit→Shared→Prop}(ho:s.heap.get? it=some o)(hc:o.cls= .type n)(hd:o.data= .fields vs)
    (hn:["enumerate","zip","dict_itemiterator","dict_reverseitemiterator","odict_iterator","itertools.zip_longest","itertools.pairwise"].contains n=false) (hQ:Q () s):wpAny M A (letOwnedTupleGo tg (.ref it) u) Q E s:=by
  unfold letOwnedTupleGo
  cases tg <;>first
    | exact wpAny_pure hQ
    | (cases u<;>first
        | exact wpAny_pure hQ
        | (refine wpAny_bind (wpAny_load ho ?_)
           rw [hc,hd]
           show wpAny M A (if (["enumerate","zip","dict_itemiterator","dict_reverseitemiterator","odict_iterator","itertools.zip_longest","itertools.pairwise"].contains n&&vs[0]?==some (rawInt _))=true then _ else _) Q E s
           rw [if_neg (by intro h;rw [hn,Bool.false_and] at h;cases h)]
           exact wpAny_pure hQ))
noncomputable def CK (K:PySem.W.Frag)(a:Addr):It:=
  ⟨fun i H=>∃xs x,bq K H a xs∧xs[i]?=some x,fun i H x H'=>H'=H∧∀xs,bq K H a xs→xs[i]?=some x,fun i H=>∃xs,bq K H a xs∧xs.length≤i⟩
noncomputable def Cu (K:PySem.W.Frag)(a:Addr):It:=
  ⟨fun i H=>∃xs x,dE K H a xs∧xs[i]?=some x,fun i H x H'=>H'=H∧∀xs,dE K H a xs→xs[i]?=some x,fun i H=>∃xs,dE K H a xs∧xs.length≤i⟩
noncomputable def sM (lo:Int)(n:Nat):It:=⟨fun i _=>i < n,fun i H x H'=>H'=H∧x= .int (lo + i),fun i _=>n≤i⟩
theorem tQ {P:Program}{w:World}{K:PySem.W.Frag}{tg:Expr}(a it:Addr):Turn P w K tg (CK K a) [it] it (fun i h=>h.IsListIter it a i) where
  mem:=by simp
  obj:=fun i h st b hb=>by
    have e:b=it:=by simpa using hb
    subst e
    obtain ⟨o,e,c,d⟩:=st
    exact ⟨o,e,fun v z=>by rw [d] at z;cases z⟩
  keep:=fun i h h' st k=>st.at fun o e=>k it (by simp) o e
  item:=by
    intro X hP hw hK hc i pins s σ H E I hf st hg
    subst hP hw hK
    obtain ⟨xs,x,hq,hx⟩:=hg
    obtain ⟨its,rv,p,hz⟩:=I.list hq
    obtain ⟨u,hu,ru⟩:=rv.get hx
    obtain ⟨f0,f1,f2,f3,f4,f5⟩:=hf it (by simp)
    refine wpAny_pyNext_list_item st p.isList (x:=u) (by simpa using hu) fun h' st' sb=>?_
    have I1:Inv X pins σ H {s with heap:=h'}:=I.turned (t':=s.toks) (fun b o hb e=>(sb.2 b hb).trans e) f0 f1 f3 f4 f5
    obtain ⟨o,e,c,d⟩:=id st'
    exact ⟨u,rfl,rn (s:={s with heap:=h'}) e c d (by decide) ⟨x,H,I1,ru,⟨rfl,fun ys hy=>by rw [I.m7 hy hq];exact hx⟩,st',fun b hb=>(hf b hb).1⟩⟩
  done:=by
    intro X hP hw hK hc i pins s σ H E I hf st hg
    subst hP hw hK
    obtain ⟨xs,hq,hx⟩:=hg
    obtain ⟨its,rv,p,hz⟩:=I.list hq
    obtain ⟨f0,f1,f2,f3,f4,f5⟩:=hf it (by simp)
    have hl:=rv.length
    exact wpAny_pyNext_list_end (I.ok.hd hc) st p.isList (by simp;omega) fun h' eb=>⟨rfl,I.turned (t':=s.toks) (fun b o hb e=>eb b o hb e) f0 f1 f3 f4 f5⟩
  self:=fun _ _ _ _ _ st h=>wpAny_pyIter_listiter st h
theorem qJ {P:Program}{w:World}{K:PySem.W.Frag}{tg:Expr}(a it:Addr):Turn P w K tg (Cu K a) [it] it (fun i h=>h.IsTupleIter it a i) where
  mem:=by simp
  obj:=fun i h st b hb=>by
    have e:b=it:=by simpa using hb
    subst e
    obtain ⟨o,e,c,d⟩:=st
    exact ⟨o,e,fun v z=>by rw [d] at z;cases z⟩
  keep:=fun i h h' st k=>st.at fun o e=>k it (by simp) o e
  item:=by
    intro X hP hw hK hc i pins s σ H E I hf st hg
    subst hP hw hK
    obtain ⟨xs,x,hq,hx⟩:=hg
    obtain ⟨its,rv,p,hz⟩:=I.tuple hq
    obtain ⟨u,hu,ru⟩:=rv.get hx
    obtain ⟨f0,f1,f2,f3,f4,f5⟩:=hf it (by simp)
    refine wpAny_pyNext_tuple_item st (show s.heap.IsTuple a its.toArray from p) (x:=u) (by simpa using hu) fun h' st' sb=>?_
    have I1:Inv X pins σ H {s with heap:=h'}:=I.turned (t':=s.toks) (fun b o hb e=>(sb.2 b hb).trans e) f0 f1 f3 f4 f5
    obtain ⟨o,e,c,d⟩:=id st'
    exact ⟨u,rfl,rn (s:={s with heap:=h'}) e c d (by decide) ⟨x,H,I1,ru,⟨rfl,fun ys hy=>by rw [I.sW hy hq];exact hx⟩,st',fun b hb=>(hf b hb).1⟩⟩
  done:=by
    intro X hP hw hK hc i pins s σ H E I hf st hg
    subst hP hw hK
    obtain ⟨xs,hq,hx⟩:=hg
    obtain ⟨its,rv,p,hz⟩:=I.tuple hq
    obtain ⟨f0,f1,f2,f3,f4,f5⟩:=hf it (by simp)
    have hl:=rv.length
    exact wpAny_pyNext_tuple_end (I.ok.hd hc) st (show s.heap.IsTuple a its.toArray from p) (by simp;omega) fun h' eb=>⟨rfl,I.turned (t':=s.toks) (fun b o hb e=>eb b o hb e) f0 f1 f3 f4 f5⟩
  self:=fun _ _ _ _ _ st h=>wpAny_pyIter_tupleiter st h
theorem qO {P:Program}{w:World}{K:PySem.W.Frag}{tg:Expr}(it:Addr)(lo:Int)(n:Nat):Turn P w K tg (sM lo n) [it] it (fun i h=>IsRangeIter h it (lo + (i:Nat) * 1) ((n:Int) - (i:Nat)) 1) where
  mem:=by simp
  obj :=fun i h st b hb=>by
    have e:b=it:=by simpa using hb
    subst e
    exact ⟨_,st,fun v z=>by
      have z':Data.fields _=Data.cell v:=z
      cases z'⟩
  keep:=fun i h h' st k=>k it (by simp) _ st
  item:=by
    intro X hP hw hK hc i pins s σ H E I hf st hg
    subst hP hw hK
    obtain ⟨f0,f1,f2,f3,f4,f5⟩:=hf it (by simp)
    have W:=Walks.range (prog:=X.prog) (w:=X.w) (I.ok.hd hc) it lo 1 n
    refine W.item i s _ _ hg st fun v h' tk hv st' kk=>?_
    obtain ⟨t,rfl⟩:=hv
    have I1:Inv X pins σ H {s with heap:=h',toks:=tk}:=I.turned (fun b o hb e=>kk b o (by simpa using hb) e) f0 f1 f3 f4 f5
    refine ⟨_,rfl,rn (s:={s with heap:=h',toks:=tk}) (n:="range_iterator") st' rfl rfl (by decide) ⟨.int (lo + i),H,I1,⟨t,?_⟩,⟨rfl,rfl⟩,st',fun b hb=>(hf b hb).1⟩⟩
    rw [Int.mul_one]
  done:=by
    intro X hP hw hK hc i pins s σ H E I hf st hg
    subst hP hw hK
    obtain ⟨f0,f1,f2,f3,f4,f5⟩:=hf it (by simp)
    exact wpAny_pyNext_range_end (I.ok.hd hc) st (by have:n≤i:=hg;omega) fun h' eb=>⟨rfl,I.turned (t':=s.toks) (fun b o hb e=>eb b o hb e) f0 f1 f3 f4 f5⟩
  self:=fun _ _ _ _ _ st h=>wpAny_pyIter_rangeiter st h
section
variable {X:Cx}{tg:Expr}
noncomputable def A3 (K:PySem.W.Frag)(tl:TE):TI:=fun σ H R=>tl σ H fun x H1=>∃a,x= .ref a∧(∃xs,bq K H1 a xs)∧R (CK K a) H1
noncomputable def Dx (K:PySem.W.Frag)(tl:TE):TI:=fun σ H R=>tl σ H fun x H1=>∃a,x= .ref a∧(∃xs,dE K H1 a xs)∧R (Cu K a) H1
theorem xj {l:Expr}{tl:TE}(hl:PE X l tl):PI X tg l (A3 X.K tl):=by
  intro pins s σ H R I h
  refine aR (hl pins s σ H _ I h) fun v s1 ⟨x,H1,I1,r1,q1⟩=>?_
  obtain ⟨a,e,⟨xs,hq⟩,q⟩:=q1
  subst e
  cases r1
  obtain ⟨its,rv,p,hz⟩:=I1.list hq
  refine wpAny_pyIter_list p.isList ?_
  refine ⟨s1.heap.objs.size,[s1.heap.objs.size],_,_,H1,rfl,I1.kept (t':=s1.toks) fun b o e=>Heap.get?_push_of_some _ e,tQ a _,⟨_,Heap.get?_push_size _ rfl,rfl,rfl⟩,fun b hb=>?_,q⟩
  have e:b=s1.heap.objs.size:=by simpa using hb
  subst e
  exact I1.lO (Nat.le_refl _) (I1.hok.fresh (Nat.le_refl _))
theorem Ad {l:Expr}{tl:TE}(hl:PE X l tl):PI X tg l (Dx X.K tl):=by
  intro pins s σ H R I h
  refine aR (hl pins s σ H _ I h) fun v s1 ⟨x,H1,I1,r1,q1⟩=>?_
  obtain ⟨a,e,⟨xs,hq⟩,q⟩:=q1
  subst e
  cases r1
  obtain ⟨its,rv,p,hz⟩:=I1.tuple hq
  refine wpAny_pyIter_tuple (show s1.heap.IsTuple a its.toArray from p) ?_
  refine ⟨s1.heap.objs.size,[s1.heap.objs.size],_,_,H1,rfl,I1.kept (t':=s1.toks) fun b o e=>Heap.get?_push_of_some _ e,qJ a _,⟨_,Heap.get?_push_size _ rfl,rfl,rfl⟩,fun b hb=>?_,q⟩
  have e:b=s1.heap.objs.size:=by simpa using hb
  subst e
  exact I1.lO (Nat.le_refl _) (I1.hok.fresh (Nat.le_refl _))
theorem oO {pins:List (Addr×Obj)}{σ:St}{H:Hp}{s:Shared}{R:It→Hp→Prop}{E:Value→Shared→Prop}{lo hi:Int}{t u v:Tok}{tk:Nat}(I:Inv X pins σ H s)(h1: -(2 ^ 62)≤lo)(h2:lo < 2 ^ 62)(h3: -(2 ^ 62)≤hi)(h4:hi < 2 ^ 62)
    (q:R (sM lo (hi - lo).toNat) H):wpAny (model X.prog X.w) X.A (pyIter (.ref s.heap.objs.size)) (Cp X pins σ tg R) E {s with heap:=s.heap.push {cls:=.type "range",data:=.fields #[.int lo t,.int hi u,.int 1 v]},toks:=tk}:=by
  refine wpAny_pyIter_range (IsRange.new ..) (small_one h1 h2 h3 h4) ?_
  have I1:Inv X pins σ H {s with heap:=s.heap.push {cls:=.type "range",data:=.fields #[.int lo t,.int hi u,.int 1 v]},toks:=tk}:=I.kept fun b o e=>Heap.get?_push_of_some _ e
  refine ⟨(s.heap.push {cls:=.type "range",data:=.fields #[.int lo t,.int hi u,.int 1 v]}).objs.size,[(s.heap.push {cls:=.type "range",data:=.fields #[.int lo t,.int hi u,.int 1 v]}).objs.size],_,_,H,rfl,
    I1.kept (t':=tk) fun b o e=>Heap.get?_push_of_some _ e,qO _ lo (hi - lo).toNat,?_,fun b hb=>?_,q⟩
  · have e1:lo + ((0:Nat):Int) * 1=lo:=by simp
    have e2:(((hi - lo).toNat:Nat):Int) - ((0:Nat):Int)=Builtin.Range.rangeSize lo hi 1:=by rw [rangeSize_one];split<;>omega
    show IsRangeIter _ _ (lo + ((0:Nat):Int) * 1) ((((hi - lo).toNat:Nat):Int) - ((0:Nat):Int)) 1
    rw [e1,e2]
    exact Heap.get?_push_size _ rfl
  · have e:b=(s.heap.push {cls:=.type "range",data:=.fields #[.int lo t,.int hi u,.int 1 v]}).objs.size:=by simpa using hb
    subst e
    exact I1.lO (Nat.le_refl _) (I1.hok.fresh (Nat.le_refl _))
noncomputable def Cg (ta:TA):TI:=fun σ H R=>ta σ H fun vs H1=>∃j:Int,vs=[.int j]∧ -(2 ^ 62)≤j∧j < 2 ^ 62∧R (sM 0 j.toNat) H1
noncomputable def Bk (ta:TA):TI:=fun σ H R=>ta σ H fun vs H1=>∃i j:Int,vs=[.int i,.int j]∧(-(2 ^ 62)≤i∧i < 2 ^ 62∧ -(2 ^ 62)≤j∧j < 2 ^ 62)∧R (sM i (j - i).toNat) H1
theorem rH {a:Expr}{ta:TA}{p pos:Pos}(hg:Gl X "range")(hm:X.mg "range"=none)(ha:PA X [a] ta)(hs:autoParam (starEach [a] X.env=[(false,eval a X.env)]) Fc.ai):PI X tg (.Call (.Name "range" p) [a] [] pos) (Cg ta):=by
  intro pins s σ H R I h
  refine Call_ (iz I hg hm boot_range (PyProof.Rows.callWith_type1 (aR (ha pos pins s σ H _ I h) fun us s1 ⟨vs,H1,I1,r1,q1⟩=>?_) hs rfl))
  obtain ⟨j,e,q1,q2,q⟩:=q1
  subst e
  cases r1 with
  | cons r rr=>
    cases rr
    obtain ⟨t,rfl⟩:=r
    exact call_range_1 (oO I1 (by omega) (by omega) q1 q2 (by simpa using q))
theorem sk {a b:Expr}{ta:TA}{p pos:Pos}(hg:Gl X "range")(hm:X.mg "range"=none)(ha:PA X [a,b] ta)(hs:autoParam (starEach [a,b] X.env=[(false,eval a X.env),(false,eval b X.env)]) Fc.ai)(hs2:autoParam (starEach [b] X.env=[(false,eval b X.env)]) Fc.ai):
    PI X tg (.Call (.Name "range" p) [a,b] [] pos) (Bk ta):=by
  intro pins s σ H R I h
  refine Call_ (iz I hg hm boot_range (PyProof.Rows.callWith_type1 (aR (ha pos pins s σ H _ I h) fun us s1 ⟨vs,H1,I1,r1,q1⟩=>?_) (by rw [hs,hs2]) (by rw [hs2];rfl)))
  obtain ⟨i,j,e,⟨q1,q2,q3,q4⟩,q⟩:=q1
  subst e
  cases r1 with
  | cons r rr=>
    cases rr with
    | cons r' rr=>
      cases rr
      obtain ⟨t,rfl⟩:=r
      obtain ⟨t',rfl⟩:=r'
      exact call_range_2 (oO I1 q1 q2 q3 q4 q)
noncomputable def DV (wi:TI)(g:TG)(tb:TS):TS:=fun D σ H=>wi σ H fun J H1=>∃W:Nat→Nat→St→Hp→Prop,(∃m,W 0 m σ H1)∧∀i m σ H,W i m σ H→
  (J.stop i H∧D.nx σ H)∨(J.go i H∧∃N:St→Hp→Prop,(∀σ' H',N σ' H'→∃m',m' < m∧W (i + 1) m' σ' H')∧∀x H',J.yld i H x H'→g x σ H' fun σ2 H2=>tb {D with nx:=N,ct:=N,bk:=D.nx} σ2 H2)
noncomputable def iE (fp:List Addr)(h:Heap):List (Addr×Obj):=fp.filterMap fun b=>(h.get? b).map fun o=>(b,o)
theorem gj {fp:List Addr}{h:Heap}{b:Addr}{o:Obj}(hb:b∈fp)(e:h.get? b=some o):(b,o)∈iE fp h:=List.mem_filterMap.mpr ⟨b,hb,by rw [e];rfl⟩
theorem tU {fp:List Addr}{h:Heap}{p:Addr×Obj}(hp:p∈iE fp h):p.1∈fp∧h.get? p.1=some p.2:=by
  obtain ⟨b,hb,e⟩:=List.mem_filterMap.mp hp
  cases q:h.get? b with
  | none=>rw [q] at e;cases e
  | some o=>
    rw [q] at e
    have e':(b,o)=p:=Option.some.inj e
    subst e'
    exact ⟨hb,q⟩
theorem Inv.pinned {pins:List (Addr×Obj)}{σ:St}{H:Hp}{s:Shared}{fp:List Addr}(I:Inv X pins σ H s)(hf:∀b∈fp,iP X pins H b)(ho:∀b∈fp,∃o,s.heap.get? b=some o∧∀v,o.data≠ .cell v):Inv X (pins++iE fp s.heap) σ H s:=
  I.gv fun p hp=>(List.mem_append.mp hp).elim (fun z=>I.pin p (List.mem_append_right _ z)) fun z=>by
    obtain ⟨hb,e⟩:=tU z
    obtain ⟨f0,f1,f2,_⟩:=hf p.1 hb
    obtain ⟨o,e',d⟩:=ho p.1 hb
    rw [e] at e';cases e'
    exact ⟨e,f0,f1,f2,d⟩
theorem Inv.eo {pins pl:List (Addr×Obj)}{σ:St}{H:Hp}{s:Shared}(I:Inv X (pins++pl) σ H s):Inv X pins σ H s:=I.gv fun p hp=>I.pin p (List.mem_append_right _ (List.mem_append_left _ hp))
theorem Aj {iter:Expr}{body:List Stmt}{wi:TI}{g:TG}{tb:TS}{pos:Pos}(hp:PassesOwn (model X.prog X.w) X.A X.env X.xe)(hc:X.calm=true)(hi:PI X tg iter wi)(hg:PG X tg g)(hb:f9 X body tb)
    (hs:autoParam (∀x,foldedSetIterable iter X.env x=pure x) Fc.cZ):PS X (.For tg iter body [] pos) (DV wi g tb):=by
  intro pins s σ H D I h
  refine wpAny_For (aR (hi pins s σ H _ I h) fun v s1 h1=>aR h1 fun itv s2 h2=>?_) hs
  obtain ⟨it,fp,tn,J,H2,e,I2,T,st2,f2,W,⟨m0,w0⟩,turn⟩:=h2
  subst e
  -- what stays true of the iterator's objects through the loop
  have stat:∀{H':Hp},(∀b∈fp,H' b=none)→∀b∈fp,iP X pins H' b:=fun hn b hb=>⟨hn b hb,(f2 b hb).2⟩
  refine codeAny_forLoop_any (fun n s'=>∃i σ' H',Inv X pins σ' H' s'∧tn i s'.heap∧(∀b∈fp,H' b=none)∧W i n σ' H') ?_ m0 ⟨0,σ,H2,I2,st2,fun b hb=>(f2 b hb).1,w0⟩
  rintro n s3 ⟨i,σ3,H3,I3,st3,fr3,w3⟩
  rcases turn i n σ3 H3 w3 with ⟨stop,qn⟩ | ⟨go,N,hN,step⟩
  · refine wpAny_passesOwn hp (aR (T.done X rfl rfl rfl hc i pins s3 σ3 H3 X.xe I3 (stat fr3) st3 stop) fun r s4 ⟨hr,I4⟩=>?_)
    subst hr
    exact wpAny_execs_nil ⟨σ3,H3,I4,qn⟩
  · refine wpAny_passesOwn hp (aR (T.item X rfl rfl rfl hc i pins s3 σ3 H3 X.xe I3 (stat fr3) st3 go) fun r s4 ⟨u,hr,h4⟩=>?_)
    subst hr
    refine wpAny_passesOwn hp (aR h4 fun _ s5 ⟨x,H5,I5,r5,y5,st5,fr5⟩=>?_)
    have I5':=I5.pinned (stat fr5) (T.obj _ _ st5)
    refine wpAny_passesOwn hp (aR (hg _ s5 σ3 H5 x u _ I5' r5 (step x H5 y5)) fun _ s6 ⟨σ6,H6,I6,q6⟩=>?_)
    refine wpAny_passesOwn hp (aR (hb _ s6 σ6 H6 _ I6 q6) fun f s7 q7=>?_)
    have again:∀{σ7:St} {H7:Hp},Inv X (pins++iE fp s5.heap) σ7 H7 s7→N σ7 H7→∃m,m < n∧∃i σ' H',Inv X pins σ' H' s7∧tn i s7.heap∧(∀b∈fp,H' b=none)∧W i m σ' H':=fun {σ7 H7} I7 n7=>by
      obtain ⟨m',hm,w7⟩:=hN σ7 H7 n7
      refine ⟨m',hm,i + 1,σ7,H7,I7.eo,T.keep _ _ _ st5 fun b hb o e=>(I7.pin (b,o) (List.mem_append_right _ (List.mem_append_right _ (gj hb e)))).1,fun b hb=>?_,w7⟩
      obtain ⟨o,e,d⟩:=T.obj _ _ st5 b hb
      exact (I7.pin (b,o) (List.mem_append_right _ (List.mem_append_right _ (gj hb e)))).2.1
    cases f with
    | next=>obtain ⟨σ7,H7,I7,n7⟩:=q7;exact again I7 n7
    | cont=>obtain ⟨σ7,H7,I7,n7⟩:=q7;exact again I7 n7
    | brk=>obtain ⟨σ7,H7,I7,q7⟩:=q7;exact ⟨σ7,H7,I7.eo,q7⟩
    | ret v=>obtain ⟨x7,σ7,H7,I7,r7,q7⟩:=q7;exact ⟨x7,σ7,H7,I7.eo,r7,q7⟩
end
noncomputable abbrev R2:=V→V→Hp→VK→Prop
noncomputable def dm (X:Cx)(f:Value→Value→Sem Value)(r:R2):Prop:=
  ∀ (pins:List (Addr×Obj)) (s:Shared) (σ:St) (H:Hp) (x y:V) (v u:Value) (Q:VK),Inv X pins σ H s→RelV x v→RelV y u→r x y H Q→
    wpAny (model X.prog X.w) X.A (f v u) (EP X pins σ Q) X.xe s
noncomputable def yM (X:Cx)(f:Value→Sem Value)(r:V→Hp→VK→Prop):Prop:=
  ∀ (pins:List (Addr×Obj)) (s:Shared) (σ:St) (H:Hp) (x:V) (v:Value) (Q:VK),Inv X pins σ H s→RelV x v→r x H Q→
    wpAny (model X.prog X.w) X.A (f v) (EP X pins σ Q) X.xe s
noncomputable def dk (X:Cx)(f:Value)(r:List V→Hp→VK→Prop):Prop:=
  ∀ (pins:List (Addr×Obj)) (s:Shared) (σ:St) (H:Hp) (xs:List V) (us:List Value) (Q:VK),Inv X pins σ H s→Vals xs us→r xs H Q→
    wpAny (model X.prog X.w) X.A (call f us) (EP X pins σ Q) X.xe s
noncomputable def DD (X:Cx)(r:V→Hp→(Bool→Hp→Prop)→Prop):Prop:=
  ∀ (pins:List (Addr×Obj)) (s:Shared) (σ:St) (H:Hp) (x:V) (v:Value) (Q:Bool→Hp→Prop),Inv X pins σ H s→RelV x v→r x H Q→
    wpAny (model X.prog X.w) X.A (truthy v) (TP X pins σ Q) X.xe s
noncomputable def vX (r:R2)(ta tb:TE):TE:=fun σ H Q=>ta σ H fun x H1=>tb σ H1 fun y H2=>r x y H2 Q
noncomputable def tUn (r:V→Hp→VK→Prop)(ta:TE):TE:=fun σ H Q=>ta σ H fun x H1=>r x H1 Q
noncomputable def rI (C:Int→Int→Prop)(g:Int→Int→V):R2:=fun x y H Q=>∃i j,x= .int i∧y= .int j∧C i j∧Q (g i j) H
noncomputable def oP (g:Int→Int→V):R2:=fun x y H Q=>∃i j,x= .int i∧y= .int j∧Q (g i j) H
noncomputable def rU (g:Int→V):V→Hp→VK→Prop:=fun x H Q=>∃i,x= .int i∧Q (g i) H
section
variable {X:Cx}{a b c:Expr}{ta tb tc:TE}{pos:Pos}
theorem uo (ha:PE X a ta)(hb:PE X b tb){pins:List (Addr×Obj)}{s:Shared}{σ:St}{H:Hp}{R:V→V→Hp→Prop}(I:Inv X pins σ H s)
    (h:ta σ H fun x H1=>tb σ H1 fun y H2=>R x y H2) {Q:Value→Shared→Prop} {f:Value→Value→Sem Value}
    (hf:∀v u s2 x y H2,Inv X pins σ H2 s2→RelV x v→RelV y u→R x y H2→wpAny (model X.prog X.w) X.A (f v u) Q X.xe s2):
    wpAny (model X.prog X.w) X.A (eval a X.env) (fun v s₁=>wpAny (model X.prog X.w) X.A (eval b X.env) (fun u s₂=>wpAny (model X.prog X.w) X.A (f v u) Q X.xe s₂) X.xe s₁) X.xe s:=by
  refine aR (ha pins s σ H _ I h) fun v s1 ⟨x,H1,I1,r1,q1⟩=>?_
  refine aR (hb pins s1 σ H1 _ I1 q1) fun u s2 ⟨y,H2,I2,r2,q2⟩=>?_
  exact hf v u s2 x y H2 I2 r1 r2 q2
theorem mQ {op:Operator}{r:R2}(ho:dm X (binaryOp op) r)(ha:PE X a ta)(hb:PE X b tb):PE X (.BinOp a op b pos) (vX r ta tb):=by
  intro pins s σ H Q I h
  exact wpAny_BinOp (uo ha hb I h fun v u s2 x y H2 I2 rx ry q=>ho pins s2 σ H2 x y v u Q I2 rx ry q)
theorem AY {op:UnaryOp}{r:V→Hp→VK→Prop}(ho:yM X (unaryOp op) r)(ha:PE X a ta):PE X (.UnaryOp op a pos) (tUn r ta):=by
  intro pins s σ H Q I h
  exact UnaryOp_ (aR (ha pins s σ H _ I h) fun v s1 ⟨x,H1,I1,r1,q1⟩=>ho pins s1 σ H1 x v Q I1 r1 q1)
theorem ua {f:Value→Value→Sem Value}{C:Int→Int→Prop}{g:Int→Int→Int}
    (rule:∀(i j:Int) (t u:Tok) (s:Shared) (Q:Value→Shared→Prop) (E:Value→Shared→Prop),C i j→Q (.int (g i j) s.toks) {s with toks:=s.toks + 1}→wpAny (model X.prog X.w) X.A (f (.int i t) (.int j u)) Q E s):
    dm X f (rI C fun i j=>.int (g i j)):=by
  intro pins s σ H x y v u Q I rx ry h
  obtain ⟨i,j,rfl,rfl,hc,q⟩:=h
  obtain ⟨t,rfl⟩:=rx
  obtain ⟨t',rfl⟩:=ry
  exact rule i j t t' s _ _ hc ⟨.int (g i j),H,I.tok _,⟨_,rfl⟩,q⟩
theorem yO {f:Value→Value→Sem Value}{g:Int→Int→Int}
    (rule:∀(i j:Int) (t u:Tok) (s:Shared) (Q:Value→Shared→Prop) (E:Value→Shared→Prop),Q (.int (g i j) s.toks) {s with toks:=s.toks + 1}→wpAny (model X.prog X.w) X.A (f (.int i t) (.int j u)) Q E s):
    dm X f (oP fun i j=>.int (g i j)):=by
  intro pins s σ H x y v u Q I rx ry h
  obtain ⟨i,j,rfl,rfl,q⟩:=h
  obtain ⟨t,rfl⟩:=rx
  obtain ⟨t',rfl⟩:=ry
  exact rule i j t t' s _ _ ⟨.int (g i j),H,I.tok _,⟨_,rfl⟩,q⟩
theorem uW {f:Value→Value→Sem Value}{g:Int→Int→Bool}
    (rule:∀(i j:Int) (t u:Tok) (s:Shared) (Q:Value→Shared→Prop) (E:Value→Shared→Prop),Q (.bool (g i j)) s→wpAny (model X.prog X.w) X.A (f (.int i t) (.int j u)) Q E s):
    dm X f (oP fun i j=>.bl (g i j)):=by
  intro pins s σ H x y v u Q I rx ry h
  obtain ⟨i,j,rfl,rfl,q⟩:=h
  obtain ⟨t,rfl⟩:=rx
  obtain ⟨t',rfl⟩:=ry
  exact rule i j t t' s _ _ ⟨.bl (g i j),H,I,rfl,q⟩
noncomputable def zo (i j:Int):Prop:=0≤j∧j≤1000000∧i.natAbs < 2 ^ 64
noncomputable def rh (i j:Int):Prop:=(-(2 ^ 64) < i∧i < 2 ^ 64)∨(-(2 ^ 64) < j∧j < 2 ^ 64)
theorem rh.ok {i j:Int}(h:rh i j):IntMulOk i j:=by
  rcases h with ⟨h1,h2⟩ | ⟨h1,h2⟩
  · exact .of_left (intBits_le_64 h1 h2)
  · exact .of_right (intBits_le_64 h1 h2)
theorem yZ:dm X (binaryOp .Add) (oP fun i j=>.int (i + j)):=yO fun _ _ _ _ _ _ _ q=>add_int q
theorem yi:dm X (binaryOp .Sub) (oP fun i j=>.int (i - j)):=yO fun _ _ _ _ _ _ _ q=>sub_int q
theorem yQ:dm X (binaryOp .Mult) (rI rh fun i j=>.int (i * j)):=ua fun _ _ _ _ _ _ _ hc q=>mul_int q hc.ok
theorem Ay:dm X (binaryOp .Mod) (rI (fun _ j=>0 < j) fun i j=>.int (i % j)):=ua fun i j _ _ _ _ _ hc q=>by
  have h1:(0:Int) < j:=hc
  exact mod_int' (by omega) (by rw [Int.fmod_eq_emod_of_nonneg i (by omega)];exact q)
theorem yq:dm X (binaryOp .Pow) (rI zo fun i j=>.int (i ^ j.toNat)):=ua fun _ _ _ _ _ _ _ hc q=>pow_int_small hc.1 hc.2.1 hc.2.2 q
theorem unI {f:Value→Sem Value}{g:Int→Int}
    (rule:∀(i:Int) (t:Tok) (s:Shared) (Q:Value→Shared→Prop) (E:Value→Shared→Prop),Q (.int (g i) s.toks) {s with toks:=s.toks + 1}→wpAny (model X.prog X.w) X.A (f (.int i t)) Q E s):
    yM X f (rU fun i=>.int (g i)):=by
  intro pins s σ H x v Q I rx h
  obtain ⟨i,rfl,q⟩:=h
  obtain ⟨t,rfl⟩:=rx
  exact rule i t s _ _ ⟨.int (g i),H,I.tok _,⟨_,rfl⟩,q⟩
theorem zg:yM X (unaryOp .USub) (rU fun i=>.int (-i)):=unI fun _ _ _ _ _ q=>neg_int q
end
noncomputable def yn:V→V→Bool
  | .non,.non=>true | .non,.int _=>true | .int _,.non=>true | .non,.bl _=>true | .bl _,.non=>true | .non,.str _=>true | .str _,.non=>true
  | .int _,.int _=>true | .bl _,.bl _=>true | .str _,.str _=>true | .byt _,.byt _=>true
  | .int _,.str _=>true | .str _,.int _=>true | .bl _,.str _=>true | .str _,.bl _=>true
  | _,_=>false
noncomputable def rEq:R2:=fun x y H Q=>yn x y=true∧Q (.bl (decide (x=y))) H
noncomputable def rNe:R2:=fun x y H Q=>yn x y=true∧Q (.bl (!decide (x=y))) H
theorem jI {i j:Int}:decide (V.int i=V.int j)=(i==j):=by
  rw [Bool.eq_iff_iff]
  simp
theorem rO {i j:Bool}:decide (V.bl i=V.bl j)=(i==j):=by
  rw [Bool.eq_iff_iff]
  simp
theorem pJ {i j:Str}:decide (V.str i=V.str j)=(i==j):=by
  rw [Bool.eq_iff_iff]
  simp
theorem pW {i j:Array UInt8}:decide (V.byt i=V.byt j)=(i.toList==j.toList):=by
  rw [Bool.eq_iff_iff]
  cases i
  cases j
  simp
section
variable {X:Cx}{a b c:Expr}{ta tb tc:TE}{pos:Pos}
theorem bG {pins:List (Addr×Obj)}{σ:St}{H:Hp}{s:Shared}{Q:VK}{k k':Bool}(I:Inv X pins σ H s)(q:Q (.bl k) H)(e:k=k'):EP X pins σ Q (.bool k') s:=by
  subst e
  exact ⟨.bl k,H,I,rfl,q⟩
theorem Be:dm X (compareOp .Eq) rEq:=by
  intro pins s σ H x y v u Q I rx ry h
  obtain ⟨hs,q⟩:=h
  cases x with
  | non=>
    cases rx
    cases y with
    | non=>cases ry;exact PySem.EqNone.eq_none_none (bG I q (by simp))
    | bl j=>cases ry;exact PySem.EqNone.eq_none_bool (bG I q (by simp))
    | int j=>obtain ⟨t',rfl⟩:=ry;exact PySem.EqNone.eq_none_int (bG I q (by simp))
    | str j=>obtain ⟨t',rfl⟩:=ry;exact PySem.EqNone.eq_none_str (bG I q (by simp))
    | _=>exact absurd (show false=true from hs) Bool.false_ne_true
  | bl i=>
    cases rx
    cases y with
    | non=>cases ry;exact PySem.EqNone.eq_bool_none (bG I q (by simp))
    | bl j=>cases ry;exact eq_bool (bG I q rO)
    | str j=>obtain ⟨t',rfl⟩:=ry;exact PySem.EqMixed.eq_bool_str (bG I q (by simp))
    | _=>exact absurd (show false=true from hs) Bool.false_ne_true
  | int i=>
    obtain ⟨t,rfl⟩:=rx
    cases y with
    | non=>cases ry;exact PySem.EqNone.eq_int_none (bG I q (by simp))
    | int j=>obtain ⟨t',rfl⟩:=ry;exact eq_int (bG I q jI)
    | str j=>obtain ⟨t',rfl⟩:=ry;exact PySem.EqMixed.eq_int_str (bG I q (by simp))
    | _=>exact absurd (show false=true from hs) Bool.false_ne_true
  | str i=>
    obtain ⟨t,rfl⟩:=rx
    cases y with
    | non=>cases ry;exact PySem.EqNone.eq_str_none (bG I q (by simp))
    | bl j=>cases ry;exact PySem.EqMixed.eq_str_bool (bG I q (by simp))
    | int j=>obtain ⟨t',rfl⟩:=ry;exact PySem.EqMixed.eq_str_int (bG I q (by simp))
    | str j=>obtain ⟨t',rfl⟩:=ry;exact eq_str (bG I q pJ)
    | _=>exact absurd (show false=true from hs) Bool.false_ne_true
  | byt i=>
    obtain ⟨t,rfl⟩:=rx
    cases y with
    | byt j=>obtain ⟨t',rfl⟩:=ry;exact PySem.W.eq_bytes (bG I q pW)
    | _=>exact absurd (show false=true from hs) Bool.false_ne_true
  | _=>cases y<;>exact absurd (show false=true from hs) Bool.false_ne_true
theorem A8:dm X (compareOp .NotEq) rNe:=by
  intro pins s σ H x y v u Q I rx ry h
  obtain ⟨hs,q⟩:=h
  cases x with
  | non=>
    cases rx
    cases y with
    | non=>cases ry;exact PySem.EqNone.ne_none_none (bG I q (by simp))
    | bl j=>cases ry;exact PySem.EqNone.ne_none_bool (bG I q (by simp))
    | int j=>obtain ⟨t',rfl⟩:=ry;exact PySem.EqNone.ne_none_int (bG I q (by simp))
    | str j=>obtain ⟨t',rfl⟩:=ry;exact PySem.EqNone.ne_none_str (bG I q (by simp))
    | _=>exact absurd (show false=true from hs) Bool.false_ne_true
  | bl i=>
    cases rx
    cases y with
    | non=>cases ry;exact PySem.EqNone.ne_bool_none (bG I q (by simp))
    | bl j=>cases ry;exact ne_bool (bG I q (congrArg not rO))
    | str j=>obtain ⟨t',rfl⟩:=ry;exact PySem.EqMixed.ne_bool_str (bG I q (by simp))
    | _=>exact absurd (show false=true from hs) Bool.false_ne_true
  | int i=>
    obtain ⟨t,rfl⟩:=rx
    cases y with
    | non=>cases ry;exact PySem.EqNone.ne_int_none (bG I q (by simp))
    | int j=>obtain ⟨t',rfl⟩:=ry;exact ne_int (bG I q (congrArg not jI))
    | str j=>obtain ⟨t',rfl⟩:=ry;exact PySem.EqMixed.ne_int_str (bG I q (by simp))
    | _=>exact absurd (show false=true from hs) Bool.false_ne_true
  | str i=>
    obtain ⟨t,rfl⟩:=rx
    cases y with
    | non=>cases ry;exact PySem.EqNone.ne_str_none (bG I q (by simp))
    | bl j=>cases ry;exact PySem.EqMixed.ne_str_bool (bG I q (by simp))
    | int j=>obtain ⟨t',rfl⟩:=ry;exact PySem.EqMixed.ne_str_int (bG I q (by simp))
    | str j=>obtain ⟨t',rfl⟩:=ry;exact ne_str (bG I q (congrArg not pJ))
    | _=>exact absurd (show false=true from hs) Bool.false_ne_true
  | byt i=>
    obtain ⟨t,rfl⟩:=rx
    cases y with
    | byt j=>obtain ⟨t',rfl⟩:=ry;exact PySem.W.ne_bytes (bG I q (congrArg not pW))
    | _=>exact absurd (show false=true from hs) Bool.false_ne_true
  | _=>cases y<;>exact absurd (show false=true from hs) Bool.false_ne_true
theorem Bi:dm X (compareOp .Lt) (oP fun i j=>.bl (decide (i < j))):=uW fun _ _ _ _ _ _ _ q=>lt_int q
theorem BH:dm X (compareOp .LtE) (oP fun i j=>.bl (decide (i≤j))):=uW fun _ _ _ _ _ _ _ q=>le_int q
theorem Bx:dm X (compareOp .GtE) (oP fun i j=>.bl (decide (j≤i))):=uW fun _ _ _ _ _ _ _ q=>ge_int q
theorem rF:dm X (compareOp .Is) (fun x y H Q=>y= .non∧Q (.bl (decide (x= .non))) H):=by
  intro pins s σ H x y v u Q I rx ry h
  obtain ⟨rfl,q⟩:=h
  cases ry
  refine is_none_gen (bG I q ?_)
  cases x<;>first
    | (cases rx;rfl)
    | (obtain ⟨t,rfl⟩:=rx;rfl)
theorem kW (b:Expr){op:CmpOp}(h:autoParam (op≠ .In) Fc.aw)(h2:autoParam (op≠ .NotIn) Fc.aw):behindInMarks op b=false:=by
  have e1:(op==CmpOp.In)=false:=by cases op<;>first | rfl | exact absurd rfl h
  have e2:(op==CmpOp.NotIn)=false:=by cases op<;>first | rfl | exact absurd rfl h2
  cases b<;>simp [behindInMarks,e1,e2]
theorem w8 {op:CmpOp}{r:R2}(ho:dm X (compareOp op) r)(ha:PE X a ta)(hb:PE X b tb)(hm:behindInMarks op b=false):PE X (.Compare a [op] [b] pos) (vX r ta tb):=by
  intro pins s σ H Q I h
  exact wpAny_Compare1 (uo ha hb I h fun v u s2 x y H2 I2 rx ry q=>ho pins s2 σ H2 x y v u Q I2 rx ry q) hm
noncomputable def vI (t:TE):TT:=fun σ H Q=>t σ H fun x H'=>∃k,x= .bl k∧Q k H'
theorem xy {op:CmpOp}{r:R2}(ho:dm X (compareOp op) r)(ha:PE X a ta)(hb:PE X b tb)(hm:behindInMarks op b=false):PT X (.Compare a [op] [b] pos) (vI (vX r ta tb)):=by
  intro pins s σ H Q I h
  refine wpAny_isTrue_Compare1 (aR (ha pins s σ H _ I h) fun v s1 ⟨x,H1,I1,r1,q1⟩=>aR (hb pins s1 σ H1 _ I1 q1) fun u s2 ⟨y,H2,I2,r2,q2⟩=>
    aR (ho pins s2 σ H2 x y v u _ I2 r1 r2 q2) fun c s3 ⟨z,H3,I3,r3,k,e,q3⟩=>?_) hm
  subst e
  cases r3
  exact wpAny_truthy_bool ⟨H3,I3,q3⟩
noncomputable def rq (r r':R2)(ta tb tc:TE):TE:=fun σ H Q=>ta σ H fun x H1=>tb σ H1 fun y H2=>r x y H2 fun z H3=>∃k,z= .bl k∧
  (if k=true then tc σ H3 fun w' H4=>r' y w' H4 Q else Q (.bl false) H3)
theorem uP {op op':CmpOp}{r r':R2}(ho:dm X (compareOp op) r)(ho':dm X (compareOp op') r')(ha:PE X a ta)(hb:PE X b tb)(hc:PE X c tc)
    (hm:lastMarks [op,op'] [b,c]=false:=by with_unfolding_all rfl):PE X (.Compare a [op,op'] [b,c] pos) (rq r r' ta tb tc):=by
  intro pins s σ H Q I h
  refine Compare_chain (aR (ha pins s σ H _ I h) fun v s1 ⟨x,H1,I1,r1,q1⟩=>chain_link (aR (hb pins s1 σ H1 _ I1 q1) fun u s2 ⟨y,H2,I2,r2,q2⟩=>
    aR (ho pins s2 σ H2 x y v u _ I2 r1 r2 q2) fun d s3 ⟨z,H3,I3,r3,k,e,q3⟩=>?_)) hm
  subst e
  cases r3
  refine wpAny_truthy_bool ?_
  cases k with
  | false=>exact ite_ff ⟨.bl false,H3,I3,rfl,q3⟩
  | true=>exact ite_tt (chain_last (aR (hc pins s3 σ H3 _ I3 q3) fun w' s4 ⟨z',H4,I4,r4,q4⟩=>ho' pins s4 σ H4 y z' u w' Q I4 r2 r4 q4))
theorem uO {op op':CmpOp}{r r':R2}(ho:dm X (compareOp op) r)(ho':dm X (compareOp op') r')(ha:PE X a ta)(hb:PE X b tb)(hc:PE X c tc)
    (hm:lastMarks [op,op'] [b,c]=false:=by with_unfolding_all rfl):PT X (.Compare a [op,op'] [b,c] pos) (vI (rq r r' ta tb tc)):=by
  intro pins s σ H Q I h
  refine isTrue_chain (aR (ha pins s σ H _ I h) fun v s1 ⟨x,H1,I1,r1,q1⟩=>test_link (aR (hb pins s1 σ H1 _ I1 q1) fun u s2 ⟨y,H2,I2,r2,q2⟩=>
    aR (ho pins s2 σ H2 x y v u _ I2 r1 r2 q2) fun d s3 ⟨z,H3,I3,r3,k,e,q3⟩=>?_)) hm
  subst e
  cases r3
  refine wpAny_truthy_bool ?_
  cases k with
  | false=>
    obtain ⟨k',e',q'⟩:=q3
    cases e'
    exact ite_ff ⟨H3,I3,q'⟩
  | true=>
    refine ite_tt (test_last (aR (hc pins s3 σ H3 _ I3 q3) fun w' s4 ⟨z',H4,I4,r4,q4⟩=>aR (ho' pins s4 σ H4 y z' u w' _ I4 r2 r4 q4) fun d' s5 ⟨z2,H5,I5,r5,k2,e2,q5⟩=>?_))
    subst e2
    cases r5
    exact wpAny_truthy_bool ⟨H5,I5,q5⟩
noncomputable def y4 (K:PySem.W.Frag)(x:V)(H:Hp)(k:Bool):Prop:=
  match x with
  | .non=>k=false
  | .bl b=>k=b
  | .int i=>k=(i != 0)
  | .str y=>y.length≤sizeLine∧k=((y.length:Int) != 0)
  | .byt y=>y.size≤sizeLine∧k=((y.size:Int) != 0)
  | .ref p=>(∃xs,bq K H p xs∧k= !xs.isEmpty)∨(∃xs,dE K H p xs∧k= !xs.isEmpty)∨∃kvs,H p=some (.dK kvs)∧k= !kvs.isEmpty
  | _=>False
theorem qm {κ:Type}{kvs:List (κ×V)}{vs:List (κ×Value)}(r:KV kvs vs):(!vs.isEmpty)= !kvs.isEmpty:=by
  cases r<;>rfl
theorem lg {xs:List V}{its:List Value}(r:Vals xs its):(!its.toArray.isEmpty)= !xs.isEmpty:=by
  cases r<;>simp
theorem jf:(sizeLine:Nat) < 2 ^ 63:=by rw [sizeLine_eq];decide
theorem Ai:DD X (fun x H Q=>∃k,y4 X.K x H k∧Q k H):=by
  intro pins s σ H x v Q I rx h
  obtain ⟨k,e,q⟩:=h
  have hl:=jf
  have hs:sizeLine=16777216:=sizeLine_eq
  cases x with
  | non=>
    cases rx
    have e':k=false:=e
    subst e'
    exact truthy_none ⟨H,I,q⟩
  | bl b=>
    cases rx
    have e':k=b:=e
    subst e'
    exact wpAny_truthy_bool ⟨H,I,q⟩
  | int i=>
    obtain ⟨t,rfl⟩:=rx
    have e':k=(i != 0):=e
    subst e'
    exact PySem.P.truthy_int ⟨H,I,q⟩
  | str y=>
    obtain ⟨t,rfl⟩:=rx
    obtain ⟨hy,e'⟩:y.length≤sizeLine∧k=((y.length:Int) != 0):=e
    subst e'
    exact PySem.P.truthy_str (by omega) ⟨H,I.tok _,q⟩
  | byt y=>
    obtain ⟨t,rfl⟩:=rx
    obtain ⟨hy,e'⟩:y.size≤sizeLine∧k=((y.size:Int) != 0):=e
    subst e'
    exact PySem.W.truthy_bytes (by omega) ⟨H,I.tok _,q⟩
  | ref p=>
    cases rx
    have e':(∃xs,bq X.K H p xs∧k= !xs.isEmpty)∨(∃xs,dE X.K H p xs∧k= !xs.isEmpty)∨∃kvs,H p=some (.dK kvs)∧k= !kvs.isEmpty:=e
    rcases e' with ⟨xs,hx,e'⟩ | ⟨xs,hx,e'⟩ | ⟨kvs,hx,e'⟩
    · subst e'
      obtain ⟨its,r,pl,hz⟩:=I.list hx
      have hlen:=r.length
      exact wpAny_truthy_list pl.isList (by simp only [List.size_toArray];omega) ⟨H,I.tok _,by rw [lg r];exact q⟩
    · subst e'
      obtain ⟨its,r,pl,hz⟩:=I.tuple hx
      have hlen:=r.length
      exact truthy_tuple pl (by simp only [List.size_toArray];omega) ⟨H,I.tok _,by rw [lg r];exact q⟩
    · subst e'
      obtain ⟨hz,hS,vs,r,m⟩:kvs.length≤sizeLine∧(p==sysModules)=false∧∃vs,KV kvs vs∧s.heap.DictOf (cE X.prog X.w) p vs:=I.hok p _ hx
      have hlen:kvs.length=vs.length:=Paired.length r
      exact wpAny_truthy_dict hS m (by omega) ⟨H,I.tok _,by rw [qm r];exact q⟩
  | _=>exact (show False from e).elim
theorem oJ (ha:PE X a ta)(he:∀whole,isTrue a X.env whole=(do let v ← whole;standAt a.pos;holding [v] (truthy v))):
    PT X a (fun σ H Q=>ta σ H fun x H'=>∃k,y4 X.K x H' k∧Q k H'):=by
  intro pins s σ H Q I h
  exact isTrue_plain (aR (ha pins s σ H _ I h) fun v s1 ⟨x,H1,I1,r1,q1⟩=>Ai pins s1 σ H1 x v Q I1 r1 q1) (he _)
theorem vals1 {x:V}{us:List Value}(r:Vals [x] us):∃u,us=[u]∧RelV x u:=by
  cases r with
  | cons r1 r2=>cases r2;exact ⟨_,rfl,r1⟩
theorem vals2 {x y:V}{us:List Value}(r:Vals [x,y] us):∃u w',us=[u,w']∧RelV x u∧RelV y w':=by
  cases r with
  | cons r1 r2=>
    cases r2 with
    | cons r3 r4=>cases r4;exact ⟨_,_,rfl,r1,r3⟩
theorem sx (hc:X.calm=true):dk X (.builtin "min") (fun xs H Q=>∃i j,xs=[.int i,.int j]∧Q (.int (if j < i then j else i)) H):=by
  intro pins s σ H xs us Q I r h
  obtain ⟨i,j,rfl,q⟩:=h
  obtain ⟨u,w',rfl,⟨t,rfl⟩,⟨t',rfl⟩⟩:=vals2 r
  refine min_two_ints (I.ok.hd hc) fun h' tk k=>⟨_,H,I.kept k,?_,q⟩
  by_cases hj:j < i
  · rw [if_pos hj,if_pos hj];exact ⟨_,rfl⟩
  · rw [if_neg hj,if_neg hj];exact ⟨_,rfl⟩
end
structure uT (h:Heap) (x dx C:Addr) (mA:Str→Option Value):Prop where
  obj:h.get? x=some (PySem.W.instObj C dx)
  ns:h.Ns1 dx mA
  ne:dx≠x
theorem sv {h:Heap}{dx:Addr}{mA:Str→Option Value}(n:h.Ns1 dx mA):∃od,h.get? dx=some od∧∀name,PySem.W.lookIn name od=some (mA name):=by
  obtain ⟨o,es,ep,ho,hd,hk,_,hm⟩:=n
  refine ⟨o,ho,fun name=>?_⟩
  have e:=hm name
  unfold nsFind findBy at e
  rw [← Array.find?_toList] at e
  unfold PySem.W.lookIn
  rw [hd]
  dsimp only
  split
  · rename_i y q
    rw [q] at e
    exact congrArg some e
  · rename_i q
    rw [q] at e
    have a:es.toList.any (·.refKey)=false:=by
      rw [List.any_eq_false]
      intro y hy
      obtain ⟨z,t,hkey⟩:=hk y (Array.mem_toList_iff.mp hy)
      simp [DictEntry.refKey,hkey]
    have a':¬es.toList.any (·.refKey)=true:=by rw [a];exact Bool.false_ne_true
    rw [if_neg a']
    exact congrArg some e
theorem uT.look {h:Heap}{x dx C:Addr}{mA:Str→Option Value}(I:uT h x dx C mA):∃od,PySem.W.InstAt h x (PySem.W.instObj C dx) C (some od)∧∀name,PySem.W.lookIn name od=some (mA name):=
  let ⟨od,ho,hl⟩:=sv I.ns
  ⟨od,⟨I.obj,rfl,rfl,ho⟩,hl⟩
section
variable {prog:Program}{w:World}{A:Around}{E:Value→Shared→Prop}{s:Shared}{K:PySem.W.Frag}{x dx C f:Addr}{mA:Str→Option Value}{name:Str}{v:Value}
end
theorem gO.some_of {v:V}{o:Option Value}(r:gO (some v) o):∃u,o=some u∧RelV v u:=by
  cases o with
  | none=>exact (show False from r).elim
  | some u=>exact ⟨u,rfl,r⟩
section
variable {P:Program}{w:World}{H H':Hp}{h h':Heap}{a C dx:Addr}{fs fs':List (Str×V)}
theorem xq (hok:cg P w H h)(e:H a=some (.ins C dx fs)):∃mA,uT h a dx C mA∧(∀f,gO (fs.lookup f) (mA f))∧PySem.Within mA (fs.map (·.1))∧fs.length≤1000∧H dx=some (.own a):=by
  obtain ⟨d,z,ne,ob,mA,n,r,q⟩:=(show bK P w H h a (.ins C dx fs) from hok a _ e)
  exact ⟨mA,⟨ob,n,ne⟩,r,q,z,d⟩
end
structure yR (K:PySem.W.Frag) (C:Addr):Prop where
  pg:PySem.W.plainGet K C Str.empty=true
  hd:PySem.W.hasDictIn K C=true
  po:PySem.W.plainOver K C=true
  sa:PySem.W.findIn K (.ref C) "__setattr__"=some (some (.builtin "object.__setattr__"))
theorem yR.get {K:PySem.W.Frag}{C:Addr}(c:yR K C)(f:Str):PySem.W.plainGet K C f=true:=c.pg
section
variable {X:Cx}{pins:List (Addr×Obj)}{σ:St}{H:Hp}{s:Shared}{a C dx:Addr}{fs:List (Str×V)}{f:Str}{v:V}{A:Around}{E:Value→Shared→Prop}
end
section
variable {X:Cx}{o e value:Expr}{f:Str}{pos pos' tpos:Pos}{ta tv:TE}
end
section
variable {X:Cx}{pins:List (Addr×Obj)}{σ:St}{H:Hp}{s:Shared}{A:Around}{E:Value→Shared→Prop}{Q:Value→Shared→Prop}{c:Value}{b:Bool}
inductive dX (K:PySem.W.Frag) (H:Hp):V→Value→Prop where
  | non:dX K H .non (.type "NoneType")
  | bl (x:Bool):dX K H (.bl x) (.type "bool")
  | int (i:Int):dX K H (.int i) (.type "int")
  | str (x:Str):dX K H (.str x) (.type "str")
  | flt (x:UInt64):dX K H (.flt x) (.type "float")
  | lst {a:Addr} {xs:List V} (e:H a=some (.lst xs)):dX K H (.ref a) (.type "list")
  | frz {a:Addr} {o:Obj} {xs:List V} (e:H a=some (.frz o (.lst xs))):dX K H (.ref a) (.type "list")
  | tup {a:Addr} {xs:List V} (e:H a=some (.tup xs)):dX K H (.ref a) (.type "tuple")
  | dK {a:Addr} {kvs:List (Key×V)} (e:H a=some (.dK kvs)):dX K H (.ref a) (.type "dict")
  | dT {a:Addr} {kvs:List (List Key×V)} (e:H a=some (.dT kvs)):dX K H (.ref a) (.type "dict")
  | ins {a C dx:Addr} {fs:List (Str×V)} (e:H a=some (.ins C dx fs)) (cl:yR K C) (ha:PySem.W.findIn K (.ref C) "__class__"=some (some (.builtin "object.__class__")))
      (hn:PySem.W.specialIn K (.builtin "object.__class__") "__get__"=some (some (.builtin "getset_descriptor.__get__"))) (htk:PySem.W.takesIn K (.builtin "object.__class__")=some true)
      (hm:PySem.W.mroIn K C (.type "object")=some true):dX K H (.ref a) (.ref C)
theorem sq {x:V}{u t:Value}(I:Inv X pins σ H s)(rx:RelV x u)(ty:dX X.K H x t)(e:PySem.W.kitOne X.K t c=some b)(h:∀tk,Q (.bool b) {s with toks:=tk}):
    wpAny (model X.prog X.w) A (call (.builtin "isinstance") [u,c]) Q E s:=by
  cases ty with
  | non=>cases (show u=Value.none from rx);exact PySem.W.kia_one PySem.W.kitx_none I.dj True.intro e (fun z=>nomatch z) h
  | bl y=>cases (show u=Value.bool y from rx);exact PySem.W.kia_one PySem.W.kitx_bool I.dj True.intro e (fun z=>nomatch z) h
  | int i=>obtain ⟨t,q⟩:=(show∃t,u=Value.int i t from rx);cases q;exact PySem.W.kia_one PySem.W.kitx_int I.dj True.intro e (fun z=>nomatch z) h
  | str y=>obtain ⟨t,q⟩:=(show∃t,u=Value.str y t from rx);cases q;exact PySem.W.kia_one PySem.W.kitx_str I.dj True.intro e (fun z=>nomatch z) h
  | flt y=>obtain ⟨t,q⟩:=(show∃t,u=Value.float y t from rx);cases q;exact PySem.W.kia_one PySem.W.kitx_float I.dj True.intro e (fun z=>nomatch z) h
  | @lst a xs ea=>
    cases (show u=Value.ref a from rx)
    obtain ⟨_,_,n,_,h1⟩:=(show bK X.prog X.w H s.heap a (.lst xs) from I.hok a _ ea)
    exact PySem.W.kia_one PySem.W.kitx_list I.dj ⟨_,h1,rfl⟩ e (fun z=>nomatch z) h
  | @frz a ob xs ea=>
    cases (show u=Value.ref a from rx)
    obtain ⟨_,_,_,n,_,h1⟩:=(show bK X.prog X.w H s.heap a (.frz ob (.lst xs)) from I.hok a _ ea)
    exact PySem.W.kia_one PySem.W.kitx_list I.dj ⟨_,h1,rfl⟩ e (fun z=>nomatch z) h
  | @tup a xs ea=>
    cases (show u=Value.ref a from rx)
    obtain ⟨_,_,_,p⟩:=(show bK X.prog X.w H s.heap a (.tup xs) from I.hok a _ ea)
    obtain ⟨o,h1,h2,_⟩:=p
    exact PySem.W.kia_one PySem.W.kitx_tuple I.dj ⟨o,h1,h2⟩ e (fun z=>nomatch z) h
  | @dK a kvs ea=>
    cases (show u=Value.ref a from rx)
    obtain ⟨_,_,vs,_,p⟩:=(show bK X.prog X.w H s.heap a (.dK kvs) from I.hok a _ ea)
    obtain ⟨o,es,ep,h1,h2,_⟩:=p
    exact PySem.W.kia_one PySem.W.kitx_dict I.dj ⟨o,h1,h2.1⟩ e (fun z=>nomatch z) h
  | @dT a kvs ea=>
    cases (show u=Value.ref a from rx)
    obtain ⟨_,_,xs,_,o,es,ep,h1,h2,_⟩:=(show bK X.prog X.w H s.heap a (.dT kvs) from I.hok a _ ea)
    exact PySem.W.kia_one PySem.W.kitx_dict I.dj ⟨o,h1,h2.1⟩ e (fun z=>nomatch z) h
  | @ins a C dx fs ea cl ha hn htk hm=>
    cases (show u=Value.ref a from rx)
    obtain ⟨mA,O,_⟩:=xq I.hok ea
    obtain ⟨od,J,_⟩:=O.look
    exact PySem.W.kia_one (PySem.W.kitx_own (cl.get _) cl.hd ha hn htk hm) I.dj J e (fun z=>nomatch z) h
end
structure bt (k:Nat) (A:Around):Prop where
  hd:A.handled=none
  dp:A.depth + 3 * k + 5 < recursionLimit
  un:A.units + 16 * k + 200 < cLine
theorem bt.mono {j k:Nat}{A:Around}(r:bt k A)(h:j≤k):bt j A:=⟨r.hd,by have:=r.dp;omega,by have:=r.un;omega⟩
theorem bt.deeper {k:Nat}{A:Around}(r:bt (k + 1) A)(env:Env):bt k (A.deeper env):=
  ⟨r.hd,by have:=r.dp;show A.depth + 1 + 3 * k + 5 < _;omega,by have:=r.un;show A.units + 3 + 16 * k + 200 < _;omega⟩
theorem bt.depth {k:Nat}{A:Around}(r:bt k A):A.depth < recursionLimit:=by have:=r.dp;omega
theorem bt.units {k:Nat}{A:Around}(r:bt k A):A.units + 64 < cLine:=by have:=r.un;omega
noncomputable def Ds:TA:=fun _ H Q=>Q [] H
noncomputable def Bl (ta:TE)(tr:TA):TA:=fun σ H Q=>ta σ H fun x H1=>tr σ H1 fun xs H2=>Q (x::xs) H2
section
variable {X:Cx}{e:Expr}{es:List Expr}{te:TE}{t:TA}{pos:Pos}
theorem bL:PA X [] Ds:=fun _ _ _ _ H Q I h=>Calls.spliced_nil ⟨[],H,I,.nil,h⟩
theorem aT (ha:PE X e te)(hr:PA X es t)(hs:autoParam (starEach (e::es) X.env=(false,eval e X.env)::starEach es X.env) Fc.ai):PA X (e::es) (Bl te t):=by
  intro pos pins s σ H Q I h
  rw [hs]
  show wpAny _ _ (spliced ((false,eval e X.env)::backTo pos (starEach es X.env))) _ _ s
  refine Calls.spliced_cons (aR (ha pins s σ H _ I h) fun u s1 ⟨x,H1,I1,r1,q1⟩=>?_)
  exact aR (hr pos pins s1 σ H1 _ I1 q1) fun us s2 ⟨xs,H2,I2,r2,q2⟩=>⟨x::xs,H2,I2,.cons r1 r2,q2⟩
noncomputable def Dw (t:TA):TE:=fun σ H Q=>t σ H fun xs H1=>xs.length≤sizeLine∧∀p,H1 p=none→Q (.ref p) (upd H1 p (.tup xs))
noncomputable def Dt (t:TA):TE:=fun σ H Q=>t σ H fun xs H1=>xs.length≤sizeLine∧∀p,H1 p=none→Q (.ref p) (upd H1 p (.lst xs))
theorem oB {x1}(h:PA X es t):PE X (.Tuple es x1 pos) (Dw t):=by
  intro pins s σ H Q I hq
  refine wpAny_Tuple_spliced (aR (h pos pins s σ H _ I hq) fun us s1 ⟨xs,H1,I1,r,z,q⟩=>⟨by rw [← r.length];exact z,?_⟩)
  have hf:H1 s1.heap.objs.size=none:=I1.hok.fresh (Nat.le_refl _)
  refine ⟨.ref s1.heap.objs.size,upd H1 s1.heap.objs.size (.tup xs),I1.laid (t':=s1.toks) (fun b u e=>Heap.get?_push_of_some _ e) (Nat.le_refl _) ?_,rfl,q _ hf⟩
  exact ⟨z,us,r,⟨_,Heap.get?_push_size _ rfl,rfl,_,rfl⟩⟩
theorem zJ (h:PA X es t):PE X (.List es pos) (Dt t):=by
  intro pins s σ H Q I hq
  refine wpAny_List_spliced (aR (h pos pins s σ H _ I hq) fun us s1 ⟨xs,H1,I1,r,z,q⟩=>⟨by rw [← r.length];exact z,?_⟩)
  have hf:H1 s1.heap.objs.size=none:=I1.hok.fresh (Nat.le_refl _)
  refine ⟨.ref s1.heap.objs.size,upd H1 s1.heap.objs.size (.lst xs),I1.laid (t':=s1.toks) (fun b u e=>Heap.get?_push_of_some _ e) (Nat.le_refl _) ?_,rfl,q _ hf⟩
  exact ⟨z,us,0,r,Heap.get?_push_size _ rfl⟩
end
noncomputable abbrev Sp:=List V→Hp→VK→XK→Prop
noncomputable abbrev iH:=List Env→Hp→Shared→XK→Value→Shared→Prop
structure og (P:Program) (w:World) (K:PySem.W.Frag) (mg:Str→Option Value) (base:Heap) (A:Around) (outer:List Env) (s:Shared) (H:Hp):Prop where
  frames:A.frames=some outer
  mod:Mod K mg base
  bs:∀b o,base.get? b=some o→s.heap.get? b=some o∧H b=none
  bsz:base.objs.size≤s.heap.objs.size
  funs:s.heap.FunFrames base outer
  frf:∀b∈bV outer,H b=none
  hok:cg P w H s.heap
  bare:AllBare s.gens
noncomputable def CE (outer:List Env)(P:Program)(w:World)(H:Hp)(s:Shared)(Q:VK)(u:Value)(s':Shared):Prop:=
  ∃v H',s'.os=s.os∧AllBare s'.gens∧Un (bV outer) [] H H' s.heap s'.heap∧cg P w H' s'.heap∧RelV v u∧Q v H'
noncomputable def CR (CX:iH)(outer:List Env)(P:Program)(w:World)(H:Hp)(s:Shared)(Q:VK)(E:XK)(r:Result)(s':Shared):Prop:=
  match r with
  | .ok (.ret u)=>CE outer P w H s Q u s'
  | .ok _=>False
  | .error e=>CX outer H s E e s'
structure et (P:Program) (w:World) (K:PySem.W.Frag) (mg:Str→Option Value) (base:Heap) (CX:iH) (k:Nat) (f:Addr) (fd:FuncData) (ps:List Str) (sp:Sp):Prop where
  len:∀vs H Q E,sp vs H Q E→vs.length=ps.length
  run:∀(A:Around) (outer:List Env) (s:Shared) (H:Hp) (args:Args) (us:List Value) (vs:List V) (Q:VK) (E:XK),bt k A→og P w K mg base A outer s H→BindsTo s fd args (ps.zip us)→Vals vs us→sp vs H Q E→
    codeAny (model P w) A (.call (.ref f) args) (CR CX outer P w H s Q E) s
theorem et.mono {P:Program}{w:World}{K:PySem.W.Frag}{mg:Str→Option Value}{base:Heap}{CX:iH}{j k:Nat}{f:Addr}{fd:FuncData}{ps:List Str}{sp:Sp}(F:et P w K mg base CX j f fd ps sp)(h:j≤k):
    et P w K mg base CX k f fd ps sp:=⟨F.len,fun A outer s H args us vs Q E hr=>F.run A outer s H args us vs Q E (hr.mono h)⟩
section
variable {X:Cx}{pins:List (Addr×Obj)}{σ:St}{H:Hp}{s s':Shared}
theorem Inv.qF (I:Inv X pins σ H s):og X.prog X.w X.K X.mg X.base X.A X.stack s H:=
  ⟨I.ok.frames,I.ok.mod,I.bs,Nat.le_trans I.ok.bsz I.sz,I.stack,I.fE,I.hok,I.bare⟩
theorem Inv.after {Q:VK}{u:Value}(I:Inv X pins σ H s)(h:CE X.stack X.prog X.w H s Q u s'):EP X pins σ Q u s':=by
  obtain ⟨v,H',os,bare,un,hok,r,q⟩:=h
  obtain ⟨hh,g,d,t,os'⟩:=s'
  obtain rfl:os'=s.os:=os
  exact ⟨v,H',I.call (h':=hh) (g':=g) (d':=d) (t':=t) (ch:=[]) un hok bare (fun b z=>absurd z (by simp)),r,q⟩
end
noncomputable def AU (sp:Sp)(dvs:List V)(E:XK)(t:TA):TE:=fun σ H Q=>t σ H fun vs H1=>sp (vs++dvs) H1 Q E
noncomputable def Binds (K:PySem.W.Frag)(fd:FuncData)(ps:List Str)(ds:List Value):Prop:=
  ∀(s:Shared) (us:List Value),K.In s.heap→(us++ds).length=ps.length→BindsTo s fd ⟨us,[]⟩ (ps.zip (us++ds))
theorem Binds.all {K:PySem.W.Frag}{fd:FuncData}{ps:List Str}(h:∀us:List Value,us.length=ps.length→bindArgs fd ⟨us,[]⟩=pure (ps.zip us)):Binds K fd ps []:=fun s us _ hl=>by
  rw [List.append_nil] at hl ⊢
  exact .of_eq (h us hl)
noncomputable def Passes (CX:iH)(X:Cx)(E:XK):Prop:=∀(pins:List (Addr×Obj)) (σ:St) (H:Hp) (s:Shared) (e:Value) (s':Shared),Inv X pins σ H s→CX X.stack H s E e s'→X.xe e s'
section
variable {X:Cx}{CX:iH}{k:Nat}{f C:Addr}{fd:FuncData}{ps:List Str}{sp:Sp}{dvs:List V}{ds:List Value}{E:XK}{x m:Str}{p pos apos:Pos}{e o:Expr}{es:List Expr}{ta:TE}{t:TA}
theorem yE {pins:List (Addr×Obj)}{σ:St}{H:Hp}{s:Shared}{Q:VK}{us:List Value}{vs:List V}(F:et X.prog X.w X.K X.mg X.base CX k f fd ps sp)(hr:bt k X.A)(hb:Binds X.K fd ps ds)(hd:Vals dvs ds)(hx:Passes CX X E)
    (I:Inv X pins σ H s) (r:Vals vs us) (h:sp (vs++dvs) H Q E):wpAny (model X.prog X.w) X.A (call (.ref f) us) (EP X pins σ Q) X.xe s:=by
  have r2:Vals (vs++dvs) (us++ds):=r.append hd
  have hl:(us++ds).length=ps.length:=by rw [← r2.length];exact F.len _ _ _ _ h
  refine wpAny_call (codeAny_mono (F.run X.A X.stack s H ⟨us,[]⟩ (us++ds) (vs++dvs) Q E hr I.qF (hb s us I.dj hl) r2 h) fun r s' hq=>?_)
  cases r with
  | error e=>exact hx pins σ H s e s' I hq
  | ok fl=>
    cases fl with
    | ret u=>exact I.after hq
    | next=>exact False.elim hq
    | brk=>exact False.elim hq
    | cont=>exact False.elim hq
theorem jH (F:et X.prog X.w X.K X.mg X.base CX k f fd ps sp)(hr:bt k X.A)(hg:Gl X x)(hm:X.mg x=some (.ref f))(hk:PySem.W.keepIn X.K (.ref f)=true)(hb:Binds X.K fd ps ds)(hd:Vals dvs ds)(hx:Passes CX X E)
    (ha:PA X (e::es) t) (hdb:autoParam ((x==("__debug__":Str))=false) Fc.aw) (he:autoParam (starEach (e::es) X.env=(false,eval e X.env)::starEach es X.env) Fc.ai) (hpl:autoParam ((backTo pos (starEach es X.env)).any (·.1)=false) Fc.ai):
    PE X (.Call (.Name x p) (e::es) [] pos) (AU sp dvs E t):=by
  intro pins s σ H Q I h
  refine wpAny_Call_Name_kw (fb I hg hm ?_ hdb)
  refine PySem.W.callWith_K (h₀:=X.base) I.ok.mod.kin hk (aR (ha pos pins s σ H _ I h) fun us s1 ⟨vs,H1,I1,r,q⟩=>⟨I1.dj,?_⟩) he hpl
  exact yE F hr hb hd hx I1 r q
end
section
variable {X:Cx}{CX:iH}{k:Nat}{f C:Addr}{fd:FuncData}{ps ks:List Str}{sp:Sp}{E:XK}{x m:Str}{p pos apos kpos:Pos}{e o:Expr}{es:List Expr}{kws:List Keyword}{te ta:TE}{t tk:TA}{nm:Option Str}
variable {g:List Value→List Value→List Value}{gV:List V→List V→List V}
end
structure ax (N P:List Str) (sc:Scope):Prop where
  kind:sc.kind= .function
  co:sc.isCoroutine=false
  gen:sc.isGenerator=false
  nd:N.Nodup
  pre:N.take P.length=P
  par:∀x∈P,sc.names.lookup x=some .local∨sc.names.lookup x=some .cell
  nofree:∀y∈sc.names,y.2≠ .free
theorem l6 {kindOf:Str→Option NameKind}{x:Str}:∀{binds:List (Str×Value)} {m:Str→Option Value},(∀v,(x,v)∉binds)→bindL kindOf binds m x=m x
  | [],_,_=>rfl
  | (n,v)::r,m,h=>by
    unfold bindL
    rw [l6 fun w hw=>h w (List.mem_cons_of_mem _ hw)]
    split
    · have:x≠n:=by rintro rfl;exact h v List.mem_cons_self
      simp [this]
    · rfl
theorem me {kindOf:Str→Option NameKind}{x:Str}:∀{binds:List (Str×Value)} {m:Str→Option Value},(∀v,(x,v)∉binds)→bindC kindOf binds m x=m x
  | [],_,_=>rfl
  | (n,v)::r,m,h=>by
    unfold bindC
    rw [me fun w hw=>h w (List.mem_cons_of_mem _ hw)]
    split
    · rfl
    · have:x≠n:=by rintro rfl;exact h v List.mem_cons_self
      simp [this]
theorem mi {kindOf:Str→Option NameKind}{x:Str}{v:Value}:∀{P:List Str} {vs:List Value} {i:Nat} {m:Str→Option Value},P.Nodup→P[i]?=some x→vs[i]?=some v→kindOf x=some .local→
    bindL kindOf (P.zip vs) m x=some v
  | [],_,_,_,_,h,_,_=>by simp at h
  | _::_,[],_,_,_,_,h,_=>by simp at h
  | p::P,w::vs,0,m,nd,h1,h2,hk=>by
    simp at h1 h2;subst h1;subst h2
    show bindL kindOf ((p,w)::P.zip vs) m p=_
    unfold bindL
    rw [l6 fun v hv=>(List.nodup_cons.mp nd).1 (List.of_mem_zip hv).1,if_pos hk]
    simp
  | p::P,w::vs,i + 1,m,nd,h1,h2,hk=>by
    show bindL kindOf ((p,w)::P.zip vs) m x=_
    unfold bindL
    exact mi (i:=i) (List.nodup_cons.mp nd).2 (by simpa using h1) (by simpa using h2) hk
theorem mn {kindOf:Str→Option NameKind}{x:Str}{v:Value}:∀{P:List Str} {vs:List Value} {i:Nat} {m:Str→Option Value},P.Nodup→P[i]?=some x→vs[i]?=some v→kindOf x≠some .local→
    bindC kindOf (P.zip vs) m x=some v
  | [],_,_,_,_,h,_,_=>by simp at h
  | _::_,[],_,_,_,_,h,_=>by simp at h
  | p::P,w::vs,0,m,nd,h1,h2,hk=>by
    simp at h1 h2;subst h1;subst h2
    show bindC kindOf ((p,w)::P.zip vs) m p=_
    unfold bindC
    rw [me fun v hv=>(List.nodup_cons.mp nd).1 (List.of_mem_zip hv).1,if_neg hk]
    simp
  | p::P,w::vs,i + 1,m,nd,h1,h2,hk=>by
    show bindC kindOf ((p,w)::P.zip vs) m x=_
    unfold bindC
    exact mn (i:=i) (List.nodup_cons.mp nd).2 (by simpa using h1) (by simpa using h2) hk
noncomputable def start (N:List Str)(vs:List V):St:=vs.map some++List.replicate (N.length - vs.length) none
noncomputable def bF (CX:iH)(P:Program)(w:World)(K:PySem.W.Frag)(mg:Str→Option Value)(base:Heap)(N:List Str)(qual:Str)(scope:Scope)(f:Addr)(cd:Value)(A:Around)(outer:List Env)(s:Shared)(H:Hp)(E:XK):Cx where
  prog:=P
  w:=w
  K:=K
  mg:=mg
  base:=base
  A:=A.deeper (envOfC qual scope s.heap.objs.size f cd)
  N:=N
  s₀:=s
  H₀:=H
  env:=envOfC qual scope s.heap.objs.size f cd
  outer:=outer
  stack:=envOfC qual scope s.heap.objs.size f cd::outer
  ex:=[]
  calm:=true
  fn:=fun _=>true
  pn:=[]
  xe:=fun e s'=>wpAny (model P w) (A.deeper (envOfC qual scope s.heap.objs.size f cd)) (leaving (envOfC qual scope s.heap.objs.size f cd) e) (fun _ s''=>CX outer H s E e s'') (fun e' s''=>CX outer H s E e' s'') s'
theorem aV {sc:Scope}{n:Nat}{x:Str}(h:sc.names.lookup x=some .cell):∃c,(cellsFrom n sc.names []).lookup x=some c:=by
  have q:=PySem.W.cellsFrom_some sc.names n [] (.inl h)
  exact Option.isSome_iff_exists.mp q
theorem tq {CX:iH}{P:Program}{w:World}{K:PySem.W.Frag}{mg:Str→Option Value}{base:Heap}{N ps:List Str}{qual:Str}{scope:Scope}{f:Addr}{cd:Value}{A:Around}{outer:List Env}{s s1:Shared}{H:Hp}{E:XK}{us:List Value}{vs:List V}
    (S:ax N ps scope) (hd:A.handled=none) (e0:og P w K mg base A outer s H) (hl:vs.length=ps.length) (r:Vals vs us)
    (x:InCallC s s.heap.objs.size (bindL (envOfC qual scope s.heap.objs.size f cd).kindOf (ps.zip us) fun _=>none) (cellsFrom (s.heap.objs.size + 1) scope.names []) (bindC (envOfC qual scope s.heap.objs.size f cd).kindOf (ps.zip us) fun _=>none) s1):
    Inv (bF CX P w K mg base N qual scope f cd A outer s H E) [] (start N vs) H s1:=by
  have hpl:ps.length≤N.length:=by have:=congrArg List.length S.pre;rw [List.length_take] at this;omega
  obtain ⟨h1,tk,rfl,hk⟩:=x.done
  have noA:∀b:Addr,b∉(bF CX P w K mg base N qual scope f cd A outer s H E).ex:=fun b z=>absurd (show b∈([]:List Addr) from z) (by simp)
  refine ⟨⟨e0.mod,S.kind,rfl,rfl,Nat.le_refl _,fun y z c h1 h2=>?_,fun y hy=>?_,fun y c _ h=>?_,fun _=>hd,Around.frames_deeper e0.frames,.inr ⟨rfl,rfl⟩,fun b z=>absurd z (noA b),e0.bs,e0.bsz,fun b _ _=>noA b,fun b z=>absurd z (noA b),e0.funs,e0.frf⟩,
    rfl,e0.bare,Un.kept hk,⟨_,x.toInCall.ns,fun i y v h1 h2 h3=>?_⟩,fun y c h=>⟨_,x.cell y c h⟩,e0.hok.fresh (Nat.le_refl _),fun y c h=>?_,fun p hp=>absurd (show p∈([]:List (Addr×Obj)) from hp) (by simp),e0.hok.kept hk,?_⟩
  · exact name_of_addr x.apart (PySem.mem_of_lookup h1) (PySem.mem_of_lookup h2)
  · have hy:scope.names.lookup y=some .cell∨scope.names.lookup y=some .free:=hy
    rcases hy with hy | hy
    · exact aV hy
    · exact absurd rfl (S.nofree _ (PySem.mem_of_lookup hy))
  · exact Nat.le_of_lt (x.above y c (PySem.mem_of_lookup h))
  · have hi:i < vs.length:=by
      unfold start at h2
      by_cases hi:i < vs.length
      · exact hi
      · rw [List.getElem?_append_right (by simpa using hi)] at h2
        rw [List.getElem?_replicate] at h2
        split at h2<;>cases h2
    have ha:vs[i]?=some v:=by
      unfold start at h2
      rw [List.getElem?_append_left (by simpa using hi),List.getElem?_map] at h2
      cases e:vs[i]? with
      | none=>rw [e] at h2;cases h2
      | some a=>rw [e] at h2;cases h2;rfl
    obtain ⟨u,hu,rv⟩:=r.get ha
    have hp:ps[i]?=some y:=by
      rw [← S.pre,List.getElem?_take_of_lt (by omega)];exact h1
    have ndP:ps.Nodup:=by rw [← S.pre];exact S.nd.sublist (List.take_sublist _ _)
    refine ⟨u,rv,?_⟩
    rcases S.par y (List.mem_of_getElem? hp) with k | k
    · exact .inl ⟨k,mi ndP hp hu k⟩
    · obtain ⟨c,e⟩:=aV (n:=s.heap.objs.size + 1) k
      refine .inr ⟨.inl k,c,e,?_⟩
      have q:=x.cell y c e
      rw [mn ndP hp hu (by show scope.names.lookup y≠_;rw [k];decide)] at q
      exact q
  · exact e0.hok.fresh (Nat.le_of_lt (x.above y c (PySem.mem_of_lookup h)))
  · unfold start
    show _=N.length
    rw [List.length_append,List.length_map,List.length_replicate]
    omega
theorem qp {CX:iH}{P:Program}{w:World}{K:PySem.W.Frag}{mg:Str→Option Value}{base:Heap}{k:Nat}{f:Addr}{name qual:Str}{params:Arguments}{body:List Stmt}{scope:Scope}{dV kV doc pm cdv ct oc:Value}{an od:Option Addr}
    {osl:Array (Option Value)} {N ps:List Str} {sp:Sp} (lk:K.lookup f=some ⟨oc,od,.func (PySem.W.fnOf name qual params body scope dV kV doc pm an cdv ct),osl⟩) (hcd:PySem.W.codeIn K cdv qual=true) (S:ax N ps scope)
    (len:∀vs H Q E,sp vs H Q E→vs.length=ps.length)
    (hbody:∀(A:Around) (outer:List Env) (s:Shared) (H:Hp) (vs:List V) (Q:VK) (E:XK),bt k (A.deeper (envOfC qual scope s.heap.objs.size f cdv))→sp vs H Q E→
      ∃t,f9 (bF CX P w K mg base N qual scope f cdv A outer s H E) body t∧t {nx:=fun _ H'=>Q .non H',rt:=Q} (start N vs) H):
    et P w K mg base CX (k + 1) f (PySem.W.fnOf name qual params body scope dV kV doc pm an cdv ct) ps sp:=by
  refine ⟨len,fun A outer s H args us vs Q E hr e0 hb r hsp=>?_⟩
  have hl:=len _ _ _ _ hsp
  have KX:K.In s.heap:=e0.mod.kin.keeps fun b o e=>(e0.bs b o e).1
  have lim:s.heap.NoLimit:=e0.mod.nolimit.keeps fun b o e=>(e0.bs b o e).1
  have hkind:∀y∈ps.zip us,scope.names.lookup y.1=some .local∨(scope.names.lookup y.1=some .cell∧((cellsFrom (s.heap.objs.size + 1) scope.names []).lookup y.1).isSome=true):=fun ⟨n,v⟩ hy=>by
    rcases S.par n (List.of_mem_zip hy).1 with q | q
    · exact .inl q
    · exact .inr ⟨q,PySem.W.cellsFrom_some _ _ _ (.inl q)⟩
  refine codeAny_call_function hr.depth (KX _ _ lk) rfl S.co S.gen rfl (PySem.W.codeRec_of KX hcd) (hb _ _ _ _ ?_)
  refine wpAny_newFunctionEnv_cells S.kind hkind fun env he s1 x=>?_
  subst he
  refine ⟨lim.keeps x.toInCall.keep,codeAny_func ?_⟩
  obtain ⟨t,ht,hq⟩:=hbody A outer s H vs Q E (hr.deeper _) hsp
  have I:Inv (bF CX P w K mg base N qual scope f cdv A outer s H E) [] (start N vs) H s1:=tq S hr.hd e0 hl r x
  refine wpAny_mono (ht [] s1 (start N vs) H _ I hq) (fun fl s' hs=>?_) fun e s' hs=>hs
  have fin:∀{σ':St} {H':Hp} {v:V} {u:Value},Inv (bF CX P w K mg base N qual scope f cdv A outer s H E) [] σ' H' s'→RelV v u→Q v H'→CE outer P w H s Q u s':=
    fun {σ' H' v u} J rv q=>⟨v,H',J.os,J.bare,J.base,J.hok,rv,q⟩
  cases fl with
  | ret u=>
    obtain ⟨v,σ',H',J,rv,q⟩:=hs
    exact fin J rv q
  | next=>
    obtain ⟨σ',H',J,q⟩:=hs
    exact fin (v:=V.non) (u:=Value.none) J rfl q
  | brk=>
    obtain ⟨_,_,_,q⟩:=hs
    exact False.elim q
  | cont=>
    obtain ⟨_,_,_,q⟩:=hs
    exact False.elim q
section
variable {X:Cx}{x:Str}{p pos:Pos}{e:Expr}{es:List Expr}{t:TA}{id T:String}{r:List V→Hp→VK→Prop}
noncomputable def CZ (r:List V→Hp→VK→Prop)(t:TA):TE:=fun σ H Q=>t σ H fun vs H1=>r vs H1 Q
theorem cR (hc:dk X (.builtin id) r)(hg:Gl X x)(hm:X.mg x=none)(hv:bootBuiltins x=some (.builtin id))(ha:PA X (e::es) t)(hn:autoParam (x≠"__name__") Fc.aw)(hdb:autoParam ((x==("__debug__":Str))=false) Fc.aw)
    (he:autoParam (starEach (e::es) X.env=(false,eval e X.env)::starEach es X.env) Fc.ai) (hpl:autoParam ((backTo pos (starEach es X.env)).any (·.1)=false) Fc.ai):PE X (.Call (.Name x p) (e::es) [] pos) (CZ r t):=by
  intro pins s σ H Q I h
  refine wpAny_Call_Name_kw (iz I hg hm hv ?_ hn hdb)
  exact PyProof.Rows.callWith_builtin1 (aR (ha pos pins s σ H _ I h) fun us s1 ⟨vs,H1,I1,r1,q1⟩=>hc pins s1 σ H1 vs us Q I1 r1 q1) he hpl
theorem gd (hc:dk X (.type T) r)(hg:Gl X x)(hm:X.mg x=none)(hv:bootBuiltins x=some (.type T))(ha:PA X (e::es) t)(hn:autoParam (x≠"__name__") Fc.aw)(hdb:autoParam ((x==("__debug__":Str))=false) Fc.aw)
    (he:autoParam (starEach (e::es) X.env=(false,eval e X.env)::starEach es X.env) Fc.ai) (hpl:autoParam ((backTo pos (starEach es X.env)).any (·.1)=false) Fc.ai):PE X (.Call (.Name x p) (e::es) [] pos) (CZ r t):=by
  intro pins s σ H Q I h
  refine wpAny_Call_Name_kw (iz I hg hm hv ?_ hn hdb)
  exact PyProof.Rows.callWith_type1 (aR (ha pos pins s σ H _ I h) fun us s1 ⟨vs,H1,I1,r1,q1⟩=>hc pins s1 σ H1 vs us Q I1 r1 q1) he hpl
end
end L2
namespace HT
open PySem PyProof.Rows
section
open PySem.SeqAt
open PySem.AutoSeq1 (wpAny_loadPart')
open PySem.MeetsSeq PySem.MeetsSeq2 PySem.MeetsSeq3
end
section
variable {prog:Program}{w:World}{A:Around}{E:Value→Shared→Prop}{s:Shared}
noncomputable def sIx (n d:Nat):Option Int→Nat
  | none=>d
  | some v=>if v < 0 then (v + (n:Int)).toNat else min v.toNat n
theorem z7 (n d:Nat)(hd:d≤n)(o:Option Int):sIx n d o≤n:=by
  cases o with
  | none=>exact hd
  | some v=>
    show (if v < 0 then (v + (n:Int)).toNat else min v.toNat n)≤n
    by_cases hv:v < 0
    · rw [if_pos hv];omega
    · rw [if_neg hv];exact Nat.min_le_right _ _
theorem pw (v:Int)(n d:Nat):(if v < 0 then max (v + (n:Int)) 0 else min v (n:Int))=((sIx n d (some v):Nat):Int):=by
  show (if v < 0 then max (v + (n:Int)) 0 else min v (n:Int))=(((if v < 0 then (v + (n:Int)).toNat else min v.toNat n):Nat):Int)
  by_cases hv:v < 0
  · simp only [if_pos hv];omega
  · simp only [if_neg hv];omega
theorem qS (lo hi:Option Int)(n:Nat):Builtin.Slice.sliceAdjust lo hi 1 (n:Int)=(((sIx n 0 lo:Nat):Int),((sIx n n hi:Nat):Int)):=by
  have h1:¬((1:Int) < 0):=by omega
  unfold Builtin.Slice.sliceAdjust
  simp only [h1,if_false]
  refine Prod.ext ?_ ?_
  · cases lo with
    | none=>rfl
    | some v=>exact pw v n 0
  · cases hi with
    | none=>rfl
    | some v=>exact pw v n n
theorem rj (i j:Nat):Builtin.Slice.slicePlaces (i:Int) (j:Int) 1=j - i:=by
  unfold Builtin.Slice.slicePlaces
  have h1:(1:Int) > 0:=by omega
  simp only [h1,if_true,Int.ediv_one]
  split<;>omega
theorem kU {v:Value}{o:Option Int}{Q:Option Int→Shared→Prop}(p:IsPart v o)(h:Q o s):wpAny (model prog w) A (Builtin.Slice.slicePartIndex v) Q E s:=by
  cases p with
  | none=>exact slicePart_none h
  | int i t=>exact slicePart_int h
theorem j8 {sl:Addr}{vl vu:Value}{lo hi:Option Int}{n:Nat}{Q:Int×Int×Nat→Shared→Prop}(hs:s.heap.IsSliceOf sl vl vu .none)(pl:IsPart vl lo)(pu:IsPart vu hi)
    (h:Q (((sIx n 0 lo:Nat):Int),1,sIx n n hi - sIx n 0 lo) s):wpAny (model prog w) A (Builtin.Slice.sliceApplied (.ref sl) (pure (n:Int))) Q E s:=by
  obtain ⟨os,hos,hcs,hds⟩:=id hs
  unfold Builtin.Slice.sliceApplied Builtin.Slice.sliceFields
  refine wpAny_bind (wpAny_bind (wpAny_field hos hds (x:=vl) rfl (wpAny_bind (wpAny_field hos hds (x:=vu) rfl (wpAny_bind (wpAny_field hos hds (x:=.none) rfl (wpAny_pure ?_)))))))
  refine wpAny_bind (slicePart_none ?_)
  show wpAny _ _ (if ((1:Int)==0)=true then _ else _) _ _ s
  rw [if_neg (by decide)]
  refine wpAny_bind (kU pl (wpAny_bind (kU pu (wpAny_bind (wpAny_pure ?_)))))
  show wpAny _ _ (match Builtin.Slice.sliceAdjust lo hi 1 (n:Int) with | (lo,hi)=>pure (lo,(1:Int),Builtin.Slice.slicePlaces lo hi 1)) _ _ s
  rw [qS lo hi n]
  show wpAny _ _ (pure (((sIx n 0 lo:Nat):Int),(1:Int),Builtin.Slice.slicePlaces ((sIx n 0 lo:Nat):Int) ((sIx n n hi:Nat):Int) 1)) _ _ s
  rw [rj]
  exact wpAny_pure h
theorem uQ (xs:Array Value)(i k:Nat):((List.range k).filterMap fun (m:Nat)=>xs[((i:Int) + (m:Int) * 1).toNat]?).toArray=((xs.toList.drop i).take k).toArray:=by
  have e:(fun (m:Nat)=>xs[((i:Int) + (m:Int) * 1).toNat]?)=fun m=>xs[i + m]?:=by
    funext m
    have:((i:Int) + (m:Int) * 1).toNat=i + m:=by omega
    rw [this]
  rw [e]
  have:=pick_run xs i k
  rw [List.filterMap_map] at this
  have e2:((fun x=>xs[x]?) ∘ fun x=>i + x)=fun m=>xs[i + m]?:=rfl
  rw [e2] at this
  rw [this]
theorem jL {t sl:Addr}{items:Array Value}{vl vu:Value}{lo hi:Option Int}{Q:Value→Shared→Prop}(ht:IsTup s.heap t items)(hs:s.heap.IsSliceOf sl vl vu .none)(pl:IsPart vl lo)(pu:IsPart vu hi)
    (hw:¬(sIx items.size 0 lo=0∧sIx items.size items.size hi=items.size))
    (h:Q (.ref s.heap.objs.size) {s with heap:=s.heap.push {cls:=.type "tuple",data:=.seq ((items.toList.drop (sIx items.size 0 lo)).take (sIx items.size items.size hi - sIx items.size 0 lo)).toArray}})
    (hsz:items.size≤sizeLine):wpAny (model prog w) A (getItem (.ref t) (.ref sl)) Q E s:=by
  have htake:sizeOk (.seq ((items.toList.drop (sIx items.size 0 lo)).take (sIx items.size items.size hi - sIx items.size 0 lo)).toArray):=by
    show ((items.toList.drop (sIx items.size 0 lo)).take (sIx items.size items.size hi - sIx items.size 0 lo)).toArray.size≤sizeLine
    rw [List.size_toArray,List.length_take,List.length_drop,Array.length_toList]
    omega
  have hj:sIx items.size items.size hi≤items.size:=z7 _ _ (Nat.le_refl _) hi
  obtain ⟨os,hos,hcs,hds⟩:=id hs
  have hTs:s.TypeIs (.ref sl) "slice":=⟨os,hos,hcs⟩
  unfold getItem
  try with_reducible refine wpAny_holding ?_
  first | refine wpAny_bind (wpAny_pure ?_) | skip
  refine wpAny_bind (wpAny_sequenceKey ht.typeIs (by decide) ?_)
  refine wpAny_bind (wpAny_callSpecial?_slot (name:=Str.ofString "__getitem__") ht.typeIs PyProof.Rows.slot_tuple_getitem
    (wpAny_call_entry PyProof.Rows.slot_tuple_getitem ht.typeIs entry_tuple_getitem ?_ (args_tuple_getitem _ _)))
  show wpAny _ _ (Builtin.Tuple.tupleItemsOf (.ref t) >>=_) _ _ s
  refine wpAny_bind (tupleItemsOf_ ht ?_)
  refine wpAny_bind (wpAny_typeOf hTs ?_)
  rw [if_pos (by decide)]
  refine wpAny_bind (j8 hs pl pu ?_)
  have hno:¬((((sIx items.size 0 lo:Nat):Int)==0&&(1:Int)==1&&(sIx items.size items.size hi - sIx items.size 0 lo)==items.size)=true):=by
    intro q
    rw [Bool.and_eq_true,Bool.and_eq_true] at q
    have q1:((sIx items.size 0 lo:Nat):Int)=0:=eq_of_beq q.1.1
    have q2:sIx items.size items.size hi - sIx items.size 0 lo=items.size:=eq_of_beq q.2
    exact hw ⟨by omega,by omega⟩
  show wpAny _ _ (if (((sIx items.size 0 lo:Nat):Int)==0&&(1:Int)==1&&(sIx items.size items.size hi - sIx items.size 0 lo)==items.size)=true then _ else _) _ _ s
  rw [if_neg hno,uQ]
  first
    | exact wpAny_bind (m:=Builtin.Tuple.tupleExact _) (wpAny_newObj_type (wpAny_pure ⟨_,rfl,wpAny_pure h⟩) htake)
    | exact wpAny_bind (m:=Builtin.Tuple.tupleExact _) (wpAny_newObj_type (wpAny_bind (wpAny_pure (wpAny_pure ⟨_,rfl,wpAny_pure h⟩))) htake)
    | exact wpAny_bind (wpAny_bind (m:=Builtin.Tuple.tupleExact _) (wpAny_newObj_type (wpAny_pure (wpAny_pure ⟨_,rfl,wpAny_pure h⟩)) htake))
    | exact wpAny_bind (wpAny_bind (m:=Builtin.Tuple.tupleExact _) (wpAny_newObj_type (wpAny_pure ⟨_,rfl,wpAny_pure h⟩) htake))
end
end HT
namespace L2
open PySem PySem.Spec PyProof.Rows
noncomputable abbrev TO:=St→Hp→(Option Int→Hp→Prop)→Prop
noncomputable def PO (X:Cx)(e:Option Expr)(t:TO):Prop:=
  ∀ (pins:List (Addr×Obj)) (s:Shared) (σ:St) (H:Hp) (Q:Option Int→Hp→Prop),Inv X pins σ H s→t σ H Q→
    wpAny (model X.prog X.w) X.A (evalPart e X.env) (fun u s'=>∃o H',Inv X pins σ H' s'∧IsPart u o∧Q o H') X.xe s
noncomputable def xD:TO:=fun _ H Q=>Q none H
noncomputable def BP (t:TE):TO:=fun σ H Q=>t σ H fun x H1=>∃i,x= .int i∧Q (some i) H1
theorem intsAre_of {ns:List Int}:∀{us:List Value},Vals (ns.map V.int) us→IntsAre us ns:=by
  induction ns with
  | nil=>intro us r;rw [List.map_nil] at r;cases r;exact .nil
  | cons n ns ih=>
    intro us r
    rw [List.map_cons] at r
    cases r with
    | cons r1 r2=>
      obtain ⟨t,e⟩:=r1
      subst e
      exact .cons n t (ih r2)
section
variable {X:Cx}{e:Expr}{te:TE}{lo hi:Option Expr}{tl th:TO}{pos p2:Pos}
theorem p8:PO X none xD:=by
  intro pins s σ H Q I h
  rw [evalPart_none]
  exact wpAny_pure ⟨none,H,I,.none,h⟩
theorem pv (h:PE X e te):PO X (some e) (BP te):=by
  intro pins s σ H Q I hw
  rw [evalPart_some]
  refine aR (h pins s σ H _ I hw) fun u s1 ⟨x,H1,I1,r1,q1⟩=>?_
  obtain ⟨i,rfl,q⟩:=q1
  obtain ⟨t,rfl⟩:=r1
  exact ⟨some i,H1,I1,.int i t,q⟩
noncomputable def Aw (X:Cx)(r:V→Option Int→Option Int→Hp→VK→Prop):Prop:=
  ∀ (pins:List (Addr×Obj)) (s:Shared) (σ:St) (H:Hp) (x:V) (v vl vu:Value) (lo hi:Option Int) (sl:Addr) (Q:VK),Inv X pins σ H s→RelV x v→s.heap.IsSliceOf sl vl vu .none→IsPart vl lo→IsPart vu hi→r x lo hi H Q→
    ∃T id,typeLookup (.type T) "__getitem__"=pure (some (.builtin id))∧s.TypeIs v T∧wpAny (model X.prog X.w) X.A (getItem v (.ref sl)) (EP X pins σ Q) X.xe s
noncomputable def tSl (r:V→Option Int→Option Int→Hp→VK→Prop)(te:TE)(tl th:TO):TE:=fun σ H Q=>te σ H fun x H1=>tl σ H1 fun l H2=>th σ H2 fun u H3=>r x l u H3 Q
theorem kj {r:V→Option Int→Option Int→Hp→VK→Prop}(hr:Aw X r)(he:PE X e te)(hl:PO X lo tl)(hu:PO X hi th):PE X (.Subscript e (.Slice lo hi none p2) pos) (tSl r te tl th):=by
  intro pins s σ H Q I h
  refine Subscript_ (aR (he pins s σ H _ I h) fun v s1 ⟨x,H1,I1,r1,q1⟩=>?_)
  refine wpAny_Slice (aR (hl pins s1 σ H1 _ I1 q1) fun vl s2 ⟨l,H2,I2,pl,q2⟩=>aR (hu pins s2 σ H2 _ I2 q2) fun vu s3 ⟨u,H3,I3,pu,q3⟩=>?_)
  rw [evalPart_none]
  refine wpAny_pure ?_
  have I4:Inv X pins σ H3 {s3 with heap:=s3.heap.push {cls:=.type "slice",data:=.fields #[vl,vu,.none]}}:=I3.kept (t':=s3.toks) fun b ob q=>Heap.get?_push_of_some _ q
  obtain ⟨T,id,hT,ht,hg⟩:=hr pins {s3 with heap:=s3.heap.push {cls:=.type "slice",data:=.fields #[vl,vu,.none]}} σ H3 x v vl vu l u s3.heap.objs.size Q I4 r1 (Heap.IsSliceOf.new ..) pl pu q3
  show wpAny (model X.prog X.w) X.A (subscriptTail e (.Slice lo hi none p2) v (.ref s3.heap.objs.size)) (EP X pins σ Q) X.xe {s3 with heap:=s3.heap.push {cls:=.type "slice",data:=.fields #[vl,vu,.none]}}
  exact tail_any (ops:=[.ref s3.heap.objs.size,v]) ht hT hg (by with_unfolding_all rfl)
noncomputable def je (xs:List V)(lo hi:Option Int):List V:=(xs.drop (HT.sIx xs.length 0 lo)).take (HT.sIx xs.length xs.length hi - HT.sIx xs.length 0 lo)
theorem jT (xs:List V)(lo hi:Option Int):(je xs lo hi).length≤xs.length:=by
  unfold je
  rw [List.length_take,List.length_drop]
  omega
noncomputable def DJ (K:PySem.W.Frag):V→Option Int→Option Int→Hp→VK→Prop:=fun x lo hi H Q=>∃a xs,x= .ref a∧dE K H a xs∧
  ¬(HT.sIx xs.length 0 lo=0∧HT.sIx xs.length xs.length hi=xs.length)∧∀p,H p=none→Q (.ref p) (upd H p (.tup (je xs lo hi)))
theorem Au:Aw X (DJ X.K):=by
  intro pins s σ H x v vl vu lo hi sl Q I rx hs pl pu h
  obtain ⟨a,xs,rfl,hx,hw,q⟩:=h
  cases rx
  obtain ⟨its,r,ht,hz⟩:=I.tuple hx
  have hlen:its.toArray.size=xs.length:=by rw [List.size_toArray];exact r.length.symm
  refine ⟨"tuple",_,PyProof.Rows.slot_tuple_getitem.lookup,ht.typeIs,?_⟩
  refine HT.jL ht hs pl pu (by rw [hlen];exact hw) ?_ (by rw [hlen];exact hz)
  rw [hlen]
  refine ⟨.ref s.heap.objs.size,_,I.laid (t':=s.toks) (o:=.tup (je xs lo hi)) (fun b ob q=>Heap.get?_push_of_some _ q) (Nat.le_refl _) ?_,rfl,q _ (I.hok.fresh (Nat.le_refl _))⟩
  exact ⟨Nat.le_trans (jT xs lo hi) hz,_,(r.drop (HT.sIx xs.length 0 lo)).take (HT.sIx xs.length xs.length hi - HT.sIx xs.length 0 lo),IsTup.new _ _⟩
end
noncomputable def f6 (n:Nat)(i:Int):Option Nat:=if 0≤i then (if i < n then some i.toNat else none) else if -(n:Int)≤i then some (i + n).toNat else none
noncomputable def cA {α:Type}(xs:List α)(i:Int):Option α:=(f6 xs.length i).bind fun j=>xs[j]?
theorem lG {n:Nat}{i:Int}{j:Nat}(h:f6 n i=some j):seqIndex? i n=some j∧j < n∧ -(n:Int)≤i∧i < n:=by
  unfold f6 at h
  by_cases h0:0≤i
  · rw [if_pos h0] at h
    by_cases h1:i < n
    · rw [if_pos h1] at h
      have e:i.toNat=j:=Option.some.inj h
      exact ⟨by rw [seqIndex_of h0 h1,e],by omega,by omega,h1⟩
    · rw [if_neg h1] at h;cases h
  · rw [if_neg h0] at h
    by_cases h1: -(n:Int)≤i
    · rw [if_pos h1] at h
      have e:(i + n).toNat=j:=Option.some.inj h
      exact ⟨by rw [seqIndex_neg (by omega) h1,e],by omega,h1,by omega⟩
    · rw [if_neg h1] at h;cases h
theorem p9 {α:Type}{xs:List α}{i:Int}{v:α}(h:cA xs i=some v):∃j,seqIndex? i xs.length=some j∧xs[j]?=some v∧j < xs.length∧ -(xs.length:Int)≤i∧i < xs.length:=by
  unfold cA at h
  cases e:f6 xs.length i with
  | none=>rw [e] at h;cases h
  | some j=>
    rw [e] at h
    obtain ⟨h1,h2,h3,h4⟩:=lG e
    exact ⟨j,h1,h,h2,h3,h4⟩
theorem w6 {α:Type}{xs:List α}{j:Nat}{v:α}(h:xs[j]?=some v):cA xs (j:Int)=some v:=by
  have hj:j < xs.length:=(List.getElem?_eq_some_iff.mp h).1
  have e:f6 xs.length (j:Int)=some j:=by
    unfold f6
    rw [if_pos (by omega),if_pos (by omega)];simp
  unfold cA;rw [e];exact h
noncomputable def fO (b:Expr):Prop:=∀o i,subscripted b false o i=operate [o,i] (getItem o i)
noncomputable def z8 (X:Cx)(r:R2):Prop:=
  ∀ (value slice:Expr) (pins:List (Addr×Obj)) (s:Shared) (σ:St) (H:Hp) (x y:V) (v u:Value) (Q:VK),Inv X pins σ H s→RelV x v→RelV y u→r x y H Q→
    subscripted slice false v u=operate [v,u] (getItem v u)→wpAny (model X.prog X.w) X.A (subscriptTail value slice v u) (EP X pins σ Q) X.xe s
noncomputable def yd (X:Cx)(id:String)(r:V→List V→Hp→VK→Prop):Prop:=
  ∀ (pins:List (Addr×Obj)) (s:Shared) (σ:St) (H:Hp) (x:V) (xs:List V) (v:Value) (us:List Value) (Q:VK),Inv X pins σ H s→RelV x v→Vals xs us→r x xs H Q→
    wpAny (model X.prog X.w) X.A (call (.builtin id) (v::us)) (EP X pins σ Q) X.xe s
section
variable {X:Cx}{a b:Expr}{ta tb:TE}{pos:Pos}
theorem fP {r:R2}(hr:z8 X r)(ha:PE X a ta)(hb:PE X b tb)(hs:fO b):PE X (.Subscript a b pos) (vX r ta tb):=by
  intro pins s σ H Q I h
  exact Subscript_ (uo ha hb I h fun v u s2 x y H2 I2 rx ry q=>hr a b pins s2 σ H2 x y v u Q I2 rx ry q (hs _ _))
noncomputable def DT (K:PySem.W.Frag):R2:=fun x y H Q=>∃p xs i v,x= .ref p∧y= .int i∧bq K H p xs∧cA xs i=some v∧Q v H
noncomputable def DZ (K:PySem.W.Frag):R2:=fun x y H Q=>∃p xs i v,x= .ref p∧y= .int i∧dE K H p xs∧cA xs i=some v∧Q v H
theorem eG:z8 X (DT X.K):=by
  intro value slice pins s σ H x y v u Q I rx ry h hs
  obtain ⟨p,xs,i,z,rfl,rfl,hq,he,q⟩:=h
  cases rx
  obtain ⟨t,rfl⟩:=ry
  obtain ⟨its,r,pl,hz⟩:=I.list hq
  obtain ⟨j,h1,h2,h3,h4,h5⟩:=p9 he
  obtain ⟨w,ew,rw'⟩:=r.get h2
  have hl:=r.length
  have hn:=jf
  have fin:EP X pins σ Q w s:=⟨z,H,I,rw',q⟩
  by_cases h0:0≤i
  · have hj:i.toNat=j:=by
      rw [seqIndex_of h0 h5] at h1
      exact Option.some.inj h1
    exact item_listR pl.isList h0 (by omega) (by rw [hj];simpa using ew) fin hs
  · have hj:(i + (its.toArray.size:Int)).toNat=j:=by
      rw [seqIndex_neg (by omega) h4] at h1
      rw [List.size_toArray,← hl]
      exact Option.some.inj h1
    exact subscriptTail_builtinR (x:=w) pl.isList.typeIs slot_list_getitem.lookup
      (wpAny_getItem_list_neg (Q:=fun r s'=>r=w∧EP X pins σ Q r s') pl.isList (by omega) (by rw [List.size_toArray]<;>omega) (by omega) (by rw [hj];simpa using ew) ⟨rfl,fin⟩) hs
theorem zi:z8 X (DZ X.K):=by
  intro value slice pins s σ H x y v u Q I rx ry h hs
  obtain ⟨p,xs,i,z,rfl,rfl,hq,he,q⟩:=h
  cases rx
  obtain ⟨t,rfl⟩:=ry
  obtain ⟨its,r,pl,hz⟩:=I.tuple hq
  obtain ⟨j,h1,h2,h3,h4,h5⟩:=p9 he
  obtain ⟨w,ew,rw'⟩:=r.get h2
  have hl:=r.length
  have hn:=jf
  have fin:EP X pins σ Q w s:=⟨z,H,I,rw',q⟩
  exact subscriptTail_builtinR (x:=w) pl.typeIs slot_tuple_getitem.lookup
    (getItem_tuple (j:=j) (Q:=fun r s'=>r=w∧EP X pins σ Q r s') pl (by omega) (by omega) (by rw [List.size_toArray,← hl];exact h1) (by simpa using ew) ⟨rfl,fin⟩) hs
theorem qH (its:List Value)(n j:Nat)(u:Value):Obj.mapSeq (·.setIfInBounds j u) {cls:=.type "list",data:=.seq its.toArray n}={cls:=.type "list",data:=.seq (its.set j u).toArray n}:=by
  simp [Obj.mapSeq]
theorem Inv.lst {pins:List (Addr×Obj)}{σ:St}{H:Hp}{s:Shared}{p:Addr}{xs:List V}(I:Inv X pins σ H s)(h:H p=some (.lst xs)):
    ∃(its:List Value) (n:Nat),Vals xs its∧s.heap.get? p=some {cls:=.type "list",data:=.seq its.toArray n}∧xs.length≤sizeLine:=by
  obtain ⟨z,its,n,r,e⟩:=I.hok p _ h
  exact ⟨its,n,r,e,z⟩
theorem Inv.Av {pins:List (Addr×Obj)}{σ:St}{H:Hp}{s:Shared}{p:Addr}{xs ys:List V}{its its':List Value}{n n':Nat}{f:Obj→Obj}(I:Inv X pins σ H s)(h:H p=some (.lst xs))
    (ho:s.heap.get? p=some {cls:=.type "list",data:=.seq its.toArray n}) (hf:f {cls:=.type "list",data:=.seq its.toArray n}={cls:=.type "list",data:=.seq its'.toArray n'}) (r:Vals ys its') (hz:ys.length≤sizeLine) (t:Nat):
    Inv X pins σ (upd H p (.lst ys)) {s with heap:=s.heap.update p f,toks:=t}:=by
  have e:(s.heap.update p f).get? p=some {cls:=.type "list",data:=.seq its'.toArray n'}:=by
    rw [Heap.get?_update_self f ho (by rw [hf]<;>rfl),hf]
  refine I.write (x:=p) (e:=p) (by rw [h];trivial) (.inl rfl) (fun b u hb q=>(Heap.get?_update_other _ _ (Ne.symm hb)).trans q) ⟨_,e⟩ ?_
  exact ⟨hz,its',n',r,e⟩
noncomputable def B5:V→V→V→Hp→(Hp→Prop)→Prop:=fun o i v H Q=>∃p xs k j,o= .ref p∧i= .int k∧H p=some (.lst xs)∧f6 xs.length k=some j∧Q (upd H p (.lst (xs.set j v)))
theorem set_list:z5 X B5:=by
  intro pins s σ H o i v ov iv u Q I ro ri rv h
  obtain ⟨p,xs,k,j,rfl,rfl,hp,hj,q⟩:=h
  cases ro
  obtain ⟨t,rfl⟩:=ri
  obtain ⟨its,n,r,ho,hz⟩:=I.lst hp
  obtain ⟨h1,h2,h3,h4⟩:=lG hj
  have hl:=r.length
  have hn:=jf
  have I':Inv X pins σ (upd H p (.lst (xs.set j v))) {s with heap:=s.heap.update p (Obj.mapSeq (·.setIfInBounds j u))}:=
    I.Av hp ho (qH its n j u) (r.set rv j) (by rw [List.length_set];exact hz) s.toks
  by_cases h0:0≤k
  · have hk:k.toNat=j:=by
      rw [seqIndex_of h0 h4] at h1
      exact Option.some.inj h1
    exact PySem.W.ki_setAt ho h0 (by omega) (by rw [List.size_toArray,← hl];exact h4) (by rw [hk];exact ⟨_,I',q⟩)
  · have hk:(k + (its.toArray.size:Int)).toNat=j:=by
      rw [seqIndex_neg (by omega) h3] at h1
      rw [List.size_toArray,← hl]
      exact Option.some.inj h1
    exact PySem.W.ki_setBack ho (by omega) (by rw [List.size_toArray,← hl];exact h3) (by omega) (by rw [hk];exact ⟨_,I',q⟩)
theorem nu (lo hi:Option Int)(n:Nat):(sliceBounds lo hi none n).1=((HT.sIx n 0 lo:Nat):Int)∧(sliceBounds lo hi none n).2.1=((HT.sIx n n hi:Nat):Int)∧(sliceBounds lo hi none n).2.2=1:=by
  refine ⟨?_,?_,rfl⟩
  · cases lo with
    | none=>simp [sliceBounds,HT.sIx]
    | some i=>
      simp only [sliceBounds,HT.sIx,Option.getD_none,show (1:Int) > 0 by decide,if_true]
      by_cases h:i < 0
      · simp only [h,if_true]<;>omega
      · simp only [h,if_false]<;>omega
  · cases hi with
    | none=>simp [sliceBounds,HT.sIx]
    | some i=>
      simp only [sliceBounds,HT.sIx,Option.getD_none,show (1:Int) > 0 by decide,if_true]
      by_cases h:i < 0
      · simp only [h,if_true]<;>omega
      · simp only [h,if_false]<;>omega
theorem mF (its:List Value)(lo hi:Option Int):slicePick its.toArray lo hi none=((its.drop (HT.sIx its.length 0 lo)).take (HT.sIx its.length its.length hi - HT.sIx its.length 0 lo)).toArray:=by
  obtain ⟨h1,h2,h3⟩:=nu lo hi its.toArray.size
  unfold slicePick
  rw [h1,h2,h3]
  simp only [sliceRange_one,pick_run,List.size_toArray]<;>rfl
noncomputable def DK (K:PySem.W.Frag):V→Option Int→Option Int→Hp→VK→Prop:=fun x lo hi H Q=>∃a xs,x= .ref a∧bq K H a xs∧∀p,H p=none→Q (.ref p) (upd H p (.lst (je xs lo hi)))
theorem pV:Aw X (DK X.K):=by
  intro pins s σ H x v vl vu lo hi sl Q I rx hs pl pu h
  obtain ⟨a,xs,rfl,hx,q⟩:=h
  cases rx
  obtain ⟨its,r,ht,hz⟩:=I.list hx
  have hlen:=r.length
  refine ⟨"list",_,slot_list_getitem.lookup,ht.isList.typeIs,?_⟩
  refine wpAny_getItem_list_slice ht.isList hs pl pu .none (by simp) ?_ (by rw [List.size_toArray]<;>omega)
  rw [mF,← hlen]
  refine ⟨.ref s.heap.objs.size,_,I.laid (t':=s.toks) (o:=.lst (je xs lo hi)) (fun b ob q=>Heap.get?_push_of_some _ q) (Nat.le_refl _) ?_,rfl,q _ (I.hok.fresh (Nat.le_refl _))⟩
  exact ⟨Nat.le_trans (jT xs lo hi) hz,_,0,(r.drop (HT.sIx xs.length 0 lo)).take (HT.sIx xs.length xs.length hi - HT.sIx xs.length 0 lo),Heap.get?_push_size _ rfl⟩
noncomputable def gp:V→Bool
  | .non=>true
  | .bl _=>true
  | .int _=>true
  | .str _=>true
  | _=>false
noncomputable def la:V→V→Bool
  | .non,.non=>true
  | .bl a,.bl b=>a==b
  | .bl a,.int b=>(if a then 1 else 0)==b
  | .int a,.bl b=>a==(if b then 1 else 0)
  | .int a,.int b=>a==b
  | .str a,.str b=>a==b
  | _,_=>false
theorem zK {A:Around}{s:Shared}{y x:V}{u v:Value}(ry:RelV y u)(rx:RelV x v)(fy:gp y=true)(fx:gp x=true):SeqAt.EqAt A s u v (la y x):=by
  cases y with
  | non=>
    cases ry
    cases x with
    | non=>cases rx;exact SeqAt.EqAt.same _
    | bl b=>cases rx;exact SeqAt.EqAt.none_bool b
    | int b=>obtain ⟨t,rfl⟩:=rx;exact SeqAt.EqAt.none_int b t
    | str b=>obtain ⟨t,rfl⟩:=rx;exact SeqAt.EqAt.none_str b t
    | _=>exact absurd (show false=true from fx) Bool.false_ne_true
  | bl a=>
    cases ry
    cases x with
    | non=>cases rx;exact SeqAt.EqAt.bool_none a
    | bl b=>cases rx;exact SeqAt.EqAt.bool_bool a b
    | int b=>obtain ⟨t,rfl⟩:=rx;exact SeqAt.EqAt.bool_int a b t
    | str b=>obtain ⟨t,rfl⟩:=rx;exact SeqAt.EqAt.bool_str a b t
    | _=>exact absurd (show false=true from fx) Bool.false_ne_true
  | int a=>
    obtain ⟨t',rfl⟩:=ry
    cases x with
    | non=>cases rx;exact SeqAt.EqAt.int_none a t'
    | bl b=>cases rx;exact SeqAt.EqAt.int_bool a t' b
    | int b=>obtain ⟨t,rfl⟩:=rx;exact SeqAt.EqAt.int_int a t' b t
    | str b=>obtain ⟨t,rfl⟩:=rx;exact SeqAt.EqAt.int_str a t' b t
    | _=>exact absurd (show false=true from fx) Bool.false_ne_true
  | str a=>
    obtain ⟨t',rfl⟩:=ry
    cases x with
    | non=>cases rx;exact SeqAt.EqAt.str_none a t'
    | bl b=>cases rx;exact SeqAt.EqAt.str_bool a t' b
    | int b=>obtain ⟨t,rfl⟩:=rx;exact SeqAt.EqAt.str_int a t' b t
    | str b=>obtain ⟨t,rfl⟩:=rx;exact SeqAt.EqAt.str_str a t' b t
    | _=>exact absurd (show false=true from fx) Bool.false_ne_true
  | _=>exact absurd (show false=true from fy) Bool.false_ne_true
noncomputable def gW (x:V)(u:Value):Bool:=match u with
  | .none=>la .non x
  | .bool b=>la (.bl b) x
  | .int i _=>la (.int i) x
  | .str z _=>la (.str z) x
  | _=>false
theorem rD {x y:V}{u:Value}(r:RelV y u)(f:gp y=true):gW x u=la y x:=by
  cases y with
  | non=>cases r;rfl
  | bl b=>cases r;rfl
  | int i=>obtain ⟨t,rfl⟩:=r;rfl
  | str z=>obtain ⟨t,rfl⟩:=r;rfl
  | _=>exact absurd (show false=true from f) Bool.false_ne_true
theorem ir {x:V}:∀{xs:List V} {us:List Value},Vals xs us→xs.all gp=true→us.any (gW x)=xs.any fun y=>la y x
  | _,_,.nil,_=>rfl
  | y::xs,u::us,.cons r t,f=>by
    rw [List.all_cons,Bool.and_eq_true] at f
    rw [List.any_cons,List.any_cons,rD r f.1,ir t f.2]
theorem gM {A:Around}{s:Shared}{x:V}{v:Value}(rx:RelV x v)(fx:gp x=true):∀{xs:List V} {us:List Value},Vals xs us→xs.all gp=true→∀u∈us,SeqAt.EqAt A s u v (gW x u)
  | _,_,.nil,_=>fun u hu=>by cases hu
  | y::xs,u::us,.cons r t,f=>fun u' hu=>by
    rw [List.all_cons,Bool.and_eq_true] at f
    rcases List.mem_cons.mp hu with rfl | hu
    · rw [rD r f.1];exact zK r rx f.1 fx
    · exact gM rx fx t f.2 u' hu
noncomputable def wy (x:V)(xs:List V):Bool:=xs.any fun y=>la y x
noncomputable def Dl (K:PySem.W.Frag)(neg:Bool):R2:=fun x y H Q=>∃p xs,y= .ref p∧(bq K H p xs∨dE K H p xs)∧gp x=true∧xs.all gp=true∧Q (.bl (if neg then !wy x xs else wy x xs)) H
theorem sE:dm X (compareOp .In) (Dl X.K false):=by
  intro pins s σ H x y v u Q I rx ry h
  obtain ⟨p,xs,rfl,hq,fx,fs,q⟩:=h
  cases ry
  rcases hq with hq | hq
  · obtain ⟨its,r,pl,hz⟩:=I.list hq
    refine SeqAt.in_listAt (gW x) pl.isList (fun w hw=>gM rx fx r fs w (by simpa using hw)) ⟨.bl _,H,I,rfl,?_⟩
    rw [show its.toArray.any (gW x)=its.any (gW x) by simp,ir r fs]
    exact q
  · obtain ⟨its,r,pl,hz⟩:=I.tuple hq
    refine SeqAt.in_tupleAt (gW x) pl (fun w hw=>gM rx fx r fs w (by simpa using hw)) ⟨.bl _,H,I,rfl,?_⟩
    rw [show its.toArray.any (gW x)=its.any (gW x) by simp,ir r fs]
    exact q
theorem nZ:dm X (compareOp .NotIn) (Dl X.K true):=by
  intro pins s σ H x y v u Q I rx ry h
  obtain ⟨p,xs,rfl,hq,fx,fs,q⟩:=h
  cases ry
  rcases hq with hq | hq
  · obtain ⟨its,r,pl,hz⟩:=I.list hq
    refine SeqAt.notIn_listAt (gW x) pl.isList (fun w hw=>gM rx fx r fs w (by simpa using hw)) ⟨.bl _,H,I,rfl,?_⟩
    rw [show its.toArray.any (gW x)=its.any (gW x) by simp,ir r fs]
    exact q
  · obtain ⟨its,r,pl,hz⟩:=I.tuple hq
    refine SeqAt.notIn_tupleAt (gW x) pl (fun w hw=>gM rx fx r fs w (by simpa using hw)) ⟨.bl _,H,I,rfl,?_⟩
    rw [show its.toArray.any (gW x)=its.any (gW x) by simp,ir r fs]
    exact q
theorem eu:dk X (.builtin "len") (fun xs H Q=>∃p ys,xs=[.ref p]∧(bq X.K H p ys∨dE X.K H p ys)∧Q (.int ys.length) H):=by
  intro pins s σ H xs us Q I r h
  obtain ⟨p,ys,rfl,hq,q⟩:=h
  obtain ⟨u,rfl,rx⟩:=vals1 r
  cases rx
  have hn:=jf
  rcases hq with hq | hq
  · obtain ⟨its,r',pl,hz⟩:=I.list hq
    have hlen:=r'.length
    exact Calls.call_len_list pl.isList (by simp only [List.size_toArray]<;>omega) ⟨.int ys.length,H,I.tok _,⟨s.toks + 1,by rw [List.size_toArray,hlen]⟩,q⟩
  · obtain ⟨its,r',pl,hz⟩:=I.tuple hq
    have hlen:=r'.length
    exact len_tuple pl (by simp only [List.size_toArray]<;>omega) ⟨.int ys.length,H,I.tok _,⟨s.toks + 1,by rw [List.size_toArray,hlen]⟩,q⟩
theorem jc:dk X (.type "list") (fun xs H Q=>∃p ys,xs=[.ref p]∧(bq X.K H p ys∨dE X.K H p ys)∧∀l,H l=none→Q (.ref l) (upd H l (.lst ys))):=by
  intro pins s σ H xs us Q I r h
  obtain ⟨p,ys,rfl,hq,q⟩:=h
  obtain ⟨u,rfl,rx⟩:=vals1 r
  cases rx
  have fin:∀(its:List Value),Vals ys its→ys.length≤sizeLine→∀(h':Heap) (c':Nat),(∀b o',s.heap.get? b=some o'→h'.get? b=some o')→
      h'.get? s.heap.objs.size=some {cls:=.type "list",dict:=none,data:=.seq its.toArray c',slots:= #[]}→EP X pins σ Q (.ref s.heap.objs.size) {s with heap:=h'}:=fun its r' hz h' c' kp e=>
    ⟨.ref s.heap.objs.size,_,I.laid (t':=s.toks) kp (Nat.le_refl _) (show bK X.prog X.w _ h' _ (.lst ys) from ⟨hz,its,c',r',e⟩),rfl,q _ (I.hok.fresh (Nat.le_refl _))⟩
  rcases hq with hq | hq
  · obtain ⟨its,r',pl,hz⟩:=I.list hq
    have hlen:=r'.length
    obtain ⟨o,ho,hc,n,hd⟩:=pl.isList
    exact call_list_seq p (.inl rfl) ho hc hd (fun h' c' kp e=>fin its r' hz h' c' kp e) (by simp only [List.size_toArray]<;>omega)
  · obtain ⟨its,r',pl,hz⟩:=I.tuple hq
    have hlen:=r'.length
    obtain ⟨o,ho,hc,n,hd⟩:=pl
    exact call_list_seq p (.inr rfl) ho hc hd (fun h' c' kp e=>fin its r' hz h' c' kp e) (by simp only [List.size_toArray]<;>omega)
theorem mB:dk X (.type "tuple") (fun xs H Q=>∃p ys,xs=[.ref p]∧((bq X.K H p ys∧∀l,H l=none→Q (.ref l) (upd H l (.tup ys)))∨(dE X.K H p ys∧Q (.ref p) H))):=by
  intro pins s σ H xs us Q I r h
  obtain ⟨p,ys,rfl,h⟩:=h
  obtain ⟨u,rfl,rx⟩:=vals1 r
  cases rx
  rcases h with ⟨hq,q⟩ | ⟨hq,q⟩
  · obtain ⟨its,r',pl,hz⟩:=I.list hq
    have hlen:=r'.length
    refine call_tuple_list pl.isList (fun h' kp=>?_) (by simp only [List.size_toArray]<;>omega)
    have I1:Inv X pins σ H {s with heap:=h'}:=I.kept (t':=s.toks) kp
    have I2:Inv X pins σ (upd H h'.objs.size (.tup ys)) {s with heap:=h'.push {cls:=.type "tuple",data:=.seq its.toArray}}:=
      I1.laid (t':=s.toks) (fun b o e=>Heap.get?_push_of_some _ e) (Nat.le_refl _) (show bK X.prog X.w _ _ _ (.tup ys) from ⟨hz,its,r',IsTup.new _ _⟩)
    exact ⟨.ref h'.objs.size,_,I2,rfl,q _ (I1.hok.fresh (Nat.le_refl _))⟩
  · obtain ⟨its,r',pl,hz⟩:=I.tuple hq
    exact call_tuple_same pl ⟨.ref p,H,I,rfl,q⟩
noncomputable def yF (K:PySem.W.Frag)(T:String)(x:V)(H:Hp):Prop:=match x with
  | .str _=>T="str"
  | .int _=>T="int"
  | .ref p=>(T="list"∧∃xs,bq K H p xs)∨(T="tuple"∧∃o,K.lookup p=some o∧o.cls= .type "tuple"∧o.dict=none)∨
      (T="dict"∧((∃kvs,H p=some (.dK kvs))∨∃kvs,H p=some (.dT kvs)))∨(T="set"∧∃S n,H p=some (.set S n))
  | _=>False
theorem sX {pins:List (Addr×Obj)}{σ:St}{H:Hp}{s:Shared}{T:String}{x:V}{v:Value}(I:Inv X pins σ H s)(r:RelV x v)(ty:yF X.K T x H):
    s.TypeIs v T∧∀a,v= .ref a→∃ob,s.heap.get? a=some ob∧ob.dict=none:=by
  cases x with
  | str z=>
    obtain ⟨t,rfl⟩:=r
    cases (show T="str" from ty)
    exact ⟨typeIs_str s z t,fun _ e=>nomatch e⟩
  | int i=>
    obtain ⟨t,rfl⟩:=r
    cases (show T="int" from ty)
    exact ⟨typeIs_int s i t,fun _ e=>nomatch e⟩
  | ref p =>
    cases r
    rcases ty with ⟨rfl,xs,hq⟩ | ⟨rfl,o,hk,hc,hd⟩ | ⟨rfl,hk⟩ | ⟨rfl,S,n,hk⟩
    · obtain ⟨its,_,pl,_⟩:=I.list hq
      refine ⟨pl.isList.typeIs,fun a e=>?_⟩
      cases e
      obtain ⟨o,n,e,c,hd,_⟩:=pl
      exact ⟨o,e,hd⟩
    · refine ⟨⟨o,I.dj p o hk,hc⟩,fun a e=>?_⟩
      cases e
      exact ⟨o,I.dj _ o hk,hd⟩
    · have z:∃o,s.heap.get? p=some o∧o.ExactDict:=by
        rcases hk with ⟨kvs,hk⟩ | ⟨kvs,hk⟩
        · obtain ⟨_,_,_,_,o,_,_,e,ex,_⟩:=I.hok p _ hk
          exact ⟨o,e,ex⟩
        · obtain ⟨_,_,_,_,o,_,_,e,ex,_⟩:=I.hok p _ hk
          exact ⟨o,e,ex⟩
      obtain ⟨o,e,ex⟩:=z
      refine ⟨⟨o,e,ex.1⟩,fun a e2=>?_⟩
      cases e2
      exact ⟨o,e,ex.2.1⟩
    · obtain ⟨o,_,_,_,e,ex,_⟩:=I.hok p _ hk
      refine ⟨⟨o,e,ex.1⟩,fun a e2=>?_⟩
      cases e2
      exact ⟨o,e,ex.2.1⟩
  | _=>exact False.elim ty
noncomputable def DP (K:PySem.W.Frag)(T:String)(r:V→List V→Hp→VK→Prop)(to:TE):TE:=fun σ H Q=>to σ H fun x H1=>yF K T x H1∧r x [] H1 Q
noncomputable def tBM (K:PySem.W.Frag)(T:String)(r:V→List V→Hp→VK→Prop)(to:TE)(t:TA):TE:=fun σ H Q=>to σ H fun x H1=>yF K T x H1∧t σ H1 fun xs H2=>r x xs H2 Q
variable {o e:Expr}{es:List Expr}{to:TE}{t:TA}{name:Str}{apos cpos:Pos}{T id:String}{r:V→List V→Hp→VK→Prop}
theorem yA (pa:PlainAttrs T)(slot:Slot T name id)(hty:typeOf (.builtin id)=pure (.type "method_descriptor"))(hm:yd X id r)(ho:PE X o to)
    (hbase:autoParam (attributeBase o name X.env (eval o X.env)=eval o X.env) Fc.ai) (hline:autoParam ((apos.endLine==cpos.line)=true) Fc.ai):PE X (.Call (.Attribute o name apos) [] [] cpos) (DP X.K T r to):=by
  intro pins s σ H Q I h
  refine wpAny_Call_method0_late hbase hline (aR (ho pins s σ H _ I h) fun v s1 ⟨x,H1,I1,r1,ty,q1⟩=>?_)
  obtain ⟨h1,h2⟩:=sX I1 r1 ty
  exact ⟨T,id,pa,slot,hty,h1,h2,Calls.callWith_builtin rfl (PySem.evalArgs_none (hm pins s1 σ H1 x [] v [] Q I1 r1 .nil q1))⟩
theorem kR (pa:PlainAttrs T)(slot:Slot T name id)(hty:typeOf (.builtin id)=pure (.type "method_descriptor"))(hm:yd X id r)(ho:PE X o to)(ha:PA X (e::es) t)
    (hbase:autoParam (attributeBase o name X.env (eval o X.env)=eval o X.env) Fc.ai)
    (hfew:autoParam (((backTo cpos (starEach (e::es) X.env)).all (fun x=> !x.1)&&(backToKw cpos (keywordEach [] X.env)).all (fun x=>x.1.isSome)
      &&decide ((e::es).length + ([]:List Keyword).length + (if ([]:List Keyword).isEmpty then 0 else 1) < 30))=true) Fc.ai)
    (hline:autoParam ((apos.endLine==cpos.line)=true) Fc.ai) (hs:autoParam (starEach (e::es) X.env=(false,eval e X.env)::starEach es X.env) Fc.ai) (hplain:autoParam ((backTo cpos (starEach es X.env)).any (·.1)=false) Fc.ai):
    PE X (.Call (.Attribute o name apos) (e::es) [] cpos) (tBM X.K T r to t):=by
  intro pins s σ H Q I h
  refine wpAny_Call_method_late hbase hfew hline rfl (aR (ho pins s σ H _ I h) fun v s1 ⟨x,H1,I1,r1,ty,q1⟩=>?_)
  obtain ⟨h1,h2⟩:=sX I1 r1 ty
  refine ⟨T,id,pa,slot,hty,h1,h2,?_⟩
  have hA:=ha cpos pins s1 σ H1 _ I1 q1
  rw [hs] at hA ⊢
  refine Calls.callWith_builtin (by show (false ||(backTo cpos (starEach es X.env)).any (·.1))=false;rw [hplain]<;>rfl) (Calls.evalArgs_plain ?_)
  exact aR hA fun us s2 ⟨vs,H2,I2,r2,q2⟩=>hm pins s2 σ H2 x vs v us Q I2 r1 r2 q2
end
noncomputable def wm (X:Cx)(id:String)(r:V→List V→Hp→VK→Prop):Prop:=
  ∀ (pins:List (Addr×Obj)) (s:Shared) (σ:St) (H:Hp) (x:V) (xs:List V) (v:Value) (us:List Value) (Q:VK),Inv X pins σ H s→RelV x v→Vals xs us→r x xs H Q→
    wpAny (model X.prog X.w) X.A (call (.builtin id) (v::us)) (EP X pins σ Q) X.xe s
theorem Vals.one:∀{x:V} {us:List Value},Vals [x] us→∃u,us=[u]∧RelV x u
  | _,_,.cons r .nil=>⟨_,rfl,r⟩
theorem Vals.zero:∀{us:List Value},Vals [] us→us=[]
  | _,.nil=>rfl
theorem Vals.dropLast {xs:List V}{us:List Value}(h:Vals xs us):Vals xs.dropLast us.dropLast:=by
  induction h with
  | nil=>exact .nil
  | cons r t ih=>
    cases t with
    | nil=>exact .nil
    | cons q t'=>exact .cons r ih
theorem Vals.rep {xs:List V}{us:List Value}(h:Vals xs us):∀k:Nat,Vals (List.replicate k xs).flatten (List.replicate k us).flatten
  | 0=>.nil
  | k + 1=>by
    rw [List.replicate_succ,List.replicate_succ,List.flatten_cons,List.flatten_cons]
    exact Vals.append h (Vals.rep h k)
theorem qK {α:Type}(l:List α):l.eraseIdx (l.length - 1)=l.dropLast:=by
  induction l with
  | nil=>rfl
  | cons a r ih=>
    cases r with
    | nil=>rfl
    | cons b r=>
      have e:(a::b::r).length - 1=((b::r).length - 1) + 1:=by
        have h1:(a::b::r).length=r.length + 2:=rfl
        have h2:(b::r).length=r.length + 1:=rfl
        omega
      rw [e,List.eraseIdx_cons_succ,ih]
      all_goals rfl
theorem foldl_rep (its:List Value):∀(k:Nat) (acc:List Value),
    List.foldl (fun x1 x2=>x1++x2) acc.toArray (List.replicate k its.toArray)=(acc++(List.replicate k its).flatten).toArray
  | 0,acc=>by simp
  | k + 1,acc=>by
    have e:acc.toArray++its.toArray=(acc++its).toArray:=by simp
    have e2:(acc++its)++(List.replicate k its).flatten=acc++(List.replicate (k + 1) its).flatten:=by
      rw [List.replicate_succ,List.flatten_cons,List.append_assoc]
    rw [← e2,← foldl_rep its k (acc++its),← e,List.replicate_succ,List.foldl_cons]
section
variable {X:Cx}{pins:List (Addr×Obj)}{σ:St}{H:Hp}{s:Shared}{l b:Addr}{xs ys zs:List V}
theorem Inv.qA {its its':List Value}{n:Nat}{f:Array Value→Array Value}{t':Nat}(I:Inv X pins σ H s)(hH:H l=some (.lst xs))
    (e:s.heap.get? l=some {cls:=.type "list",data:=.seq its.toArray n}) (hf:f its.toArray=its'.toArray) (hv:Vals ys its') (hz:ys.length≤sizeLine):
    Inv X pins σ (upd H l (.lst ys)) {s with heap:=s.heap.update l (Obj.mapSeq f),toks:=t'}:=by
  have q:=PySem.IsL.update e f
  rw [hf] at q
  refine I.write (x:=l) (e:=l) (by rw [hH];exact trivial) (.inl rfl) (fun b' u hb hu=>(Heap.get?_update_other s.heap (Obj.mapSeq f) (Ne.symm hb)).trans hu) ⟨_,q⟩ ?_
  exact ⟨hz,its',_,hv,q⟩
theorem Inv.zI {its:List Value}{t':Nat}(I:Inv X pins σ H s)(hv:Vals ys its)(hz:ys.length≤sizeLine):
    Inv X pins σ (upd H s.heap.objs.size (.lst ys)) {s with heap:=s.heap.push {cls:=.type "list",data:=.seq its.toArray},toks:=t'}:=
  I.laid (fun _ _ q=>Heap.get?_push_of_some _ q) (Nat.le_refl _) ⟨hz,its,0,hv,Heap.get?_push_size _ rfl⟩
theorem Inv.fresh (I:Inv X pins σ H s):H s.heap.objs.size=none:=I.hok.fresh (Nat.le_refl _)
theorem Inv.jr (I:Inv X pins σ H s)(hH:H l=some (.lst xs)):xs.length≤sizeLine∧∃(its:List Value) (n:Nat),Vals xs its∧xs.length=its.length∧s.heap.get? l=some {cls:=.type "list",data:=.seq its.toArray n}:=by
  obtain ⟨z,its,n,r,e⟩:=I.hok l _ hH
  exact ⟨z,its,n,r,r.length,e⟩
theorem uf {n:Nat}(h:n≤sizeLine):Builtin.List.listTooLong n=false:=by
  unfold Builtin.List.listTooLong
  exact decide_eq_false (by omega)
end
section
variable {X:Cx}
noncomputable def xG:V→List V→Hp→VK→Prop:=fun x vs H Q=>∃l xs y,x= .ref l∧vs=[y]∧H l=some (.lst xs)∧xs.length < sizeLine∧Q .non (upd H l (.lst (xs++[y])))
theorem mx:wm X "list.append" xG:=by
  intro pins s σ H x vs v us Q I rx rv h
  obtain ⟨l,xs,y,rfl,rfl,hH,hz,q⟩:=h
  cases rx
  obtain ⟨u,rfl,ru⟩:=rv.one
  obtain ⟨z,its,n,r,hl,e⟩:=I.jr hH
  refine call_meets F.slot_list_append ⟨_,e,rfl⟩ F.entry_list_append (F.args_list_append_2 _ _) (PySem.list_append l its.toArray n u (by rw [List.size_toArray];omega)) ⟨e,?_⟩
  refine ⟨.non,_,I.qA (its':=its++[u]) hH e (by simp) (r.append (.cons ru .nil)) ?_,rfl,q⟩
  rw [List.length_append,List.length_singleton]
  omega
noncomputable def Dy:V→List V→Hp→VK→Prop:=fun x vs H Q=>∃l xs y,x= .ref l∧vs=[]∧H l=some (.lst xs)∧xs[xs.length - 1]?=some y∧Q y (upd H l (.lst xs.dropLast))
theorem yK:wm X "list.pop" Dy:=by
  intro pins s σ H x vs v us Q I rx rv h
  obtain ⟨l,xs,y,rfl,rfl,hH,hy,q⟩:=h
  cases rx
  have hus:=rv.zero
  subst hus
  obtain ⟨z,its,n,r,hl,e⟩:=I.jr hH
  obtain ⟨u,hu,ru⟩:=r.get hy
  have hy':its.toArray[its.toArray.size - 1]?=some u:=by
    show its.toArray[its.length - 1]?=some u
    rw [← Array.getElem?_toList,← hl]
    exact hu
  refine call_meets F.slot_list_pop ⟨_,e,rfl⟩ F.entry_list_pop (F.args_list_pop_1 _) (MeetsSeq.list_pop_last l its.toArray n u hy' (by rw [List.size_toArray];omega)) ⟨e,?_⟩
  refine ⟨y,_,I.qA (its':=its.dropLast) hH e ?_ r.dropLast ?_,ru,q⟩
  · show its.toArray.eraseIdxIfInBounds (its.toArray.size - 1)=its.dropLast.toArray
    rw [List.size_toArray,List.eraseIdxIfInBounds_toArray,qK]
  · rw [List.length_dropLast]
    omega
noncomputable def Ao:R2:=fun x y H Q=>∃l b xs zs,x= .ref l∧y= .ref b∧H l=some (.lst xs)∧H b=some (.lst zs)∧xs.length + zs.length≤sizeLine∧∀p,H p=none→Q (.ref p) (upd H p (.lst (xs++zs)))
theorem tM:dm X (binaryOp .Add) Ao:=by
  intro pins s σ H x y v u Q I rx ry h
  obtain ⟨l,b,xs,zs,rfl,rfl,hH,hB,hz,q⟩:=h
  cases rx
  cases ry
  obtain ⟨z,its,n,r,hl,e⟩:=I.jr hH
  obtain ⟨z2,its2,n2,r2,hl2,e2⟩:=I.jr hB
  refine PySem.P.add_list e e2 ?_ (by rw [List.size_toArray,List.size_toArray];omega)
  have ea:its.toArray++its2.toArray=(its++its2).toArray:=by simp
  rw [ea]
  exact ⟨.ref _,_,I.zI (t':=s.toks) (r.append r2) (by rw [List.length_append];omega),rfl,q _ I.fresh⟩
noncomputable def DC:R2:=fun x y H Q=>∃l k xs,x= .ref l∧y= .int k∧H l=some (.lst xs)∧ -(2 ^ 63)≤k∧k < 2 ^ 63∧xs.length * k.toNat≤sizeLine∧
  ∀p,H p=none→Q (.ref p) (upd H p (.lst (List.replicate k.toNat xs).flatten))
theorem len_rep {α:Type}(xs:List α)(k:Nat):(List.replicate k xs).flatten.length=k * xs.length:=by
  induction k with
  | zero=>simp
  | succ k ih=>rw [List.replicate_succ,List.flatten_cons,List.length_append,ih,Nat.succ_mul,Nat.add_comm]
theorem zy:dm X (binaryOp .Mult) DC:=by
  intro pins s σ H x y v u Q I rx ry h
  obtain ⟨l,k,xs,rfl,rfl,hH,h1,h2,hz,q⟩:=h
  cases rx
  obtain ⟨t,rfl⟩:=ry
  obtain ⟨z,its,n,r,hl,e⟩:=I.jr hH
  have hlen:its.toArray.size * k.toNat≤sizeLine:=by rw [List.size_toArray,← hl];exact hz
  have hcap:¬its.toArray.size * k.toNat > (2 ^ 63 - 1) / 8:=by
    have:(sizeLine:Nat)≤(2 ^ 63 - 1) / 8:=by decide
    omega
  have hfit:¬(!Builtin.List.listFitsIndex k)=true:=by
    rw [fitsIndex_both h1 h2]
    exact Bool.false_ne_true
  have hlong:¬Builtin.List.listTooLong (its.toArray.size * k.toNat)=true:=by
    rw [uf hlen]
    exact Bool.false_ne_true
  have hnew:List.foldl (fun x1 x2=>x1++x2) #[] (List.replicate (if its.toArray.isEmpty=true then 0 else k.toNat) its.toArray)=(List.replicate k.toNat its).flatten.toArray:=by
    have f0:∀m:Nat,List.foldl (fun x1 x2=>x1++x2) #[] (List.replicate m its.toArray)=(List.replicate m its).flatten.toArray:=fun m=>by
      have:=foldl_rep its m []
      rw [List.nil_append] at this
      exact this
    rw [f0]
    cases its with
    | nil=>simp
    | cons a r'=>rw [if_neg (by simp)]
  refine wpAny_binaryOp_repeat_ref (T:="list") (U:="int") (by decide) ⟨_,e,rfl⟩ (fun s'=>typeIs_int s' k t) noFill_list_mul F.fills_int_mul F.slot_int_rmul repeat_list F.slot_int_index.lookup
    (call_meets F.slot_int_rmul (typeIs_int s k t) F.entry_int_rmul (F.args_int_rmul_2 _ _) (int___rmul___int_list k t l its.toArray n)
      ⟨e,rfl,⟨_,e,rfl⟩,call_meets F.slot_list_mul ⟨_,e,rfl⟩ F.entry_list_mul (F.args_list_mul_2 _ _) (AutoListH.list___mul___list_int_3 l its.toArray n k t hfit hcap hlong) ⟨e,?_⟩⟩)
  rw [hnew]
  exact ⟨.ref _,_,I.zI (t':=s.toks) (r.rep k.toNat) (by rw [len_rep,Nat.mul_comm];exact hz),rfl,q _ I.fresh⟩
end
section
variable {prog:Program}{w:World}{A:Around}{E:Value→Shared→Prop}{s:Shared}
end
section
variable {X:Cx}
end
section
variable {κ:Type} [DecidableEq κ]
noncomputable def cJ (kvs:List (κ×V))(k:κ):Option V:=(kvs.find? fun kv=>decide (kv.1=k)).map (·.2)
noncomputable def putK (kvs:List (κ×V))(k:κ)(v:V):List (κ×V):=
  if (kvs.any fun kv=>decide (kv.1=k))=true then kvs.map (fun kv=>if kv.1=k then (kv.1,v) else kv) else kvs++[(k,v)]
theorem cT {p:κ×V}{r:List (κ×V)}{k:κ}(e:p.1=k):cJ (p::r) k=some p.2:=by simp [cJ,List.find?_cons,e]
theorem cS {p:κ×V}{r:List (κ×V)}{k:κ}(e:¬p.1=k):cJ (p::r) k=cJ r k:=by simp [cJ,List.find?_cons,e]
theorem e8 (k:κ):∀kvs:List (κ×V),(kvs.any fun kv=>decide (kv.1=k))=(cJ kvs k).isSome
  | []=>rfl
  | p::r=>by
    rw [List.any_cons]
    by_cases e:p.1=k
    · simp only [cT e,decide_eq_true e,Bool.true_or,Option.isSome_some]
    · rw [cS e,decide_eq_false e,Bool.false_or];exact e8 k r
theorem nK (k j:κ)(y:V):∀kvs:List (κ×V),cJ (kvs.map fun kv=>if kv.1=k then (kv.1,y) else kv) j=(cJ kvs j).map fun x=>if j=k then y else x
  | []=>rfl
  | p ::r=>by
    have ih:=nK k j y r
    rw [List.map_cons]
    by_cases h:p.1=k
    · rw [if_pos h]
      by_cases e:p.1=j
      · rw [cT (p:=(p.1,y)) e,cT e,Option.map_some,if_pos (e.symm.trans h)]
      · rw [cS (p:=(p.1,y)) e,cS e,ih]
    · rw [if_neg h]
      by_cases e:p.1=j
      · rw [cT (p:=p) e,cT e,Option.map_some,if_neg (fun z=>h (e.trans z))]
      · rw [cS (p:=p) e,cS e,ih]
theorem mm (k j:κ)(y:V):∀kvs:List (κ×V),cJ kvs k=none→cJ (kvs++[(k,y)]) j=if j=k then some y else cJ kvs j
  | [],_=>by
    by_cases e:k=j
    · rw [if_pos e.symm];exact cT (p:=(k,y)) e
    · rw [if_neg (fun z=>e z.symm)];exact cS (p:=(k,y)) e
  | p::r,hn=>by
    rw [List.cons_append]
    have hk:¬p.1=k:=fun z=>by rw [cT z] at hn;cases hn
    rw [cS hk] at hn
    have ih:=mm k j y r hn
    by_cases e:p.1=j
    · rw [cT e,cT e,if_neg (fun z=>hk (e.trans z))]
    · rw [cS e,cS e,ih]
theorem va (kvs:List (κ×V))(k j:κ)(y:V):cJ (putK kvs k y) j=if j=k then some y else cJ kvs j:=by
  unfold putK
  by_cases a:(kvs.any fun kv=>decide (kv.1=k))=true
  · rw [if_pos a,nK]
    rw [e8] at a
    by_cases e:j=k
    · obtain ⟨x,hx⟩:=Option.isSome_iff_exists.mp a
      rw [if_pos e,e,hx,Option.map_some,if_pos rfl]
    · rw [if_neg e]
      cases cJ kvs j with
      | none=>rfl
      | some x=>rw [Option.map_some,if_neg e]
  · rw [if_neg a]
    refine mm k j y kvs ?_
    rw [e8] at a
    cases q:cJ kvs k with
    | none=>rfl
    | some x=>rw [q] at a;exact (a rfl).elim
theorem ib (kvs:List (κ×V))(k:κ)(v:V):(putK kvs k v).length≤kvs.length + 1:=by
  unfold putK
  split
  · rw [List.length_map];omega
  · rw [List.length_append,List.length_cons,List.length_nil];omega
theorem vf {kvs:List (κ×V)}{k:κ}(v:V)(h:cJ kvs k=none):putK kvs k v=kvs++[(k,v)]:=by
  unfold putK
  rw [e8,h]
  exact if_neg (by decide)
theorem gO.fY {o:Option V}{u:Option Value}(r:gO o u):o.isSome=u.isSome:=by
  cases o with
  | none=>cases u with
    | none=>rfl
    | some _=>exact (show False from r).elim
  | some _=>cases u with
    | none=>exact (show False from r).elim
    | some _=>rfl
theorem KV.val {kvs:List (κ×V)}{vs:List (κ×Value)}(r:KV kvs vs)(k:κ):gO (cJ kvs k) (valueAt vs k):=by
  unfold KV at r
  induction r with
  | nil=>exact True.intro
  | @cons p q ps qs h t ih=>
    obtain ⟨h1,h2⟩:=h
    by_cases e:p.1=k
    · have e':q.1=k:=h1.symm.trans e
      have b:valueAt (q::qs) k=some q.2:=by simp [valueAt,List.find?_cons,e']
      rw [cT e,b];exact h2
    · have e':¬q.1=k:=fun z=>e (h1.trans z)
      have b:valueAt (q::qs) k=valueAt qs k:=by simp [valueAt,List.find?_cons,e']
      rw [cS e,b];exact ih
theorem KV.any {kvs:List (κ×V)}{vs:List (κ×Value)}(r:KV kvs vs)(k:κ):(kvs.any fun kv=>decide (kv.1=k))=vs.any fun kv=>decide (kv.1=k):=by
  unfold KV at r
  induction r with
  | nil=>rfl
  | cons h t ih=>rw [List.any_cons,List.any_cons,ih,h.1]
theorem KV.uA {kvs:List (κ×V)}{vs:List (κ×Value)}(r:KV kvs vs)(k:κ){y:V}{u:Value}(ry:RelV y u):
    KV (kvs.map fun kv=>if kv.1=k then (kv.1,y) else kv) (vs.map fun kv=>if kv.1=k then (kv.1,u) else kv):=by
  unfold KV at r ⊢
  induction r with
  | nil=>exact .nil
  | @cons p q ps qs h t ih=>
    rw [List.map_cons,List.map_cons]
    refine .cons ?_ ih
    obtain ⟨h1,h2⟩:=h
    by_cases e:p.1=k
    · rw [if_pos e,if_pos (h1.symm.trans e)];exact ⟨h1,ry⟩
    · rw [if_neg e,if_neg (fun z=>e (h1.trans z))];exact ⟨h1,h2⟩
theorem KV.put {kvs:List (κ×V)}{vs:List (κ×Value)}(r:KV kvs vs)(k:κ){y:V}{u:Value}(ry:RelV y u):KV (putK kvs k y) (stored vs k u):=by
  unfold putK stored
  rw [r.any k]
  by_cases e:(vs.any fun kv=>decide (kv.1=k))=true
  · rw [if_pos e,if_pos e];exact r.uA k ry
  · rw [if_neg e,if_neg e];exact Paired.snoc r ⟨rfl,ry⟩
theorem KV.length {kvs:List (κ×V)}{vs:List (κ×Value)}(r:KV kvs vs):kvs.length=vs.length:=Paired.length r
end
theorem jx {P:Program}{w:World}{k:Key}{u:Value}(r:RelV (kV k) u):(cE P w).is k u=true:=by
  cases k with
  | inl i=>obtain ⟨t,e⟩:=(show∃t,u=Value.int i t from r);subst e;exact oY P w i t
  | inr x=>obtain ⟨t,e⟩:=(show∃t,u=Value.str x t from r);subst e;exact oU P w x t
theorem mv {P:Program}{w:World}:∀{ks:List Key} {us:List Value},Vals (ks.map kV) us→ItemsAre (cE P w) ks us
  | [],_,r=>by rw [List.map_nil] at r;cases r;exact .nil
  | k::ks,_,r=>by
    rw [List.map_cons] at r
    cases r with
    | cons h t=>exact .cons (jx h) (mv t)
noncomputable abbrev KT (H:Hp):List (List Key×V)→List (List Key×Addr×Value)→Prop:=Paired fun p q=>p.1=q.1∧H q.2.1=some (.tup (p.1.map kV))∧RelV p.2 q.2.2
theorem KT.val {H:Hp}{kvs:List (List Key×V)}{xs:List (List Key×Addr×Value)}(r:KT H kvs xs)(k:List Key):gO (cJ kvs k) ((atKey xs k).map (·.2)):=by
  induction r with
  | nil=>exact True.intro
  | @cons p q ps qs h t ih=>
    obtain ⟨h1,_,h2⟩:=h
    by_cases e:p.1=k
    · have e':q.1=k:=h1.symm.trans e
      have b:atKey (q::qs) k=some q.2:=by simp [atKey,List.find?_cons,e']
      rw [cT e,b];exact h2
    · have e':¬q.1=k:=fun z=>e (h1.trans z)
      have b:atKey (q::qs) k=atKey qs k:=by simp [atKey,List.find?_cons,e']
      rw [cS e,b];exact ih
theorem KT.uA {H:Hp}{kvs:List (List Key×V)}{xs:List (List Key×Addr×Value)}(r:KT H kvs xs)(k:List Key){y:V}{u:Value}(ry:RelV y u):
    KT H (kvs.map fun kv=>if kv.1=k then (kv.1,y) else kv) (xs.map (putAt k u)):=by
  induction r with
  | nil=>exact .nil
  | @cons p q ps qs h t ih=>
    rw [List.map_cons,List.map_cons]
    refine .cons ?_ ih
    obtain ⟨h1,h2,h3⟩:=h
    unfold putAt
    by_cases e:p.1=k
    · rw [if_pos e,if_pos (h1.symm.trans e)];exact ⟨h1,h2,ry⟩
    · rw [if_neg e,if_neg (fun z=>e (h1.trans z))];exact ⟨h1,h2,h3⟩
theorem KT.put {H:Hp}{kvs:List (List Key×V)}{xs:List (List Key×Addr×Value)}(r:KT H kvs xs)(k:List Key){b:Addr}{y:V}{u:Value}(hb:H b=some (.tup (k.map kV)))(ry:RelV y u):
    KT H (putK kvs k y) (storedH xs k b u):=by
  have e:(kvs.any fun kv=>decide (kv.1=k))=(atKey xs k).isSome:=by
    rw [e8,(r.val k).fY,Option.isSome_map]
  unfold putK storedH
  rw [e]
  by_cases q:(atKey xs k).isSome=true
  · rw [if_pos q,if_pos q];exact r.uA k ry
  · rw [if_neg q,if_neg q];exact Paired.snoc r ⟨rfl,hb,ry⟩
theorem KT.keeps {H H':Hp}{kvs:List (List Key×V)}{xs:List (List Key×Addr×Value)}(r:KT H kvs xs)(ht:∀b ys,H b=some (.tup ys)→H' b=some (.tup ys)):KT H' kvs xs:=
  Paired.uC r fun _ _ z=>⟨z.1,ht _ _ z.2.1,z.2.2⟩
section
variable {P:Program}{w:World}{H:Hp}{h:Heap}{a:Addr}
theorem vB {u:HO}(ok:cg P w H h)(e:Rd H a u):bK P w H h a u:=e.ok ok
theorem jG {kvs:List (Key×V)}(ok:cg P w H h)(e:Rd H a (.dK kvs)):kvs.length≤sizeLine∧(a==sysModules)=false∧∃vs,KV kvs vs∧h.DictOf (cE P w) a vs:=
  show bK P w H h a (.dK kvs) from vB ok e
theorem vN {kvs:List (Key×V)}(ok:cg P w H h)(e:H a=some (.dK kvs)):kvs.length≤sizeLine∧(a==sysModules)=false∧∃vs,KV kvs vs∧h.DictOf (cE P w) a vs:=jG ok (.inl e)
theorem i8 {ks:List Key}(ok:cg P w H h)(e:H a=some (.tup (ks.map kV))):(tupleKind (cE P w)).is h ks a:=by
  obtain ⟨_,its,r,o,h1,h2,n,h3⟩:=(show bK P w H h a (.tup (ks.map kV)) from ok a _ e)
  exact ⟨o,its.toArray,n,h1,h2,h3,by simpa using mv r⟩
theorem kQ {kvs:List (List Key×V)}(ok:cg P w H h)(e:Rd H a (.dT kvs)):kvs.length≤sizeLine∧(a==sysModules)=false∧
    ∃xs,KT H kvs xs∧h.DictOfH (tupleKind (cE P w)) a xs:=by
  obtain ⟨z,y,xs,r,o,es,ep,h1,h2,h3,h4,h5⟩:=(show bK P w H h a (.dT kvs) from vB ok e)
  refine ⟨z,y,xs,r,o,es,ep,h1,h2,h3,h4,fun x hx=>?_,h5⟩
  have all:∀{l:List (List Key×V)} {m:List (List Key×Addr×Value)},KT H l m→∀x∈m,(tupleKind (cE P w)).is h x.1 x.2.1:=by
    intro l m q
    induction q with
    | nil=>intro x hx;exact nomatch hx
    | @cons p q ps qs hq t ih=>
      intro x hx
      rcases List.mem_cons.mp hx with e | hx
      · subst e
        exact i8 ok (by rw [← hq.1];exact hq.2.1)
      · exact ih x hx
  exact all r x hx
theorem Bb {kvs:List (List Key×V)}(ok:cg P w H h)(e:H a=some (.dT kvs)):kvs.length≤sizeLine∧(a==sysModules)=false∧
    ∃xs,KT H kvs xs∧h.DictOfH (tupleKind (cE P w)) a xs:=kQ ok (.inl e)
end
noncomputable def eZ (H:Hp)(a:Addr)(y:V)(r:Option V):Prop:=
  (∃kvs k,Rd H a (.dK kvs)∧y=kV k∧r=cJ kvs k)∨∃kvs k b,Rd H a (.dT kvs)∧y= .ref b∧H b=some (.tup (k.map kV))∧r=cJ kvs k
noncomputable def lr (H:Hp)(a:Addr)(y v:V)(H':Hp):Prop:=
  (∃kvs k,H a=some (.dK kvs)∧y=kV k∧kvs.length < sizeLine∧H'=upd H a (.dK (putK kvs k v)))∨
  ∃kvs k b,H a=some (.dT kvs)∧y= .ref b∧H b=some (.tup (k.map kV))∧kvs.length < sizeLine∧H'=upd H a (.dT (putK kvs k v))
theorem eZ.k {H:Hp}{a:Addr}{kvs:List (Key×V)}{k:Key}(e:H a=some (.dK kvs)):eZ H a (kV k) (cJ kvs k):=.inl ⟨kvs,k,.inl e,rfl,rfl⟩
theorem lr.k {H:Hp}{a:Addr}{kvs:List (Key×V)}{k:Key}{v:V}(e:H a=some (.dK kvs))(hl:kvs.length < sizeLine):lr H a (kV k) v (upd H a (.dK (putK kvs k v))):=.inl ⟨kvs,k,e,rfl,hl,rfl⟩
section
variable {X:Cx}{pins:List (Addr×Obj)}{σ:St}{H:Hp}{s:Shared}{a:Addr}{y v:V}{u r:Value}{o:Option V}{A:Around}{E:Value→Shared→Prop}
theorem Inv.big (I:Inv X pins σ H s):sysModules < s.heap.objs.size:=by
  have h:mainGlobals < s.heap.objs.size:=(I.mod.glob.keeps I.bk).lt
  exact Nat.lt_trans (by decide) h
theorem sr {Q:Value→Shared→Prop}(hu:A.units + 1 < cLine)(I:Inv X pins σ H s)(g:eZ H a y (some v))(ry:RelV y u)(h:∀w' s',Inv X pins σ H s'→RelV v w'→Q w' s'):
    wpAny (model X.prog X.w) A (getItem (.ref a) u) Q E s:=by
  rcases g with ⟨kvs,k,e,ey,l⟩ | ⟨kvs,k,b,e,ey,eb,l⟩
  · subst ey
    obtain ⟨z,hd,vs,rel,dd⟩:=jG I.hok e
    obtain ⟨w',hw,rw'⟩:=gO.some_of (v:=v) (o:=valueAt vs k) (by rw [l];exact rel.val k)
    exact wpAny_getItem_of (jx ry) dd.mapOf hw (h w' _ (I.tok _) rw')
  · subst ey
    cases (show u=Value.ref b from ry)
    obtain ⟨z,hd,xs,rel,dd⟩:=kQ I.hok e
    obtain ⟨w',hw,rw'⟩:=gO.some_of (v:=v) (o:=(atKey xs k).map (·.2)) (by rw [l];exact rel.val k)
    obtain ⟨p,hp,hp2⟩:=Option.map_eq_some_iff.mp hw
    refine wpAny_getItem_heap (tupleKind_room_in1 hu) (i8 I.hok eb) dd hp ?_
    rw [hp2]
    exact h w' _ (I.tok _) rw'
theorem Dr {Q:Value→Shared→Prop}(hu:A.units + 1 < cLine)(I:Inv X pins σ H s)(g:eZ H a y o)(ry:RelV y u)(h:∀s',Inv X pins σ H s'→Q (.bool o.isSome) s'):
    wpAny (model X.prog X.w) A (compareOp .In u (.ref a)) Q E s:=by
  rcases g with ⟨kvs,k,e,ey,l⟩ | ⟨kvs,k,b,e,ey,eb,l⟩
  · subst ey
    obtain ⟨z,hd,vs,rel,dd⟩:=jG I.hok e
    refine wpAny_in_of (jx ry) hd dd.mapOf ?_
    rw [← (rel.val k).fY,← l]
    exact h _ (I.tok _)
  · subst ey
    cases (show u=Value.ref b from ry)
    obtain ⟨z,hd,xs,rel,dd⟩:=kQ I.hok e
    refine wpAny_in_heap (tupleKind_room_in1 hu) (i8 I.hok eb) hd dd ?_
    have q:=(rel.val k).fY
    rw [Option.isSome_map] at q
    rw [← q,← l]
    exact h _ (I.tok _)
theorem wK {Q:Value→Shared→Prop}(hu:A.units + 1 < cLine)(I:Inv X pins σ H s)(g:eZ H a y o)(ry:RelV y u)(h:∀s',Inv X pins σ H s'→Q (.bool (!o.isSome)) s'):
    wpAny (model X.prog X.w) A (compareOp .NotIn u (.ref a)) Q E s:=by
  rcases g with ⟨kvs,k,e,ey,l⟩ | ⟨kvs,k,b,e,ey,eb,l⟩
  · subst ey
    obtain ⟨z,hd,vs,rel,dd⟩:=jG I.hok e
    refine wpAny_notIn_of (jx ry) hd dd.mapOf ?_
    rw [← (rel.val k).fY,← l]
    exact h _ (I.tok _)
  · subst ey
    cases (show u=Value.ref b from ry)
    obtain ⟨z,hd,xs,rel,dd⟩:=kQ I.hok e
    refine wpAny_notIn_heap (tupleKind_room_in1 hu) (i8 I.hok eb) hd dd ?_
    have q:=(rel.val k).fY
    rw [Option.isSome_map] at q
    rw [← q,← l]
    exact h _ (I.tok _)
theorem lT {h':Heap}{t':Nat}{ob:HO}(I:Inv X pins σ H s)(mu:sQ (H a))(hs:Heap.SameBut a s.heap h')(he:∃q,h'.get? a=some q)(new:bK X.prog X.w (upd H a ob) h' a ob):
    Inv X pins σ (upd H a ob) {s with heap:=h',toks:=t'}:=
  I.write (x:=a) (e:=a) mu (.inl rfl) (fun b q hb z=>(hs.2 b hb).trans z) he new
theorem sL {P:Program}{w:World}{H':Hp}{h':Heap}{kvs:List (Key×V)}{vs:List (Key×Value)}(z:kvs.length≤sizeLine)(hd:(a==sysModules)=false)(rel:KV kvs vs)(dd:h'.DictOf (cE P w) a vs):
    bK P w H' h' a (.dK kvs):=⟨z,hd,vs,rel,dd⟩
theorem tm {H':Hp}{Q:Unit→Shared→Prop}(hu:A.units + 1 < cLine)(I:Inv X pins σ H s)(g:lr H a y v H')(ry:RelV y u)(rv:RelV v r)(h:∀s',Inv X pins σ H' s'→Q () s'):
    wpAny (model X.prog X.w) A (setItem (.ref a) u r) Q E s:=by
  rcases g with ⟨kvs,k,e,ey,l,eH⟩ | ⟨kvs,k,b,e,ey,eb,l,eH⟩
  · subst ey eH
    obtain ⟨z,hd,vs,rel,dd⟩:=vN I.hok e
    have hz:vs.length≤sizeLine:=by rw [← rel.length];exact z
    have hl:(putK kvs k v).length≤sizeLine:=by have:=ib kvs k v;omega
    refine wpAny_setItem_pairs (hsz:=hz) (jx ry) dd fun h' dd' hs=>h _ ?_
    have he:∃q,h'.get? a=some q:=let ⟨q,_,_,hq,_⟩:=dd';⟨q,hq⟩
    exact lT I (by rw [e];exact True.intro) hs he (sL hl hd (rel.put k rv) dd')
  · subst ey eH
    cases (show u=Value.ref b from ry)
    obtain ⟨z,hd,xs,rel,dd⟩:=Bb I.hok e
    have hz:xs.length≤sizeLine:=by rw [← Paired.length rel];exact z
    have hl:(putK kvs k v).length≤sizeLine:=by have:=ib kvs k v;omega
    refine wpAny_setItem_heap (hsz:=hz) (tupleKind_room_in1 hu) (i8 I.hok eb) dd fun h' dd' hs=>h _ ?_
    obtain ⟨q,es,ep,hq,h2,h3,h4,_,h5⟩:=dd'
    refine lT I (by rw [e];exact True.intro) hs ⟨q,hq⟩ ⟨hl,hd,_,(rel.put k eb rv).keeps fun c ys ec=>?_,q,es,ep,hq,h2,h3,h4,h5⟩
    rw [aJ (Bf ec e (fun z=>nomatch z))]
    exact ec
end
section
variable {X:Cx}{pins:List (Addr×Obj)}{σ:St}{H:Hp}{s:Shared}{a:Addr}{kvs:List (Key×V)}{k:Key}{u:Value}{A:Around}{E:Value→Shared→Prop}
theorem BE {Q:Value→Shared→Prop}(I:Inv X pins σ H s)(e:Rd H a (.dK kvs))(h:∀t s',Inv X pins σ H s'→Q (.int kvs.length t) s'):wpAny (model X.prog X.w) A (call (.builtin "len") [.ref a]) Q E s:=by
  obtain ⟨z,hd,vs,rel,dd⟩:=jG I.hok e
  refine call_len_dict hd dd (by rw [← rel.length];rw [sizeLine_eq] at z;omega) ?_
  rw [← rel.length]
  exact h _ _ (I.tok _)
end
noncomputable def qC (i:Expr):Prop:=∀ov iv,subscripted i false ov iv=operate [ov,iv] (getItem ov iv)
theorem wI {prog:Program}{w:World}{A:Around}{E:Value→Shared→Prop}{s:Shared}{env:Env}{value slice:Expr}{pos:Pos}{T id:String}{Q:Value→Shared→Prop}
    (hl:typeLookup (.type T) "__getitem__"=pure (some (.builtin id))) (hs:qC slice)
    (h:wpAny (model prog w) A (eval value env) (fun o s₁=>wpAny (model prog w) A (eval slice env) (fun i s₂=>s₂.TypeIs o T∧wpAny (model prog w) A (getItem o i) Q E s₂) E s₁) E s):
    wpAny (model prog w) A (eval (.Subscript value slice pos) env) Q E s:=by
  refine Subscript_ (wpAny_mono h (fun o s₁ h₁=>wpAny_mono h₁ (fun i s₂ h₂=>?_) fun _ _ x=>x) fun _ _ x=>x)
  obtain ⟨hT,h₂⟩:=h₂
  unfold subscriptTail
  refine wpAny_bind ?_
  rw [getitemInPython_of_ne hT.not_modules]
  refine wpAny_bind (wpAny_specialOf hT hl ?_)
  have fin:wpAny (model prog w) A (subscripted slice false o i) (fun r s₃=>wpAny (model prog w) A (letTemporaryGo value o r >>=fun _=>pure r) Q E s₃) E s₂:=by
    rw [hs o i]
    exact wpAny_operating (wpAny_mono h₂ (fun r s₃ h₃=>wpAny_bind (wpAny_letTemporaryGo (wpAny_pure h₃))) fun _ _ x=>x)
  first
    | exact wpAny_pure (wpAny_bind fin)
    | exact wpAny_bind (wpAny_pure (wpAny_bind fin))
    | exact wpAny_bind fin
theorem pf {X:Cx}{pins:List (Addr×Obj)}{σ:St}{H:Hp}{s:Shared}{a:Addr}{y:V}{o:Option V}(I:Inv X pins σ H s)(g:eZ H a y o):s.TypeIs (.ref a) "dict":=by
  rcases g with ⟨kvs,k,e,_,_⟩ | ⟨kvs,k,b,e,_,_,_⟩
  · obtain ⟨_,_,vs,_,dd⟩:=jG I.hok e
    exact dd.typeIs
  · obtain ⟨_,_,xs,_,dd⟩:=kQ I.hok e
    exact dd.typeIs
noncomputable def BQ (td ty:TE):TE:=fun σ H Q=>td σ H fun x H1=>ty σ H1 fun y H2=>∃a v,x= .ref a∧eZ H2 a y (some v)∧Q v H2
noncomputable def Dq (ty td:TE):TE:=fun σ H Q=>ty σ H fun y H1=>td σ H1 fun x H2=>∃a o,x= .ref a∧eZ H2 a y o∧Q (.bl o.isSome) H2
noncomputable def xQ (ty td:TE):TE:=fun σ H Q=>ty σ H fun y H1=>td σ H1 fun x H2=>∃a o,x= .ref a∧eZ H2 a y o∧Q (.bl (!o.isSome)) H2
noncomputable def BJ (td ty tv:TE):TS:=fun D σ H=>tv σ H fun v H1=>td σ H1 fun x H2=>ty σ H2 fun y H3=>∃a H4,x= .ref a∧lr H3 a y v H4∧D.nx σ H4
section
variable {X:Cx}{o i e value:Expr}{pos pos' tpos:Pos}{td ty tv:TE}
theorem pM (hu:X.A.units + 1 < cLine)(ho:PE X o td)(hi:PE X i ty)(hs:qC i):PE X (.Subscript o i pos) (BQ td ty):=by
  intro pins s σ H Q I h
  refine wI PySem.F.slot_dict_getitem.lookup hs (aR (ho pins s σ H _ I h) fun u s1 ⟨x,H1,I1,rx,q1⟩=>aR (hi pins s1 σ H1 _ I1 q1) fun iv s2 ⟨y,H2,I2,ry,a,v,ex,g,q2⟩=>?_)
  subst ex
  obtain rfl:u=Value.ref a:=rx
  exact ⟨pf I2 g,sr hu I2 g ry fun w' s3 I3 rw'=>⟨v,H2,I3,rw',q2⟩⟩
theorem oH (hu:X.A.units + 1 < cLine)(hi:PE X i ty)(ho:PE X o td):PC X .In i o (Dq ty td):=by
  intro pins s σ H Q I h
  refine aR (hi pins s σ H _ I h) fun iv s1 ⟨y,H1,I1,ry,q1⟩=>aR (ho pins s1 σ H1 _ I1 q1) fun u s2 ⟨x,H2,I2,rx,a,ov,ex,g,q2⟩=>?_
  subst ex
  obtain rfl:u=Value.ref a:=rx
  exact Dr hu I2 g ry fun s3 I3=>⟨.bl ov.isSome,H2,I3,rfl,q2⟩
theorem tO (hu:X.A.units + 1 < cLine)(hi:PE X i ty)(ho:PE X o td):PC X .NotIn i o (xQ ty td):=by
  intro pins s σ H Q I h
  refine aR (hi pins s σ H _ I h) fun iv s1 ⟨y,H1,I1,ry,q1⟩=>aR (ho pins s1 σ H1 _ I1 q1) fun u s2 ⟨x,H2,I2,rx,a,ov,ex,g,q2⟩=>?_
  subst ex
  obtain rfl:u=Value.ref a:=rx
  exact wK hu I2 g ry fun s3 I3=>⟨.bl (!ov.isSome),H2,I3,rfl,q2⟩
theorem pX (hu:X.A.units + 1 < cLine)(ho:PE X o td)(hi:PE X i ty)(hv:PE X value tv)(hs:swapsWith value (some (.Subscript o i pos')) pos.line X.env=pure false):
    PS X (.Assign [.Subscript o i pos'] value pos) (BJ td ty tv):=by
  intro pins s σ H D I h
  refine wpAny_Assign_Subscript (aR (hv pins s σ H _ I h) fun r s1 ⟨v,H1,I1,rv,q1⟩=>aR (ho pins s1 σ H1 _ I1 q1) fun u s2 ⟨x,H2,I2,rx,q2⟩=>aR (hi pins s2 σ H2 _ I2 q2) fun iv s3 ⟨y,H3,I3,ry,a,H4,ex,g,q3⟩=>?_) hs
  subst ex
  obtain rfl:u=Value.ref a:=rx
  exact tm hu I3 g ry rv fun s4 I4=>⟨σ,H4,I4,q3⟩
end
theorem uk {P:Program}{w:World}{H:Hp}(h:Heap)(hb:sysModules < h.objs.size):bK P w H (h.push {cls:=.type "dict",data:=.dict #[]}) h.objs.size (.dK []):=
  ⟨Nat.zero_le _,beq_eq_false_iff_ne.mpr (Ne.symm (Nat.ne_of_lt hb)),[],.nil,Heap.DictOf.new h⟩
section
variable {X:Cx}{pos:Pos}
end
noncomputable def oE:List (TE×TE)→St→Hp→(List (V×V)→Hp→Prop)→Prop
  | [],_,H,Q=>Q [] H
  | (tk,tv)::r,σ,H,Q=>tk σ H fun x H1=>tv σ H1 fun y H2=>oE r σ H2 fun ps H3=>Q ((x,y)::ps) H3
noncomputable abbrev VV:List (V×V)→List (Value×Value)→Prop:=Paired fun p q=>RelV p.1 q.1∧RelV p.2 q.2
noncomputable def wG (X:Cx)(pos:Pos)(keys:List (Option Expr))(values:List Expr)(trs:List (TE×TE)):Prop:=
  ∀ (pins:List (Addr×Obj)) (s:Shared) (σ:St) (H:Hp) (Q:List (V×V)→Hp→Prop),Inv X pins σ H s→oE trs σ H Q→
    wpAny (model X.prog X.w) X.A (evalPairs (pairTrees keys values X.env pos)) (fun vs s'=>∃ps H',Inv X pins σ H' s'∧VV ps vs∧Q ps H') X.xe s
theorem xv {X:Cx}{pos:Pos}:wG X pos [] [] []:=fun pins s σ H Q I h=>pairTrees_nil_walk ⟨[],H,I,.nil,h⟩
theorem ug {X:Cx}{pos:Pos}{k v:Expr}{ks:List (Option Expr)}{vs:List Expr}{tk tv:TE}{trs:List (TE×TE)}(hk:PE X k tk)(hv:PE X v tv)(hr:wG X pos ks vs trs):
    wG X pos (some k::ks) (v::vs) ((tk,tv)::trs):=fun pins s σ H Q I h=>
  pairTrees_cons_walk (aR (hk pins s σ H _ I h) fun u s1 ⟨x,H1,I1,rx,q1⟩=>aR (hv pins s1 σ H1 _ I1 q1) fun w2 s2 ⟨y,H2,I2,ry,q2⟩=>
    aR (hr pins s2 σ H2 _ I2 q2) fun ws s3 ⟨ps,H3,I3,rel,q3⟩=>⟨(x,y)::ps,H3,I3,.cons ⟨rx,ry⟩ rel,q3⟩)
noncomputable def ip (kvs more:List (Key×V)):List (Key×V):=more.foldl (fun acc kv=>putK acc kv.1 kv.2) kvs
theorem KV.merge:∀{more:List (Key×V)} {rs:List (Key×Value)} {kvs:List (Key×V)} {vs:List (Key×Value)},KV more rs→KV kvs vs→KV (ip kvs more) (merged vs rs):=by
  intro more rs kvs vs r
  unfold KV at r
  induction r generalizing kvs vs with
  | nil=>intro q;exact q
  | @cons p q ps qs h t ih=>
    intro r0
    have e:KV (putK kvs p.1 p.2) (stored vs q.1 q.2):=by
      have:=r0.put p.1 h.2
      rw [← h.1];exact this
    exact ih e
theorem iZ:∀(more kvs:List (Key×V)),(ip kvs more).length≤kvs.length + more.length
  | [],kvs=>by show kvs.length≤kvs.length + 0;omega
  | p::r,kvs=>by
    have h1:=iZ r (putK kvs p.1 p.2)
    have h2:=ib kvs p.1 p.2
    show (ip (putK kvs p.1 p.2) r).length≤_
    rw [List.length_cons];omega
theorem kJ {P:Program}{w:World}:∀{kvs:List (Key×V)} {ws:List (Value×Value)},VV (kvs.map fun kv=>(kV kv.1,kv.2)) ws→∃rs,Carries (cE P w) ws rs∧KV kvs rs
  | [],_,r=>by rw [List.map_nil] at r;cases r;exact ⟨[],True.intro,.nil⟩
  | p ::kvs,_,r=>by
    rw [List.map_cons] at r
    cases r with
    | @cons a b as bs h t=>
      obtain ⟨rs,c,q⟩:=kJ (P:=P) (w:=w) t
      obtain ⟨b1,b2⟩:=b
      exact ⟨(p.1,b2)::rs,⟨jx h.1,rfl,c⟩,.cons ⟨rfl,h.2⟩ q⟩
noncomputable def Bt (trs:List (TE×TE)):TE:=fun σ H Q=>∀p,H p=none→oE trs σ (upd H p (.dK [])) fun ps H2=>H2 p=some (.dK [])∧∃kvs:List (Key×V),ps=kvs.map (fun kv=>(kV kv.1,kv.2))∧kvs.length≤15∧Q (.ref p) (upd H2 p (.dK (ip [] kvs)))
theorem xO {X:Cx}{pos:Pos}{keys:List (Option Expr)}{values:List Expr}{trs:List (TE×TE)}(h:wG X pos keys values trs)(hall:keys.all (·.isSome)=true)(hl:keys.length=values.length)(h0:keys≠[])
    (h15:keys.length≤15):PE X (.Dict keys values pos) (Bt trs):=by
  intro pins s σ H Q I q
  have hn:=I.hok.fresh (Nat.le_refl s.heap.objs.size)
  have I1:=I.laid (a:=s.heap.objs.size) (o:=.dK []) (h':=s.heap.push {cls:=.type "dict",data:=.dict #[]}) (t':=s.toks) (fun _ _ q=>Heap.get?_push_of_some _ q) (Nat.le_refl _) (uk s.heap I.big)
  refine wpAny_Dict_walk (knd:=cE X.prog X.w) hall hl h0 h15 (aR (h pins _ σ _ _ I1 (q _ hn)) fun ws s2 ⟨ps,H2,I2,rel,e,kvs,ep,lk,q2⟩=>?_)
  subst ep
  obtain ⟨rs,c,rk⟩:=kJ (P:=X.prog) (w:=X.w) rel
  obtain ⟨z,hd,vs0,r0,dd⟩:=vN I2.hok e
  cases r0
  refine ⟨rs,c,dd,fun h' dd' hs=>⟨.ref s.heap.objs.size,_,?_,rfl,q2⟩⟩
  have hz:(ip [] kvs).length≤sizeLine:=by
    have h1:=iZ kvs []
    rw [List.length_nil] at h1
    rw [sizeLine_eq];omega
  have he:∃q,h'.get? s.heap.objs.size=some q:=let ⟨q,_,_,hq,_⟩:=dd';⟨q,hq⟩
  exact lT I2 (by rw [e];exact True.intro) hs he (sL hz hd (rk.merge .nil) dd')
section
variable {X:Cx}{pins:List (Addr×Obj)}{σ:St}{H:Hp}{s:Shared}{a:Addr}{y d:V}{u r:Value}{o:Option V}{A:Around}{E:Value→Shared→Prop}
end
section
variable {X:Cx}{o e f:Expr}{apos cpos:Pos}{td ty tx:TE}
end
section
variable {X:Cx}{pins:List (Addr×Obj)}{σ:St}{H:Hp}{s:Shared}{a:Addr}{kvs:List (Key×V)}{A:Around}{E:Value→Shared→Prop}
end
section
variable {X:Cx}{pins:List (Addr×Obj)}{σ:St}{H:Hp}{s:Shared}{a:Addr}{y:V}{u:Value}{A:Around}{E:Value→Shared→Prop}
end
end L2
namespace Att
open PySem PySem.W PySem.Calls PyProof.Rows
theorem kI {P:Params}{h:Heap}:∀(ns:List Int) (vs:List Value),WellAll P h vs (ns.map WData.int)→IntsAre vs ns:=by
  intro ns
  induction ns with
  | nil=>
    intro vs w
    rw [List.map_nil] at w
    cases w
    exact .nil
  | cons n ns ih=>
    intro vs w
    rw [List.map_cons] at w
    cases w with
    | cons a b=>
      cases a
      exact .cons _ _ (ih _ b)
theorem ud {l:OpenLaw}{n:Nat}(hn:l.most=some n){P:Params}{h:Heap}{args:List WData}{vals:List Value}
    (hpre:l.row.toRowW.claim.pre args=true) (hwl:WellAll P h vals args):
    ∃a vs ns,vals=[Value.ref a]∧args=[WData.list (ns.map WData.int)]∧h.get? a=some {cls:=.type "list",data:=.seq vs.toArray}∧IntsAre vs ns∧ns.length≤n:=by
  have hsh:WShape.hasAll [] args [.list .int]=true:=(pre_splitW hpre).1
  have hc:l.pre.holds [] {args:=args}=true:=(pre_splitW hpre).2
  obtain ⟨d,r,rfl,h1,h2⟩:=hasAllW_cons hsh
  obtain rfl:=hasAllW_nil h2
  obtain ⟨xs,rfl,h3⟩:=hasW_list h1
  obtain ⟨ns,rfl⟩:=items_int h3
  have hlen:ns.length≤n:=by
    unfold OpenLaw.pre at hc
    have h4:(WTm.not (.lt (.lit (.int (n:Int))) (.len (.arg 0)))).holds [] {args:=[.list (ns.map .int)]}=true:=by
      have h4:=(holds_andW hc).1
      rw [hn] at h4
      exact h4
    have h5:=condW_of h4 (w_not (w_lt w_lit (w_len_list (w_arg rfl))))
    rw [List.length_map] at h5
    refine Nat.le_of_not_lt fun q=>?_
    have q':(n:Int) < ((ns.length:Nat):Int):=by omega
    first
      | (rw [decide_eq_true q'] at h5;exact absurd h5 (by decide))
      | (simp at h5;omega)
  cases hwl with
  | cons w1 w2=>
    cases w2
    cases w1 with
    | list ho hall=>exact ⟨_,_,ns,rfl,rfl,ho,kI ns _ hall,hlen⟩
theorem tZ (l:OpenLaw)(args:List WData):l.row.toRowW.claim.post args (.bool true) args=true:=
  postW_of (r:=l.row.toRowW) (X:=(true==true))
    (show WShape.has [] (.bool true) .bool=true by first | rfl | decide | simp [WShape.has,WShape.arms,WShape.armsAll])
    (show (WTm.eq .res (.lit (.bool true))).value [] {args:=args,res:=some (.bool true),after:=args}=some (.bool (true==true)) from w_eq_bool (w_res rfl) w_lit) rfl
section
variable {prog:Program}{w:World}{A:Around}{E:Value→Shared→Prop}{s:Shared}{K:Frag}
end
end Att
namespace L2
open PySem PySem.Spec PyProof.Rows
theorem lZ:∀{vs:List Value} {ns:List Int},IntsAre vs ns→Vals (ns.map V.int) vs
  | _,_,.nil=>.nil
  | _,_,.cons n t h=>.cons ⟨t,rfl⟩ (lZ h)
noncomputable def uR (H:Hp):Prop:=∀b,H b=none∨∃o xs,H b=some (.frz o (.lst xs))
theorem uD {P:Program}{w:World}{K:PySem.W.Frag}{mg mb:Str→Option Value}{CX:iH}{k:Nat}{fa a:Addr}{fd:FuncData}{x:Str}{sp:Sp}{s₁:Shared}{vs:List Value}{ns:List Int}
    (KX:K.In s₁.heap) (hns:s₁.heap.Ns mainGlobals mg) (hb:s₁.heap.Ns builtinsNs mb) (hbb:∀x:Str,x≠"__name__"→mb x=bootBuiltins x) (hlim:s₁.heap.NoLimit) (hg:s₁.gens= #[])
    (ha:s₁.heap.get? a=some {cls:=.type "list",data:=.seq vs.toArray}) (hi:IntsAre vs ns) (hl:ns.length≤sizeLine) (hr:bt k callerA)
    (F:∀base:Heap,K.In base→base.Ns mainGlobals mg→et P w K mg base CX k fa fd [x] sp) (hbind:∀(s:Shared) (u:Value),BindsTo s fd ⟨[u],[]⟩ [(x,u)])
    (hsp:∀H:Hp,uR H→bq K H a (ns.map V.int)→sp [.ref a] H (fun v _=>v= .bl true) fun _ _ _=>False)
    (hCX:∀H e s',CX [] H s₁ (fun _ _ _=>False) e s'→False):
    codeAny (model P w) callerA (.call (.ref fa) ⟨[.ref a],[]⟩) (fun r s'=>r= .ok (.ret (.bool true))∧OldK s₁.heap s'.heap∧s'.os=s₁.os∧AllBare s'.gens) s₁:=by
  have rv:=lZ hi
  have lenV:=hi.length
  -- from an abstract heap in which nothing but the script may be tracked
  have core :∀H:Hp,uR H→bq K H a (ns.map V.int)→cg P w H s₁.heap→(∀b,H b≠none→b=a)→(H a≠none→K.lookup a=none)→
      codeAny (model P w) callerA (.call (.ref fa) ⟨[.ref a],[]⟩) (fun r s'=>r= .ok (.ret (.bool true))∧OldK s₁.heap s'.heap∧s'.os=s₁.os∧AllBare s'.gens) s₁:=by
    intro H hO hS hok hA hK
    have base_of:∀{b:Addr} {o:Obj},s₁.heap.get? b=some o→H b=none→(iR s₁.heap H).get? b=some o:=fun e n=>uE e n
    have noA:∀{b:Addr} {o:Obj} {es:Array DictEntry} {ep:Nat},s₁.heap.get? b=some o→o.data= .dict es ep→H b=none:=fun {b o es ep} e d=>by
      cases q:H b with
      | none=>rfl
      | some u=>
        have e':b=a:=hA b (by rw [q];simp)
        subst e'
        rw [ha] at e;cases e
        have d':Data.seq vs.toArray _=Data.dict es ep:=d
        cases d'
    have nsK:∀{b:Addr} {m:Str→Option Value},s₁.heap.Ns b m→(iR s₁.heap H).Ns b m:=fun {b m} ⟨o,es,ep,e,d,r⟩=>⟨o,es,ep,base_of e (noA e d),d,r⟩
    have hKb:K.In (iR s₁.heap H):=fun b o e=>base_of (KX b o e) (by
      cases q:H b with
      | none=>rfl
      | some u=>
        have e':b=a:=hA b (by rw [q];simp)
        subst e'
        rw [hK (by rw [q];simp)] at e;cases e)
    have hM:Mod K mg (iR s₁.heap H):=⟨hKb,nsK hns,⟨mb,nsK hb,hbb⟩,let ⟨mc,h1,h2⟩:=hlim;⟨mc,nsK h1,h2⟩⟩
    have e0:og P w K mg (iR s₁.heap H) callerA [] s₁ H:=⟨rfl,hM,fun b o e=>wN e,Nat.le_of_eq (si _ _),trivial,fun b hb=>absurd (show b∈([]:List Addr) from hb) (by simp),hok,.of_eq hg⟩
    refine codeAny_mono ((F _ hKb (nsK hns)).run callerA [] s₁ H ⟨[.ref a],[]⟩ [.ref a] [.ref a] _ _ hr e0 (hbind s₁ (.ref a)) (.cons rfl .nil) (hsp H hO hS)) fun r s' h=>?_
    cases r with
    | error e=>exact (hCX H e s' h).elim
    | ok fl =>
      cases fl with
      | next=>exact False.elim h
      | brk=>exact False.elim h
      | cont=>exact False.elim h
      | ret u=>
        obtain ⟨v,H',os,bare,un,hok',r',q⟩:=h
        have q':v= .bl true:=q
        subst q'
        obtain rfl:u=Value.bool true:=r'
        refine ⟨rfl,OldK.of_keep fun b o e=>?_,os,bare⟩
        cases q:H b with
        | none=>exact un.keep b o e q (by intro z;exact absurd (show b∈([]:List Addr) from z) (by simp)) (by simp)
        | some u=>
          rcases hO b with z | ⟨ob,xs,z⟩
          · rw [q] at z;cases z
          · have z2:=un.frzs b ob _ z
            obtain ⟨e1,_⟩:=hok b _ z
            obtain ⟨e2,_⟩:=hok' b _ z2
            rw [e] at e1;cases e1
            exact e2
  cases hk:K.lookup a with
  | some o=>
    -- the script is one of the module's own objects
    have e:=KX a o hk
    rw [ha] at e
    cases e
    refine core (fun _=>none) (fun _=>.inl rfl) (.inr ⟨_,vs.toArray,_,hk,rfl,rfl,rfl,by rw [List.size_toArray,lenV];exact hl,by simpa using rv⟩) (fun b u z=>by have z':(none:Option HO)=some u:=z;cases z') (fun b z=>absurd rfl z) fun z=>absurd rfl z
  | none=>
    refine core (fun b=>if b=a then some (.frz {cls:=.type "list",data:=.seq vs.toArray} (.lst (ns.map V.int))) else none) (fun b=>?_) (.inl (.inr ⟨{cls:=.type "list",data:=.seq vs.toArray},if_pos rfl⟩)) (fun b u z=>?_) (fun b z=>?_) fun _=>hk
    · by_cases hb:b=a
      · exact .inr ⟨_,_,if_pos hb⟩
      · exact .inl (if_neg hb)
    · by_cases hb:b=a
      · have z':=(if_pos hb).symm.trans z
        cases z'
        subst hb
        exact ⟨ha,by rw [List.length_map];exact hl,vs,_,rv,ha⟩
      · have z':=(if_neg hb).symm.trans z
        cases z'
    · by_cases hb:b=a
      · exact hb
      · exact absurd (if_neg hb) z
noncomputable abbrev aQ {K:PySem.W.Frag}{h:Heap}(_:K.In h):PySem.W.Frag:=K
noncomputable def e9 (s:Stmt):Arguments:=match s with
  | .FunctionDef _ a _ _ _ _ _ _ _ _=>a
  | _=>{posonlyargs:=[],args:=[],vararg:=none,kwonlyargs:=[],kw_defaults:=[],kwarg:=none,defaults:=[]}
noncomputable def bo (s:Stmt):List Stmt:=match s with
  | .FunctionDef _ _ b _ _ _ _ _ _ _=>b
  | _=>[]
noncomputable def ah (s:Stmt):Scope:=match s with
  | .FunctionDef _ _ _ _ _ _ sc _ _ _=>sc
  | _=>{kind:=.function,names:=[],isGenerator:=false,isCoroutine:=false}
noncomputable abbrev df:iH:=fun _ _ _ _ _ _=>False
noncomputable abbrev E0:XK:=fun _ _ _=>False
theorem mS {X:Cx}:Passes df X E0:=fun _ _ _ _ _ _ _ h=>h.elim
structure bh (K:PySem.W.Frag) (x qual:Str) (st:Stmt) (f:Addr) (fd:FuncData):Prop where
  ex:∃(oc:Value) (od:Option Addr) (kV doc pm:Value) (an:Option Addr) (cdv ct:Value) (osl:Array (Option Value)),
    fd=PySem.W.fnOf x qual (e9 st) (bo st) (ah st) .none kV doc pm an cdv ct∧K.lookup f=some ⟨oc,od,.func fd,osl⟩∧PySem.W.codeIn K cdv qual=true
  kp:PySem.W.keepIn K (.ref f)=true
section
variable {P:Program}{w:World}{K:PySem.W.Frag}{mg:Str→Option Value}{base:Heap}
theorem bh.ok {x qual:Str}{st:Stmt}{f:Addr}{fd:FuncData}{N ps:List Str}{k:Nat}{sp:Sp}(F:bh K x qual st f fd)(S:ax N ps (ah st))(len:∀vs H Q E,sp vs H Q E→vs.length=ps.length)
    (hbody:∀(cdv:Value) (A:Around) (outer:List Env) (s:Shared) (H:Hp) (vs:List V) (Q:VK) (E:XK),bt k (A.deeper (envOfC qual (ah st) s.heap.objs.size f cdv))→sp vs H Q E→
      ∃t,f9 (bF df P w K mg base N qual (ah st) f cdv A outer s H E).bR (bo st) t∧t {nx:=fun _ H'=>Q .non H',rt:=Q} (start N vs) H):et P w K mg base df (k + 1) f fd ps sp:=by
  obtain ⟨oc,od,kV,doc,pm,an,cdv,ct,osl,rfl,lk,hcd⟩:=F.ex
  refine qp lk hcd S len fun A outer s H vs Q E hr hsp=>?_
  obtain ⟨t,h,q⟩:=hbody cdv A outer s H vs Q E hr hsp
  exact ⟨t,h.bR,q⟩
theorem bh.binds {x qual:Str}{st:Stmt}{f:Addr}{fd:FuncData}{ps:List Str}(F:bh K x qual st f fd)
    (h:∀(kV doc pm:Value) (an:Option Addr) (cdv ct:Value) (us:List Value),us.length=ps.length→bindArgs (PySem.W.fnOf x qual (e9 st) (bo st) (ah st) .none kV doc pm an cdv ct) ⟨us,[]⟩=pure (ps.zip us)):Binds K fd ps []:=by
  obtain ⟨oc,od,kV,doc,pm,an,cdv,ct,osl,rfl,lk,hcd⟩:=F.ex
  exact .all (h kV doc pm an cdv ct)
theorem n5 {x qual:Str}{st:Stmt}{f:Addr}{oc:Value}{od an:Option Addr}{osl:Array (Option Value)}{kV doc pm cdv ct:Value}(l:K.lookup f=some ⟨oc,od,.func (PySem.W.fnOf x qual (e9 st) (bo st) (ah st) .none kV doc pm an cdv ct),osl⟩)
    (c:PySem.W.codeIn K cdv qual=true) (k:PySem.W.keepIn K (.ref f)=true):bh K x qual st f (PySem.W.fnOf x qual (e9 st) (bo st) (ah st) .none kV doc pm an cdv ct):=⟨⟨oc,od,kV,doc,pm,an,cdv,ct,osl,rfl,l,c⟩,k⟩
end
theorem A9 {A:Around}{k:Nat}(hr:bt k A):A.units + 1 < cLine:=Nat.lt_of_le_of_lt (Nat.add_le_add_left (by decide:1≤64) _) hr.units
section
variable {X:Cx}
end
theorem jg {A B:Prop}(h:B):if false=true then A else B:=by
  rw [if_neg Bool.false_ne_true]
  exact h
theorem jq {A B:Prop}(h:A):if true=true then A else B:=by
  rw [if_pos rfl]
  exact h
noncomputable def au (H H':Hp):Prop:=∀b o,H b=some o→H' b=some o
theorem au.refl (H:Hp):au H H:=fun _ _ h=>h
theorem au.trans {H H1 H2:Hp}(a:au H H1)(b:au H1 H2):au H H2:=fun c o h=>b c o (a c o h)
theorem au.free {H H':Hp}(e:au H H'){l:Addr}(h:H' l=Option.none):H l=Option.none:=by
  cases q:H l with
  | none=>rfl
  | some o=>
    rw [e l o q] at h
    cases h
theorem au.seq {K:PySem.W.Frag}{H H':Hp}{a:Addr}{xs:List V}(e:au H H')(h:bq K H a xs):bq K H' a xs:=by
  rcases h with (h | ⟨o,h⟩) | h
  · exact .inl (.inl (e _ _ h))
  · exact .inl (.inr ⟨o,e _ _ h⟩)
  · exact .inr h
section
variable {X:Cx}
theorem rJ:dk X (.builtin "len") (fun xs H Q=>∃a kvs,xs=[V.ref a]∧H a=some (.dK kvs)∧Q (.int kvs.length) H):=by
  intro pins s σ H xs us Q I r h
  obtain ⟨a,kvs,rfl,ha,q⟩:=h
  obtain ⟨u,rfl,ru⟩:=vals1 r
  cases ru
  exact BE I (.inl ha) fun t s' I'=>⟨.int kvs.length,H,I',⟨t,rfl⟩,q⟩
end
section
variable {κ:Type} [DecidableEq κ]
theorem ik:∀{l:List κ} {k:κ},l.Nodup→¬k∈l→(l++[k]).Nodup
  | [],k,_,_=>by simp
  | a::r,k,h,hk=>by
    obtain ⟨h1,h2⟩:=List.nodup_cons.mp h
    show (a::(r++[k])).Nodup
    refine List.nodup_cons.mpr ⟨fun m=>?_,ik h2 fun m=>hk (List.mem_cons.mpr (Or.inr m))⟩
    rcases List.mem_append.mp m with q | q
    · exact h1 q
    · exact hk (List.mem_cons.mpr (Or.inl (List.mem_singleton.mp q).symm))
end
end L2
set_option maxHeartbeats 4000000
namespace L2
open PySem PySem.Spec PyProof.Rows
section
variable {X:Cx}
noncomputable def aG (X:Cx)(scope:Scope)(cl:List (Str×Addr))(C:Addr)(N':List Str)(s:Shared)(H:Hp)(ex:List Addr):Cx:=
  {X with N:=N',s₀:=s,H₀:=H,env:=compEnvC scope cl C X.env,outer:=X.stack,stack:=X.stack,ex:=ex,fn:=fun _=>false,pn:=[],xe:=fun _ _=>False}
noncomputable def PF (X:Cx)(ifs:List Expr)(t:TT):Prop:=
  ∀ (pins:List (Addr×Obj)) (s:Shared) (σ:St) (H:Hp) (Q:Bool→Hp→Prop),Inv X pins σ H s→t σ H Q→
    wpAny (model X.prog X.w) X.A (forIn ifs true fun c r=>if r=true then do let ok ← isTrue c X.env (eval c X.env);pure (ForInStep.yield ok) else pure (ForInStep.yield r)) (TP X pins σ Q) X.xe s
noncomputable def DA:TT:=fun _ H Q=>Q true H
theorem zj:PF X [] DA:=by
  intro pins s σ H Q I h
  exact wpAny_pure ⟨H,I,h⟩
theorem AB {c:Expr}{t:TT}(hc:PT X c t):PF X [c] t:=by
  intro pins s σ H Q I h
  show wpAny _ _ (forIn [c] true fun c r=>_) _ _ s
  rw [List.forIn_cons]
  simp only [if_true,List.forIn_nil]
  refine wpAny_bind (wpAny_bind (wpAny_mono (hc pins s σ H Q I h) (fun b s1 h1=>?_) fun _ _ e=>e))
  exact wpAny_pure (wpAny_pure h1)
theorem nB {prog:Program}{w:World}{A:Around}{R:Result→Shared→Prop}{s:Shared}{elt target iter:Expr}{ifs:List Expr}{scope:Scope}{pos:Pos}{it acc:Value}{env:Env}(I:Nat→Shared→Prop)
    (turn : ∀ n s,I n s→wpAny (model prog w) A (pyNext it) (fun r s₁=>match r with
      | none=>R (.ok .next) s₁
      | some v=>wpAny (model prog w) A (letOwnedTupleGo target it v) (fun _ s₁'=>wpAny (model prog w) A (assign target env v) (fun _ s₂=>
          wpAny (model prog w) A (forIn ifs true fun c r=>if r=true then do let ok ← isTrue c env (eval c env);pure (ForInStep.yield ok) else pure (ForInStep.yield r)) (fun ok s₃=>
            if ok=true then wpAny (model prog w) A (eval elt env) (fun x s₄=>
              wpAny (model prog w) A (call (.builtin "list.append") [acc,x]) (fun _ s₅=>∃m,m < n∧I m s₅) (fun _ _=>False) s₄) (fun _ _=>False) s₃
            else∃m,m < n∧I m s₃) (fun _ _=>False) s₂) (fun _ _=>False) s₁') (fun _ _=>False) s₁) (fun _ _=>False) s)
    (n:Nat) (h:I n s):
    codeAny (model prog w) A (.compLoop (.ListComp elt [⟨target,iter,ifs,0⟩] scope pos) 0 it acc env) R s:=by
  have no:∀{α:Type} {t:Sem α} {Q:α→Shared→Prop} {E:Value→Shared→Prop} {s:Shared},wpAny (model prog w) A t Q (fun _ _=>False) s→wpAny (model prog w) A t Q E s:=fun h=>wpAny_mono h (fun _ _ q=>q) fun _ _ f=>f.elim
  refine codeAny_loop rfl I (fun n s hI=>?_) n h
  show wpAny _ A ((compTurn (.ListComp elt [⟨target,iter,ifs,0⟩] scope pos) 0 it acc env).onRaise (fun x=>do noteFrame x env;theTreesLotGoes x)) _ _ s
  refine wpAny_noted ?_
  rw [compTurn_list]
  refine wpAny_bind (wpAny_standAt (wpAny_bind (wpAny_mono (no (turn n s hI)) (fun r s₁ h₁=>?_) fun _ _ h'=>h')))
  cases r with
  | none=>exact wpAny_pure h₁
  | some v=>
    refine wpAny_bind (wpAny_mono (no h₁) (fun _ s₁' h₁'=>?_) fun _ _ h'=>h')
    refine wpAny_bind (wpAny_mono (no h₁') (fun _ s₂ h₂=>wpAny_bind (wpAny_mono (no h₂) (fun ok s₃ h₃=>?_) fun _ _ h'=>h')) fun _ _ h'=>h')
    cases ok with
    | false=>exact wpAny_pure ⟨rfl,h₃⟩
    | true=>
      exact wpAny_bind (wpAny_bind (wpAny_mono (no h₃) (fun x s₄ h₄=>wpAny_bind (wpAny_mono (no h₄) (fun _ s₅ h₅=>wpAny_pure (wpAny_pure ⟨rfl,h₅⟩)) fun _ _ h'=>h')) fun _ _ h'=>h'))
noncomputable def rd (wi:TI)(g:TG)(tc:TT)(te:TE)(z:St→St):TE:=fun σ H Q=>wi σ H fun J H1=>
  ∃ W :Nat→Nat→List V→St→Hp→Prop,(∃m,W 0 m [] (z σ) H1)∧∀i m ys σ' H',W i m ys σ' H'→
    ys.length≤sizeLine∧((J.stop i H'∧∀p,H' p=none→Q (.ref p) (upd H' p (.lst ys)))∨
    (J.go i H'∧∀x H2,J.yld i H' x H2→g x σ' H2 fun σ2 H3=>tc σ2 H3 fun b H4=>
      if b=true then te σ2 H4 fun v H5=>∃m',m' < m∧W (i + 1) m' (ys++[v]) σ2 H5 else∃m',m' < m∧W (i + 1) m' ys σ2 H4))
structure cO (X:Cx) (scope:Scope) (cl:List (Str×Addr)) (own fr:List Str) (ix:List Nat):Prop where
  clos:closureFor scope X.env=pure cl
  cells:∀x c,cl.lookup x=some c→X.env.cells.lookup x=some c
  kind:scope.kind= .function
  ncell:∀y∈scope.names,y.2≠ .cell
  names:∀y∈scope.names,y.2= .local→scope.names.lookup y.1=some .local
  has:∀x,scope.names.lookup x=some .free→∃c,cl.lookup x=some c
  frees:∀x∈fr,scope.names.lookup x=some .free
  len:fr.length=ix.length
  at_:∀(k:Nat) (i:Nat) (x:Str),ix[k]?=some i→fr[k]?=some x→X.N[i]?=some x∧X.env.kindOf x=some .cell
theorem eD {env:Env}:∀{names:List (Str×NameKind)} {x:Str} {k:NameKind},
    (names.map fun (n,k)=>if (k==NameKind.free&&env.scope.kind== .function&&env.kindOf n==some .cell) then (n,NameKind.cell) else (n,k)).lookup x=some k→
    ∃k',names.lookup x=some k'∧(k=k'∨(k'= .free∧k= .cell))
  | [],_,_,h=>by simp at h
  | (n, k)::r,x,kk,h=>by
    have ih:=@eD env r x kk
    replace h:List.lookup x ((if (k==NameKind.free&&env.scope.kind== .function&&env.kindOf n==some .cell)=true then (n,NameKind.cell) else (n,k))::_)=some kk:=h
    by_cases hc:(k==NameKind.free&&env.scope.kind== .function&&env.kindOf n==some .cell)=true
    · rw [if_pos hc] at h
      cases hx:x==n with
      | true=>
        simp only [List.lookup_cons,hx,Option.some.injEq] at h ⊢
        have hk:k= .free:=by
          simp only [Bool.and_eq_true] at hc
          exact eq_of_beq hc.1.1
        exact ⟨k,rfl,.inr ⟨hk,h.symm⟩⟩
      | false=>
        simp only [List.lookup_cons,hx] at h ⊢
        exact ih h
    · rw [if_neg hc] at h
      cases hx:x==n with
      | true=>
        simp only [List.lookup_cons,hx,Option.some.injEq] at h ⊢
        exact ⟨k,rfl,.inl h.symm⟩
      | false=>
        simp only [List.lookup_cons,hx] at h ⊢
        exact ih h
theorem jd {env:Env}(hf:env.scope.kind= .function):∀{names:List (Str×NameKind)} {x:Str},names.lookup x=some .free→env.kindOf x=some .cell→
    (names.map fun (n,k)=>if (k==NameKind.free&&env.scope.kind== .function&&env.kindOf n==some .cell) then (n,NameKind.cell) else (n,k)).lookup x=some .cell
  | [],_,h,_=>by simp at h
  | (n,k)::r,x,h,hk=>by
    have ih:=@jd env hf r x
    show List.lookup x ((if (k==NameKind.free&&env.scope.kind== .function&&env.kindOf n==some .cell)=true then (n,NameKind.cell) else (n,k))::_)=_
    cases hx:x==n with
    | true=>
      simp only [List.lookup_cons,hx,Option.some.injEq] at h
      have e:x=n:=eq_of_beq hx
      subst e
      subst h
      rw [if_pos (by rw [hf,hk];rfl)]
      simp [List.lookup_cons]
    | false=>
      simp only [List.lookup_cons,hx] at h
      split
      · simp only [List.lookup_cons,hx];exact ih h hk
      · simp only [List.lookup_cons,hx];exact ih h hk
noncomputable def eJ (own:List Str)(ix:List Nat)(σ:St):St:=List.replicate own.length none++ix.map fun i=>(σ[i]?).join
structure Off (X:Cx) (pins:List (Addr×Obj)) (H:Hp) (s:Shared) (C:Addr):Prop where
  ns:∃m,s.heap.Ns C m
  free:H C=none
  ne:C≠X.env.locals
  young:X.s₀.heap.objs.size≤C
  cell:∀x c,X.env.cells.lookup x=some c→c≠C
  pin:∀p∈X.pn++pins,p.1≠C
theorem lW {elt target iter:Expr}{ifs:List Expr}{scope:Scope}{pos:Pos}{cl:List (Str×Addr)}{own fr:List Str}{ix:List Nat}{wi:TI}{g:TG}{tc:TT}{te:TE}
    {use:Option (Value→Sem Unit)} {Qf:Value→Shared→Prop} {pins:List (Addr×Obj)} {s:Shared} {σ:St} {H:Hp} {Q:VK}
    (hc:X.calm=true) (S:cO X scope cl own fr ix) (hi:PI X target iter wi)
    (hb:∀(C:Addr) (s:Shared) (H:Hp) (ex:List Addr),PG (aG X scope cl C (own++fr) s H ex) target g∧PF (aG X scope cl C (own++fr) s H ex) ifs tc∧PE (aG X scope cl C (own++fr) s H ex) elt te)
    (hs:∀x,foldedSetIterable iter X.env x=pure x) (I:Inv X pins σ H s) (h:rd wi g tc te (eJ own ix) σ H Q)
    (hfin:∀(D C:Addr) (H6:Hp) (s6:Shared),Inv X pins σ H6 s6→Off X pins H6 s6 C→Q (.ref D) H6→compPost (model X.prog X.w) X.A X.xe use Qf (.ref D) C (.ok .next) s6):
    wpAny (model X.prog X.w) X.A (comprehension (.ListComp elt [⟨target,iter,ifs,0⟩] scope pos) scope X.env (firstIterPos [⟨target,iter,ifs,0⟩] pos) (newList []) false (eval iter X.env) use) Qf X.xe s:=by
  refine wpAny_comprehension_free (use:=use) rfl hs S.clos S.kind S.names ?_
  refine aR (hi pins s σ H _ I h) fun v s1 h1=>aR h1 fun itv s2 h2=>?_
  obtain ⟨it,fp,tn,J,H2,rfl,I2,T,st2,f2,W,⟨m0,w0⟩,turn⟩:=h2
  refine wpAny_newObj_type (wpAny_newFunctionEnv S.ncell (by intro y hy;simp at hy) (fun h₁ hns₁ hsb₁=>?_) S.kind)
  dsimp only at hns₁ hsb₁ ⊢
  generalize hH3:s2.heap.push {cls:=.type "list",dict:=none,data:=.seq ([]:List Value).toArray}=h3 at hns₁ hsb₁ ⊢
  have hC:h3.objs.size=s2.heap.objs.size + 1:=by rw [← hH3,Heap.size_push]
  have to3:∀b o,s2.heap.get? b=some o→h3.get? b=some o:=fun b o e=>by rw [← hH3];exact Heap.get?_push_of_some _ e
  have getD3:h3.get? s2.heap.objs.size=some {cls:=.type "list",data:=.seq ([]:List Value).toArray}:=by rw [← hH3];exact Heap.get?_push_size _ rfl
  have to1:∀b o,h3.get? b=some o→h₁.get? b=some o:=fun b o e=>hsb₁.extBut b o (Nat.ne_of_lt (Heap.lt_size e)) (Heap.get?_push_of_some _ e)
  have frD:∀{b:Addr},b∈fp→b≠s2.heap.objs.size:=fun {b} hb z=>by
    obtain ⟨o,e,_⟩:=T.obj 0 _ st2 b hb
    exact absurd (Heap.lt_size e) (by rw [z];exact Nat.lt_irrefl _)
  have frC:∀{b:Addr},b∈fp→b≠h3.objs.size:=fun {b} hb z=>by
    obtain ⟨o,e,_⟩:=T.obj 0 _ st2 b hb
    exact absurd (Heap.lt_size e) (by rw [z,hC];exact Nat.not_lt.mpr (Nat.le_succ _))
  have HD2:H2 s2.heap.objs.size=none:=I2.hok.fresh (Nat.le_refl _)
  -- the block's context
  let X':Cx:=aG X scope cl h3.objs.size (own++fr) {s2 with heap:=h3} H2 (s2.heap.objs.size::fp)
  have ok':X'.Ok:=by
    refine ⟨I2.ok.mod,S.kind,I2.ok.glob,I2.ok.blt,Nat.le_refl _,fun x y c e1 e2=>I2.ok.inj x y c (S.cells x c e1) (S.cells y c e2),fun x hx=>?_,fun x c z=>?_,I2.ok.hd,I2.ok.frames,.inl rfl,fun b hb=>?_,fun b o e=>?_,?_,fun b o e hb=>?_,fun b hb z=>?_,?_,I2.fE⟩
    · have key:scope.names.lookup x=some .free:=by
        have hx:(relabel scope X.env).names.lookup x=some .cell∨(relabel scope X.env).names.lookup x=some .free:=hx
        rcases hx with hx | hx
        · obtain ⟨k',e,z⟩:=eD hx
          rcases z with z | z
          · subst z;exact absurd rfl (S.ncell _ (PySem.mem_of_lookup e))
          · rw [e,z.1]
        · obtain ⟨k',e,z⟩:=eD hx
          rcases z with z | z
          · subst z;exact e
          · cases z.2
      exact S.has x key
    · cases z
    · rcases List.mem_cons.mp hb with rfl | hb
      · refine ⟨by rw [show X'.env.locals=h3.objs.size from rfl,hC];exact Nat.ne_of_lt (Nat.lt_succ_self _),fun x c e z=>?_⟩
        obtain ⟨v',q⟩:=I2.cell x c (S.cells x c e)
        exact absurd q.lt (by rw [z];exact Nat.lt_irrefl _)
      · exact ⟨frC hb,fun x c e=>(f2 b hb).2.2.2.2.1 x c (S.cells x c e)⟩
    · obtain ⟨e1,e2⟩:=I2.bs b o e
      exact ⟨to3 b o e1,e2⟩
    · show X.base.objs.size≤h3.objs.size
      have:=I2.ok.bsz;have:=I2.sz
      omega
    · rcases List.mem_cons.mp hb with rfl | hb
      · exact absurd (Heap.lt_size (I2.bs _ o e).1) (Nat.lt_irrefl _)
      · rcases (f2 b hb).2.2.2.1 with z | z
        · exact I2.ok.noex b o e z
        · exact absurd (Nat.lt_of_lt_of_le (Nat.lt_of_lt_of_le (Heap.lt_size e) I2.ok.bsz) z) (Nat.lt_irrefl _)
    · replace z:b∈bV X.stack:=z
      rcases List.mem_cons.mp hb with rfl | hb
      · obtain ⟨_,o,ho,_⟩:=I2.stack.mem z
        exact absurd (Heap.lt_size ho) (Nat.lt_irrefl _)
      · rcases List.mem_cons.mp (I2.lh b z) with q | q
        · exact (f2 b hb).2.1 q
        · exact (f2 b hb).2.2.1 q
    · exact I2.stack.of_keeps fun b o e _=>⟨o,to3 b o e,rfl⟩
  have I4 : Inv X' [] (eJ own ix σ) H2 {s2 with heap:=h₁,toks:=s2.toks + ([]:List (Str×Value)).length}:=by
    refine ⟨ok',rfl,I2.bare,Un.kept to1,⟨_,hns₁,fun i x v e1 e2 e3=>?_⟩,fun x c e=>?_,I2.hok.fresh (by show s2.heap.objs.size≤h3.objs.size;rw [hC];exact Nat.le_succ _),fun x c e=>I2.freeC x c (S.cells x c e),fun p hp=>absurd (show p∈([]:List (Addr×Obj)) from hp) (by simp),I2.hok.kept fun b o e=>to1 b o (to3 b o e),?_⟩
    · replace e1:(own++fr)[i]?=some x:=e1
      unfold eJ at e2
      by_cases hlt:i < own.length
      · rw [List.getElem?_append_left (by simpa using hlt),List.getElem?_replicate] at e2
        split at e2<;>cases e2
      · rw [List.getElem?_append_right (by simpa using hlt)] at e1 e2
        rw [List.length_replicate,List.getElem?_map] at e2
        cases ek:ix[i - own.length]? with
        | none=>rw [ek] at e2;cases e2
        | some j=>
          rw [ek] at e2
          obtain ⟨n1,n2⟩:=S.at_ _ j x ek e1
          have e2':σ[j]?=some (some v):=by
            have q:(σ[j]?).join=some v:=Option.some.inj e2
            cases es:σ[j]? with
            | none=>rw [es] at q;cases q
            | some o=>rw [es] at q;exact congrArg some q
          obtain ⟨m,hn,hl⟩:=I2.loc
          obtain ⟨u,r,l⟩:=hl j x v n1 e2' (.inr (.inl n2))
          refine ⟨u,r,?_⟩
          have hfr:scope.names.lookup x=some .free:=S.frees x (List.mem_of_getElem? e1)
          rcases l with ⟨k,_⟩ | ⟨_,c,hcl,z⟩
          · rw [n2] at k;cases k
          · obtain ⟨c',hc'⟩:=S.has x hfr
            have q:=S.cells x c' hc'
            rw [hcl] at q
            cases q
            obtain ⟨oc,ho,hd⟩:=z
            exact .inr ⟨.inl (jd I2.ok.kind hfr n2),c,hc',oc,to1 _ _ (to3 _ _ ho),hd⟩
    · obtain ⟨v',oc,ho,hd⟩:=I2.cell x c (S.cells x c e)
      exact ⟨v',oc,to1 _ _ (to3 _ _ ho),hd⟩
    · show (eJ own ix σ).length=(own++fr).length
      unfold eJ
      rw [List.length_append,List.length_append,List.length_replicate,List.length_map,S.len]
  obtain ⟨hg,hf,he⟩:=hb h3.objs.size {s2 with heap:=h3} H2 (s2.heap.objs.size::fp)
  have hg:PG X' target g:=hg
  have hf:PF X' ifs tc:=hf
  have he:PE X' elt te:=he
  have locX:X'.env.locals=h3.objs.size:=rfl
  -- D's place
  have Dne:s2.heap.objs.size≠X'.env.locals:=by rw [locX,hC];exact Nat.ne_of_lt (Nat.lt_succ_self _)
  have Dfs:s2.heap.objs.size∉X'.fs:=ok'.exfs _ (List.mem_cons_self ..)
  have Dcl:∀x c,X'.env.cells.lookup x=some c→c≠s2.heap.objs.size:=fun x c e=>(ok'.exf _ (List.mem_cons_self ..)).2 x c e
  have fpX:∀{pl:List (Addr×Obj)} {H':Hp},(∀p∈pl,p.1=s2.heap.objs.size)→(∀b∈fp,H' b=none)→∀b∈fp,iP X' pl H' b:=fun hp hn b hb=>
    ⟨hn b hb,frC hb,ok'.exfs b (List.mem_cons_of_mem _ hb),.inl (List.mem_cons_of_mem _ hb),(ok'.exf b (List.mem_cons_of_mem _ hb)).2,fun p q=>by
      rw [hp p (by simpa [show X'.pn=[] from rfl] using q)];exact Ne.symm (frD hb)⟩
  have pinD:∀{σ':St} {H':Hp} {s':Shared} {o:Obj},Inv X' [] σ' H' s'→s'.heap.get? s2.heap.objs.size=some o→H' s2.heap.objs.size=none→(∀v,o.data≠ .cell v)→Inv X' [(s2.heap.objs.size,o)] σ' H' s':=fun I e n d=>
    I.gv fun p hp=>by
      obtain rfl:=List.mem_singleton.mp hp
      exact ⟨e,n,Dne,Dfs,d⟩
  have loop:codeAny (model X.prog X.w) X.A (.compLoop (.ListComp elt [⟨target,iter,ifs,0⟩] scope pos) 0 (.ref it) (.ref s2.heap.objs.size) X'.env)
      (compPost (model X.prog X.w) X.A X.xe use Qf (.ref s2.heap.objs.size) h3.objs.size) {s2 with heap:=h₁,toks:=s2.toks + ([]:List (Str×Value)).length}:=by
    refine nB (fun n s'=>∃i ys its k σ' H',Inv X' [] σ' H' s'∧tn i s'.heap∧(∀b∈fp,H' b=none)∧H' s2.heap.objs.size=none∧Vals ys its∧s'.heap.get? s2.heap.objs.size=some {cls:=.type "list",data:=.seq its.toArray k}∧W i n ys σ' H')
      ?_ m0 ⟨0,[],[],0,_,H2,I4,T.keep 0 _ _ st2 fun b _ o e=>to1 b o (to3 b o e),fun b hb'=>(f2 b hb').1,HD2,.nil,to1 _ _ getD3,w0⟩
    rintro n s5 ⟨i,ys,its,k,σ5,H5,I5,st5,fr5,hD5,vs5,get5,w5⟩
    obtain ⟨hlen,alt⟩:=turn i n ys σ5 H5 w5
    have P5:=pinD I5 get5 hD5 (fun v z=>by cases z)
    have okp:∀p∈[(s2.heap.objs.size,({cls:=.type "list",data:=.seq its.toArray k}:Obj))],p.1=s2.heap.objs.size:=fun p hp=>by
      rw [List.mem_singleton.mp hp]
    rcases alt with ⟨stop,q⟩ | ⟨go,step⟩
    · refine aR (T.done X' rfl rfl rfl hc i _ s5 σ5 H5 _ P5 (fpX okp fr5) st5 stop) fun r s6 ⟨hr,I6⟩=>?_
      subst hr
      obtain ⟨m6,hn6,_⟩:=I6.loc
      obtain ⟨get6,_,_,_,_⟩:=I6.pin (s2.heap.objs.size,({cls:=.type "list",data:=.seq its.toArray k}:Obj)) (List.mem_append_right _ (List.mem_singleton.mpr rfl))
      have toh:∀b o,b≠h3.objs.size→s6.heap.get? b=some o→s6.heap.get? b=some o:=fun b o hb e=>e
      have exn:∀{b:Addr} {o:Obj},s2.heap.get? b=some o→b∉fp→b∉X'.ex:=fun {b o} e hb z=>by
        rcases List.mem_cons.mp z with z | z
        · exact absurd (Heap.lt_size e) (by rw [z];exact Nat.lt_irrefl _)
        · exact hb z
      have neC:∀{b:Addr} {o:Obj},s2.heap.get? b=some o→b≠h3.objs.size:=fun {b o} e z=>by
        have q1:=Heap.lt_size e
        rw [z,hC] at q1
        exact absurd q1 (Nat.not_lt.mpr (Nat.le_succ _))
      have neD:∀{b:Addr} {o:Obj},s2.heap.get? b=some o→b≠s2.heap.objs.size:=fun {b o} e=>Nat.ne_of_lt (Heap.lt_size e)
      have neD':∀{b:Addr} {o:HO},H2 b=some o→b≠s2.heap.objs.size:=fun {b o} e=>cx e HD2
      have U:Un (bV X.stack) fp H2 (upd H5 s2.heap.objs.size (.lst ys)) s2.heap s6.heap:=by
        refine ⟨fun b o e n hb hx=>?_,fun b o e n hb hx=>?_,fun b o e n hx=>?_,fun b o e hx=>?_,fun b xs e=>?_,fun b o u e=>?_,fun b ps e=>?_⟩
        · exact toh b o (neC e) (I6.base.keep b o (to3 b o e) n hb (exn e hx))
        · obtain ⟨sl,q1⟩:=I6.base.slot b o (to3 b o e) n hb (exn e hx)
          exact ⟨sl,toh b _ (neC e) q1⟩
        · rw [aJ (neD e)]
          exact I6.base.free b o (to3 b o e) n (exn e hx)
        · obtain ⟨o',q1⟩:=I6.base.there b o (to3 b o e) (exn e hx)
          exact ⟨o',toh b _ (neC e) q1⟩
        · rw [aJ (neD' e)];exact I6.base.tups b xs e
        · rw [aJ (neD' e)];exact I6.base.frzs b o u e
        · rw [aJ (neD' e)];exact I6.base.tbls b ps e
      have HC:H5 h3.objs.size=none:=I6.free
      have hok:cg X.prog X.w (upd H5 s2.heap.objs.size (.lst ys)) s6.heap:=fun b u e=>by
        by_cases hbD:b=s2.heap.objs.size
        · subst hbD
          rw [aD] at e
          cases e
          exact ⟨hlen,its,k,vs5,toh _ _ (by rw [hC];exact Nat.ne_of_lt (Nat.lt_succ_self _)) get6⟩
        · rw [aJ hbD] at e
          refine (I6.hok b u e).gC (fun c o hco q1=>toh c o (fun z=>?_) q1) (fun c q1=>by rw [aJ (cx q1 hD5)];exact q1) fun c xs q1=>by rw [aJ (cx q1 hD5)];exact q1
          rcases hco with hco | hco
          · rw [← hco,z,HC] at e;cases e
          · rw [z,HC] at hco;cases hco
      have fin:=I2.qv (s':=s6) (ch:=fp) I6.os U hok I6.bare fun b hb'=>⟨(f2 b hb').2.2.2.1,(f2 b hb').2.1,(f2 b hb').2.2.2.2.1,(f2 b hb').2.2.2.2.2⟩
      refine hfin _ h3.objs.size _ s6 fin ⟨⟨m6,hn6⟩,?_,?_,?_,fun x c e z=>?_,fun p hp z=>?_⟩ (q _ hD5)
      · rw [aJ (by rw [hC];exact Nat.ne_of_gt (Nat.lt_succ_self _))];exact HC
      · intro z
        have:=I2.lt
        rw [← z,hC] at this
        exact absurd this (Nat.not_lt.mpr (Nat.le_succ _))
      · rw [hC];exact Nat.le_trans I2.sz (Nat.le_succ _)
      · obtain ⟨v',q1⟩:=I2.cell x c e
        have:=q1.lt
        rw [z,hC] at this
        exact absurd this (Nat.not_lt.mpr (Nat.le_succ _))
      · have:=Heap.lt_size (I2.pin p hp).1
        rw [z,hC] at this
        exact absurd this (Nat.not_lt.mpr (Nat.le_succ _))
    · refine aR (T.item X' rfl rfl rfl hc i _ s5 σ5 H5 _ P5 (fpX okp fr5) st5 go) fun r s6 ⟨u,hr,h6⟩=>?_
      subst hr
      refine aR h6 fun _ s7 ⟨x,H7,I7,r7,y7,st7,fr7⟩=>?_
      have I7':=I7.pinned (fpX okp fr7) (T.obj _ _ st7)
      refine aR (hg _ s7 σ5 H7 x u _ I7' r7 (step x H7 y7)) fun _ s8 ⟨σ8,H8,I8,q8⟩=>?_
      refine aR (hf _ s8 σ8 H8 _ I8 q8) fun b s9 ⟨H9,I9,q9⟩=>?_
      have out:∀{σ':St} {H':Hp} {s':Shared},Inv X' ([(s2.heap.objs.size,({cls:=.type "list",data:=.seq its.toArray k}:Obj))]++iE fp s7.heap) σ' H' s'→
          tn (i + 1) s'.heap∧(∀b∈fp,H' b=none)∧H' s2.heap.objs.size=none∧s'.heap.get? s2.heap.objs.size=some {cls:=.type "list",data:=.seq its.toArray k}:=fun I'=>by
        refine ⟨T.keep _ _ _ st7 fun b hb' o e=>(I'.pin (b,o) (List.mem_append_right _ (List.mem_append_right _ (gj hb' e)))).1,fun b hb'=>?_,(I'.pin (s2.heap.objs.size,({cls:=.type "list",data:=.seq its.toArray k}:Obj)) (List.mem_append_right _ (List.mem_append_left _ (List.mem_singleton.mpr rfl)))).2.1,(I'.pin (s2.heap.objs.size,({cls:=.type "list",data:=.seq its.toArray k}:Obj)) (List.mem_append_right _ (List.mem_append_left _ (List.mem_singleton.mpr rfl)))).1⟩
        obtain ⟨o,e,d⟩:=T.obj _ _ st7 b hb'
        exact (I'.pin (b,o) (List.mem_append_right _ (List.mem_append_right _ (gj hb' e)))).2.1
      cases b with
      | false=>
        rw [if_neg Bool.false_ne_true] at q9 ⊢
        obtain ⟨m',hm,w'⟩:=q9
        obtain ⟨o1,o2,o3,o4⟩:=out I9
        exact ⟨m',hm,i + 1,ys,its,k,σ8,H9,I9.gv (fun _ z=>nomatch z),o1,o2,o3,vs5,o4,w'⟩
      | true=>
        rw [if_pos rfl] at q9 ⊢
        refine aR (he _ s9 σ8 H9 _ I9 q9) fun uv s10 ⟨v10,H10,I10,r10,q10⟩=>?_
        obtain ⟨m',hm,w'⟩:=q10
        obtain ⟨o1,o2,o3,o4⟩:=out I10
        refine wpAny_list_append_plain ⟨k,o4⟩ (fun h' hpl hsb=>?_) (by
          have:=vs5.length
          rw [List.size_toArray,← this];exact hlen)
        obtain ⟨k',hk'⟩:=hpl
        have I11:Inv X' (iE fp s7.heap) σ8 H10 s10:=I10.gv fun p hp=>I10.pin p (List.mem_append_right _ (List.mem_append_right _ hp))
        have I12:Inv X' [] σ8 H10 {s10 with heap:=h'}:=(I10.gv (fun _ z=>nomatch z):Inv X' [] σ8 H10 s10).turned (t':=s10.toks) (fun b o hb' e=>hsb.extBut b o hb' e) o3 Dne (.inl (List.mem_cons_self ..)) Dcl (fun p hp=>absurd (show p∈([]:List (Addr×Obj)) from hp) (by simp))
        refine ⟨m',hm,i + 1,ys++[v10],its++[uv],k',σ8,H10,I12,T.keep _ _ _ o1 fun b hb' o e=>hsb.extBut b o (frD hb') e,o2,o3,vs5.append (.cons r10 .nil),?_,w'⟩
        show h'.get? _=_
        rw [hk']
        simp
  exact codeAny_compStart_list loop (T.self X.A 0 _ _ _ (T.keep 0 _ _ st2 fun b _ o e=>to1 b o (to3 b o e)) loop)
theorem Off.gone {pins:List (Addr×Obj)}{σ:St}{H:Hp}{s:Shared}{C:Addr}{h':Heap}(o:Off X pins H s C)(I:Inv X pins σ H s)(hsb:Heap.SameBut C s.heap h'):Inv X pins σ H {s with heap:=h'}:=
  I.turned (t':=s.toks) (fun b u hb e=>hsb.extBut b u hb e) o.free o.ne (.inr o.young) o.cell o.pin
theorem pR {elt target iter:Expr}{ifs:List Expr}{scope:Scope}{pos:Pos}{cl:List (Str×Addr)}{own fr:List Str}{ix:List Nat}{wi:TI}{g:TG}{tc:TT}{te:TE}
    (hc:X.calm=true) (S:cO X scope cl own fr ix) (hi:PI X target iter wi)
    (hb:∀(C:Addr) (s:Shared) (H:Hp) (ex:List Addr),PG (aG X scope cl C (own++fr) s H ex) target g∧PF (aG X scope cl C (own++fr) s H ex) ifs tc∧PE (aG X scope cl C (own++fr) s H ex) elt te)
    (hs:autoParam (∀x,foldedSetIterable iter X.env x=pure x) Fc.cZ):
    PE X (.ListComp elt [⟨target,iter,ifs,0⟩] scope pos) (rd wi g tc te (eJ own ix)):=by
  intro pins s σ H Q I h
  rw [eval_ListComp]
  refine lW (use:=none) hc S hi hb hs I h fun D C H6 s6 I6 o6 q=>?_
  obtain ⟨m,hn⟩:=o6.ns
  exact ⟨m,hn,fun h' hsb=>⟨.ref D,H6,o6.gone I6 hsb,rfl,q⟩⟩
theorem iK {i:Nat}{y:Str}{py spos:Pos}{elt target iter:Expr}{ifs:List Expr}{scope:Scope}{pos:Pos}{cl:List (Str×Addr)}{own fr:List Str}{ix:List Nat}{wi:TI}{g:TG}{tc:TT}{te:TE}
    (hsw:swapsWith (.ListComp elt [⟨target,iter,ifs,0⟩] scope pos) (some (.Name y py)) spos.line X.env=pure true)
    (hN:X.N.Nodup) (hi':X.N[i]?=some y) (hx:Loc X.env.scope y)
    (hc:X.calm=true) (S:cO X scope cl own fr ix) (hi:PI X target iter wi)
    (hb:∀(C:Addr) (s:Shared) (H:Hp) (ex:List Addr),PG (aG X scope cl C (own++fr) s H ex) target g∧PF (aG X scope cl C (own++fr) s H ex) ifs tc∧PE (aG X scope cl C (own++fr) s H ex) elt te)
    (hs:autoParam (∀x,foldedSetIterable iter X.env x=pure x) Fc.cZ)
    (hf:X.fn y=true∨X.env.scope.names.lookup y=some .local:=by first | exact .inl rfl | exact .inr rfl | assumption):
    PS X (.Assign [.Name y py] (.ListComp elt [⟨target,iter,ifs,0⟩] scope pos) spos) (uI (rd wi g tc te (eJ own ix)) (mJ i)):=by
  intro pins s σ H D I h
  rw [exec_Assign_Name_used _ _ _ _ hsw]
  refine wpAny_bind (wpAny_standAt (wpAny_bind ?_))
  show wpAny _ _ (do let _ ← comprehension (.ListComp elt [⟨target,iter,ifs,0⟩] scope pos) scope X.env _ (newList []) false (eval iter X.env) (some (assign (.Name y py) X.env))) _ _ s
  refine wpAny_bind (wpAny_mono (lW (use:=some (assign (.Name y py) X.env)) (Qf:=fun _ s'=>SP X pins D .next s') hc S hi hb hs I h fun A C H6 s6 I6 o6 q=>?_) (fun _ s' hq=>wpAny_pure (wpAny_pure hq)) fun _ _ e=>e)
  show wpAny _ _ (assign (.Name y py) X.env (.ref A)) _ _ _
  refine wpAny_assign_Name (my I6 hN hi' hx (v:=.ref A) rfl (fun s7 I7 hw=>?_) hf)
  obtain ⟨c,hsb7,hcc⟩:=hw
  have neC:C≠c:=by
    rcases hcc with rfl | hcc
    · exact o6.ne
    · exact Ne.symm (o6.cell y c hcc)
  obtain ⟨m,hn⟩:=o6.ns
  have o7:Off X pins H6 s7 C:=⟨⟨m,hn.sameBut hsb7 neC⟩,o6.free,o6.ne,o6.young,o6.cell,o6.pin⟩
  exact ⟨m,hn.sameBut hsb7 neC,fun h' hsb=>⟨_,H6,o7.gone I7 hsb,q⟩⟩
end
end L2
namespace Fc
open PySem PySem.Spec L2
open PyProof.Rows hiding St
section
variable {X:Cx}
noncomputable def dG (X:Cx)(e:Expr):TE:=fun σ H Q=>∀(pins:List (Addr×Obj)) (s:Shared),Inv X pins σ H s→wpAny (model X.prog X.w) X.A (eval e X.env) (EP X pins σ Q) X.xe s
noncomputable def j5 (X:Cx)(e:Expr):TT:=fun σ H Q=>∀(pins:List (Addr×Obj)) (s:Shared),Inv X pins σ H s→wpAny (model X.prog X.w) X.A (isTrue e X.env (eval e X.env)) (TP X pins σ Q) X.xe s
noncomputable def ux (X:Cx)(e:Expr):TT:=fun σ H Q=>∀(whole:Sem Value) (pins:List (Addr×Obj)) (s:Shared),Inv X pins σ H s→wpAny (model X.prog X.w) X.A (isTrue e X.env whole) (TP X pins σ Q) X.xe s
noncomputable def gU (X:Cx)(e:Expr):TG:=fun v σ H Q=>∀(pins:List (Addr×Obj)) (s:Shared) (u:Value),Inv X pins σ H s→RelV v u→wpAny (model X.prog X.w) X.A (assign e X.env u) (fun _ s'=>∃σ' H',Inv X pins σ' H' s'∧Q σ' H') X.xe s
noncomputable def j6 (X:Cx)(st:Stmt):TS:=fun D σ H=>∀(pins:List (Addr×Obj)) (s:Shared),Inv X pins σ H s→wpAny (model X.prog X.w) X.A (exec st X.env) (SP X pins D) X.xe s
noncomputable def gq (X:Cx)(st:List Stmt):TS:=fun D σ H=>∀(pins:List (Addr×Obj)) (s:Shared),Inv X pins σ H s→wpAny (model X.prog X.w) X.A (execs st X.env) (SP X pins D) X.xe s
noncomputable def h9 (X:Cx)(es:List Expr):TA:=fun σ H Q=>∀(pos:Pos) (pins:List (Addr×Obj)) (s:Shared),Inv X pins σ H s→wpAny (model X.prog X.w) X.A (spliced (backTo pos (starEach es X.env))) (AP X pins σ Q) X.xe s
noncomputable def ic (X:Cx)(ifs:List Expr):TT:=fun σ H Q=>∀(pins:List (Addr×Obj)) (s:Shared),Inv X pins σ H s→
  wpAny (model X.prog X.w) X.A (forIn ifs true fun c r=>if r=true then do let ok ← isTrue c X.env (eval c X.env);pure (ForInStep.yield ok) else pure (ForInStep.yield r)) (TP X pins σ Q) X.xe s
theorem aL {e:Expr}:PE X e (dG X e):=fun pins s _ _ _ I h=>h pins s I
theorem jO {e:Expr}:PT X e (j5 X e):=fun pins s _ _ _ I h=>h pins s I
theorem wk {e:Expr}:PW X e (ux X e):=fun wh pins s _ _ _ I h=>h wh pins s I
theorem vw {e:Expr}:PG X e (gU X e):=fun pins s _ _ _ u _ I r h=>h pins s u I r
theorem pB {e:Stmt}:PS X e (j6 X e):=fun pins s _ _ _ I h=>h pins s I
theorem dB {e:List Stmt}:f9 X e (gq X e):=fun pins s _ _ _ I h=>h pins s I
theorem i6 {e:List Expr}:PA X e (h9 X e):=fun pos pins s _ _ _ I h=>h pos pins s I
theorem eS {e:Expr}{t:TE}(h:PE X e t){σ:St}{H:Hp}{Q:VK}(q:t σ H Q):dG X e σ H Q:=fun pins s I=>h pins s σ H Q I q
theorem tS {e:Expr}{t:TT}(h:PT X e t){σ:St}{H:Hp}{Q:Bool→Hp→Prop}(q:t σ H Q):j5 X e σ H Q:=fun pins s I=>h pins s σ H Q I q
theorem wS {e:Expr}{t:TT}(h:PW X e t){σ:St}{H:Hp}{Q:Bool→Hp→Prop}(q:t σ H Q):ux X e σ H Q:=fun wh pins s I=>h wh pins s σ H Q I q
theorem gS {e:Expr}{t:TG}(h:PG X e t){v:V}{σ:St}{H:Hp}{Q:St→Hp→Prop}(q:t v σ H Q):gU X e v σ H Q:=fun pins s u I r=>h pins s σ H v u Q I r q
theorem sS {e:Stmt}{t:TS}(h:PS X e t){σ:St}{H:Hp}{D:Ends}(q:t D σ H):j6 X e D σ H:=fun pins s I=>h pins s σ H D I q
theorem nA {e:List Stmt}{t:TS}(h:f9 X e t){σ:St}{H:Hp}{D:Ends}(q:t D σ H):gq X e D σ H:=fun pins s I=>h pins s σ H D I q
theorem aS {e:List Expr}{t:TA}(h:PA X e t){σ:St}{H:Hp}{Q:List V→Hp→Prop}(q:t σ H Q):h9 X e σ H Q:=fun pos pins s I=>h pos pins s σ H Q I q
theorem fS {e:List Expr}{t:TT}(h:PF X e t){σ:St}{H:Hp}{Q:Bool→Hp→Prop}(q:t σ H Q):ic X e σ H Q:=fun pins s I=>h pins s σ H Q I q
end
theorem au.fresh {H:Hp}{p:Addr}(h:H p=none)(o:HO):au H (upd H p o):=fun b u q=>by rw [aJ (cx q h)];exact q
structure Rep (α:Type) where
  R:PySem.W.Frag→Hp→V→α→Prop
  mono:∀{K:PySem.W.Frag} {H H':Hp} {v:V} {x:α},au H H'→R K H v x→R K H' v x
noncomputable def ae:Rep Int:=⟨fun _ _ v x=>v= .int x,fun _ h=>h⟩
noncomputable def aO:Rep Bool:=⟨fun _ _ v x=>v= .bl x,fun _ h=>h⟩
theorem Paired.map {α β:Type}{F G:α→β→Prop}(f:∀a b,F a b→G a b):∀{l:List α} {m:List β},PySem.Paired F l m→PySem.Paired G l m
  | _,_,.nil=>.nil
  | _,_,.cons h t=>.cons (f _ _ h) (Paired.map f t)
noncomputable def ag {α:Type}(r:Rep α):Rep (List α):=⟨fun K H v xs=>∃a vs,v= .ref a∧H a=some (.lst vs)∧PySem.Paired (r.R K H) vs xs∧xs.length≤sizeLine,
  fun s ⟨a,vs,e,q,p,z⟩=>⟨a,vs,e,s _ _ q,Paired.map (fun _ _=>r.mono s) p,z⟩⟩
noncomputable def gf:Rep (List Int):=⟨fun K H v xs=>∃a,v= .ref a∧bq K H a (xs.map V.int)∧xs.length≤63,fun s ⟨a,e,q,z⟩=>⟨a,e,s.seq q,z⟩⟩
noncomputable def ay {α β:Type}(r:Rep α)(r':Rep β):Rep (α×β):=⟨fun K H v x=>∃a v1 v2,v= .ref a∧H a=some (.tup [v1,v2])∧r.R K H v1 x.1∧r'.R K H v2 x.2,
  fun s ⟨a,v1,v2,e,q,h1,h2⟩=>⟨a,v1,v2,e,s _ _ q,r.mono s h1,r'.mono s h2⟩⟩
noncomputable abbrev Row:=Int×Int×Int×Int
noncomputable def aA:Rep Row:=⟨fun K H v x=>∃a,v= .ref a∧H a=some (.tup [.int x.1,.int x.2.1,.int x.2.2.1,.int x.2.2.2]),fun s ⟨a,e,q⟩=>⟨a,e,s _ _ q⟩⟩
noncomputable abbrev aH:=List Int×List Row
noncomputable def bg:Rep aH:=ay (ag ae) (ag aA)
structure Ext (H R H' R':Hp):Prop where
  h:au H H'
  r:au R R'
  s:au R' H'
  old:∀b,H b≠none→R' b=R b
theorem Ext.refl {H R:Hp}(s:au R H):Ext H R H R:=⟨au.refl _,au.refl _,s,fun _ _=>rfl⟩
theorem au.some {H H':Hp}(s:au H H'){b:Addr}(h:H b≠none):H' b≠none:=by
  cases q:H b with
  | none=>exact absurd q h
  | some o=>rw [s b o q];exact Option.some_ne_none o
theorem Ext.trans {H R H1 R1 H2 R2:Hp}(a:Ext H R H1 R1)(b:Ext H1 R1 H2 R2):Ext H R H2 R2:=
  ⟨a.h.trans b.h,a.r.trans b.r,b.s,fun c hc=>(b.old c (au.some a.h hc)).trans (a.old c hc)⟩
theorem Ext.fresh {H R:Hp}(s:au R H){p:Addr}(h:H p=none)(o:HO):Ext H R (upd H p o) (upd R p o):=
  ⟨au.fresh h o,au.fresh (s.free h) o,fun b u q=>by
    by_cases e:b=p
    · subst e;rw [aD] at q ⊢;exact q
    · rw [aJ e] at q ⊢;exact s b u q,fun b hb=>aJ fun e=>hb (e▸h)⟩
theorem Ext.cV {H R:Hp}(s:au R H){p:Addr}(h:H p=none)(o:HO):Ext H R (upd H p o) R:=
  ⟨au.fresh h o,au.refl _,s.trans (au.fresh h o),fun _ _=>rfl⟩
structure i5:Type 1 where
  fp:List Addr
  R:PySem.W.Frag→Hp→Hp→V→Prop
  loc:∀{K:PySem.W.Frag} {H R0 H' R':Hp} {v:V},(∀a∈fp,H' a=H a)→au R0 R'→R K H R0 v→R K H' R' v
  has:∀{K:PySem.W.Frag} {H R0:Hp} {v:V},R K H R0 v→∀a∈fp,H a≠none
inductive Ent:Type 1
  | no
  | im {α:Type} (r:Rep α) (x:α)
  | mu {α:Type} (r:Rep α) (xs:List α)
  | di (kvs:List (Int×V))
  | ob (B:i5)
noncomputable def cM (kvs:List (Int×V)):List (Key×V):=kvs.map fun p=>(Sum.inl p.1,p.2)
noncomputable def Ent.ok (K:PySem.W.Frag)(H R:Hp):Ent→Option V→Prop
  | .no,_=>True
  | .im r x,o=>∃v,o=some v∧r.R K R v x
  | .mu r xs,o=>∃a vs,o=some (.ref a)∧H a=some (.lst vs)∧R a=none∧PySem.Paired (r.R K R) vs xs
  | .di kvs,o=>∃a,o=some (.ref a)∧H a=some (.dK (cM kvs))∧R a=none
  | .ob B,o=>(∃v,o=some v∧B.R K H R v)∧∀a∈B.fp,R a=none
noncomputable def Ent.own:Ent→Bool
  | .mu .. =>true
  | .di .. =>true
  | _=>false
noncomputable def refOf:Option V→List Addr
  | some (.ref a)=>[a]
  | _=>[]
noncomputable def Ent.fp:Ent→Option V→List Addr
  | .mu ..,o=>refOf o
  | .di ..,o=>refOf o
  | .ob B,_=>B.fp
  | _,_=>[]
noncomputable abbrev Ga:=List Ent
structure aq (K:PySem.W.Frag) (σ:St) (H0 R0 H R:Hp) (Γ:Ga):Prop where
  ext:Ext H0 R0 H R
  ent:∀(i:Nat) (e:Ent),Γ[i]?=some e→e.ok K H R (σ[i]?).join
  nw:∀(i:Nat) (e:Ent) (a:Addr),Γ[i]?=some e→a∈e.fp (σ[i]?).join→H0 a=none
  ds:∀(i j:Nat) (e e':Ent) (a:Addr),Γ[i]?=some e→Γ[j]?=some e'→a∈e.fp (σ[i]?).join→a∈e'.fp (σ[j]?).join→i=j
  len:Γ.length=σ.length
section
variable {K:PySem.W.Frag}{σ:St}{H0 R0 H R H' R':Hp}{Γ:Ga}{α:Type}{r:Rep α}
theorem c8 {o:Option V}{a:Addr}:a∈refOf o↔o=some (.ref a):=by
  unfold refOf
  split
  · rw [List.mem_singleton];constructor
    · rintro rfl;rfl
    · intro e;cases e;rfl
  · rename_i h
    constructor
    · intro z;cases z
    · intro e;exact absurd e (h a)
theorem Ent.k7 {e:Ent}(w:e.own=true){o:Option V}{a:Addr}:a∈e.fp o↔o=some (.ref a):=by
  cases e with
  | no=>cases w
  | im r x=>cases w
  | mu r xs=>exact c8
  | di kvs=>exact c8
  | ob B=>cases w
theorem aq.new (E:aq K σ H0 R0 H R Γ)(i:Nat)(e:Ent)(a:Addr)(h:Γ[i]?=some e)(w:e.own=true)(ha:(σ[i]?).join=some (.ref a)):H0 a=none:=E.nw i e a h ((Ent.k7 w).mpr ha)
theorem Ent.cX {e:Ent}{o:Option V}(h:e.ok K H R o){a:Addr}(ha:a∈e.fp o):H a≠none∧R a=none:=by
  cases e with
  | no=>cases ha
  | im r x=>cases ha
  | mu r xs=>
    obtain ⟨b,vs,e,q,n,_⟩:=h
    rw [Ent.fp,c8,e] at ha
    cases ha
    exact ⟨by rw [q];exact Option.some_ne_none _,n⟩
  | di kvs=>
    obtain ⟨b,e,q,n⟩:=h
    rw [Ent.fp,c8,e] at ha
    cases ha
    exact ⟨by rw [q];exact Option.some_ne_none _,n⟩
  | ob B=>obtain ⟨⟨v,e,q⟩,n⟩:=h;exact ⟨B.has q a ha,n a ha⟩
theorem Ent.ok.loc {e:Ent}{o:Option V}(h:e.ok K H R o)(hH:∀a∈e.fp o,H' a=H a)(hR:au R R')(hn:∀a∈e.fp o,R' a=none):e.ok K H' R' o:=by
  cases e with
  | no=>trivial
  | im r y=>obtain ⟨v,e,q⟩:=h;exact ⟨v,e,r.mono hR q⟩
  | mu r xs=>
    obtain ⟨a,vs,e,q,n,p⟩:=h
    have ha:a∈Ent.fp (.mu r xs) o:=c8.mpr e
    exact ⟨a,vs,e,(hH a ha).trans q,hn a ha,Paired.map (fun _ _=>r.mono hR) p⟩
  | di kvs=>
    obtain ⟨a,e,q,n⟩:=h
    have ha:a∈Ent.fp (.di kvs) o:=c8.mpr e
    exact ⟨a,e,(hH a ha).trans q,hn a ha⟩
  | ob B=>obtain ⟨⟨v,e,q⟩,n⟩:=h;exact ⟨⟨v,e,B.loc hH hR q⟩,hn⟩
theorem Ent.ok.grow {e:Ent}{o:Option V}(h:e.ok K H R o)(x:Ext H R H' R'):e.ok K H' R' o:=by
  refine h.loc (fun a ha=>?_) x.r (fun a ha=>?_)
  · cases q:H a with
    | none=>exact absurd q (Ent.cX h ha).1
    | some u=>exact x.h _ _ q
  · obtain ⟨h1,h2⟩:=Ent.cX h ha
    exact (x.old a h1).trans h2
theorem aq.grow (E:aq K σ H0 R0 H R Γ)(x:Ext H R H' R'):aq K σ H0 R0 H' R' Γ:=
  ⟨E.ext.trans x,fun i e h=>(E.ent i e h).grow x,E.nw,E.ds,E.len⟩
theorem aq.sub (E:aq K σ H0 R0 H R Γ):au R H:=E.ext.s
noncomputable def Off (a:Addr)(σ:St)(Γ:Ga):Prop:=∀(i:Nat) (e:Ent),Γ[i]?=some e→a∉e.fp (σ[i]?).join
theorem aq.off (E:aq K σ H0 R0 H R Γ){a:Addr}(h:H a=none):Off a σ Γ:=fun i e q w=>(Ent.cX (E.ent i e q) w).1 h
theorem set_at.{v}{β:Type v}{l:List β}{i:Nat}{y:β}{j:Nat}{e:β}(q:(l.set i y)[j]?=some e):(j=i∧e=y∧i < l.length)∨(j≠i∧l[j]?=some e):=by
  by_cases hj:j=i
  · subst hj
    have hl:j < l.length:=by
      have:=List.getElem?_eq_some_iff.mp q
      simpa using this.1
    rw [List.getElem?_set_self hl] at q
    exact .inl ⟨rfl,(Option.some.inj q).symm,hl⟩
  · rw [List.getElem?_set_ne (Ne.symm hj)] at q
    exact .inr ⟨hj,q⟩
theorem aq.setG (E:aq K σ H0 R0 H R Γ)(i:Nat){v:V}{en:Ent}(ho:en.ok K H R (some v))(h0:∀a∈en.fp (some v),H0 a=none)(hf:∀a∈en.fp (some v),∀(j:Nat) (e:Ent),j≠i→Γ[j]?=some e→a∉e.fp (σ[j]?).join):
    aq K (σ.set i (some v)) H0 R0 H R (Γ.set i en):=by
  have key:∀(j:Nat) (e:Ent),(Γ.set i en)[j]?=some e→(j=i∧e=en∧((σ.set i (some v))[j]?).join=some v)∨(j≠i∧Γ[j]?=some e∧(σ.set i (some v))[j]?=σ[j]?):=fun j e q=>by
    rcases set_at q with ⟨rfl,rfl,hl⟩ | ⟨hj,q⟩
    · exact .inl ⟨rfl,rfl,by rw [List.getElem?_set_self (by rw [← E.len];exact hl)];rfl⟩
    · exact .inr ⟨hj,q,List.getElem?_set_ne (Ne.symm hj)⟩
  refine ⟨E.ext,fun j e q=>?_,fun j e a q w=>?_,fun j k e e' a q q' w w'=>?_,by rw [List.length_set,List.length_set];exact E.len⟩
  · rcases key j e q with ⟨_,rfl,q2⟩ | ⟨_,q1,q2⟩
    · rw [q2];exact ho
    · rw [q2];exact E.ent j e q1
  · rcases key j e q with ⟨_,rfl,q2⟩ | ⟨_,q1,q2⟩
    · rw [q2] at w;exact h0 a w
    · rw [q2] at w;exact E.nw j e a q1 w
  · rcases key j e q with ⟨hj,rfl,q2⟩ | ⟨hj,q1,q2⟩
    · rcases key k e' q' with ⟨hk,rfl,q2'⟩ | ⟨hk,q1',q2'⟩
      · rw [hj,hk]
      · rw [q2] at w;rw [q2'] at w';exact absurd w' (hf a w k e' hk q1')
    · rcases key k e' q' with ⟨hk,rfl,q2'⟩ | ⟨hk,q1',q2'⟩
      · rw [q2] at w;rw [q2'] at w';exact absurd w (hf a w' j e hj q1)
      · rw [q2] at w;rw [q2'] at w';exact E.ds j k e e' a q1 q1' w w'
theorem aq.set (E:aq K σ H0 R0 H R Γ)(i:Nat){v:V}{x:α}(h:r.R K R v x):aq K (σ.set i (some v)) H0 R0 H R (Γ.set i (.im r x)):=
  E.setG i ⟨v,rfl,h⟩ (fun a w=>by cases w) fun a w=>by cases w
theorem aq.qr (E:aq K σ H0 R0 H R Γ)(i:Nat){a:Addr}{u:HO}{en:Ent}(ho:en.ok K H R (some (.ref a)))(h0:H0 a=none)(hf:∀(j:Nat) (e:Ent),j≠i→Γ[j]?=some e→a∉e.fp (σ[j]?).join)(hfp:autoParam (en.fp (some (.ref a))=[a]) Fc.ai):
    aq K (σ.set i (some (.ref a))) H0 R0 H R (Γ.set i en):=
  E.setG i ho (fun b w=>by rw [hfp,List.mem_singleton] at w;rw [w];exact h0) fun b w=>by rw [hfp,List.mem_singleton] at w;rw [w];exact hf
theorem aq.nv (E:aq K σ H0 R0 H R Γ){i:Nat}{a:Addr}{u:HO}{e0 en:Ent}(hi:Γ[i]?=some e0)(ha:a∈e0.fp (σ[i]?).join)(ho:en.ok K (L2.upd H a u) R (σ[i]?).join)
    (hsub:∀b∈en.fp (σ[i]?).join,b∈e0.fp (σ[i]?).join∨(H0 b=none∧Off b σ Γ)):aq K σ H0 R0 (L2.upd H a u) R (Γ.set i en):=by
  have h0:H0 a=none:=E.nw i e0 a hi ha
  have hR:R a=none:=(Ent.cX (E.ent i e0 hi) ha).2
  refine ⟨⟨fun b o q=>?_,E.ext.r,fun b o q=>?_,E.ext.old⟩,fun j e q=>?_,fun j e b q w=>?_,fun j k e e' b q q' w w'=>?_,by rw [List.length_set];exact E.len⟩
  · rw [aJ (cx q h0)];exact E.ext.h b o q
  · rw [aJ (cx q hR)];exact E.ext.s b o q
  · rcases set_at q with ⟨rfl,rfl,_⟩ | ⟨hj,q1⟩
    · exact ho
    · refine (E.ent j e q1).loc (fun b hb=>aJ fun z=>hj ?_) (au.refl _) fun b hb=>(Ent.cX (E.ent j e q1) hb).2
      rw [z] at hb
      exact E.ds j i e e0 a q1 hi hb ha
  · rcases set_at q with ⟨rfl,rfl,_⟩ | ⟨hj,q1⟩
    · rcases hsub b w with z | z
      · exact E.nw _ _ b hi z
      · exact z.1
    · exact E.nw j e b q1 w
  · rcases set_at q with ⟨rfl,rfl,_⟩ | ⟨hj,q1⟩
    · rcases set_at q' with ⟨rfl,rfl,_⟩ | ⟨hk,q1'⟩
      · rfl
      · rcases hsub b w with z | z
        · exact E.ds _ _ _ _ b hi q1' z w'
        · exact absurd w' (z.2 k e' q1')
    · rcases set_at q' with ⟨rfl,rfl,_⟩ | ⟨hk,q1'⟩
      · rcases hsub b w' with z | z
        · exact E.ds _ _ _ _ b q1 hi w z
        · exact absurd w (z.2 j e q1)
      · exact E.ds _ _ _ _ b q1 q1' w w'
theorem aq.upd (E:aq K σ H0 R0 H R Γ){i:Nat}{a:Addr}{u:HO}{e0 en:Ent}(hi:Γ[i]?=some e0)(w0:e0.own=true)(ha:(σ[i]?).join=some (.ref a))(hR:R a=none)(ho:en.ok K (L2.upd H a u) R (some (.ref a)))(hfp:autoParam (en.fp (some (.ref a))=[a]) Fc.ai):
    aq K σ H0 R0 (L2.upd H a u) R (Γ.set i en):=
  E.nv hi ((Ent.k7 w0).mpr ha) (by rw [ha];exact ho) fun b w=>.inl (by rw [ha,hfp,List.mem_singleton] at w;rw [w];exact (Ent.k7 w0).mpr ha)
theorem aq.mL (E:aq K σ H0 R0 H R Γ){a:Addr}{u:HO}(ha:H a=some u)(hR:R a=none)(h0:H0 a=none)(off:Off a σ Γ):aq K σ H0 R0 H (L2.upd R a u) Γ:=by
  have s2:au R (L2.upd R a u):=au.fresh hR _
  refine ⟨⟨E.ext.h,E.ext.r.trans s2,fun b o qb=>?_,fun b hb=>?_⟩,fun i e qe=>?_,E.nw,E.ds,E.len⟩
  · by_cases hb:b=a
    · subst hb;rw [aD] at qb;cases qb;exact ha
    · rw [aJ hb] at qb;exact E.ext.s b o qb
  · rw [aJ (show b≠a from fun e=>hb (by rw [e];exact h0))];exact E.ext.old b hb
  · refine (E.ent i e qe).loc (fun _ _=>rfl) s2 fun b hb=>?_
    rw [aJ (show b≠a from fun z=>off i e qe (z▸hb))]
    exact (Ent.cX (E.ent i e qe) hb).2
theorem aq.tell (E:aq K σ H0 R0 H R Γ){i:Nat}{e0 en:Ent}(hi:Γ[i]?=some e0)(ho:en.ok K H R (σ[i]?).join)(hsub:∀b∈en.fp (σ[i]?).join,b∈e0.fp (σ[i]?).join):aq K σ H0 R0 H R (Γ.set i en):=by
  refine ⟨E.ext,fun j e q=>?_,fun j e b q w=>?_,fun j k e e' b q q' w w'=>?_,by rw [List.length_set];exact E.len⟩
  · rcases set_at q with ⟨rfl,rfl,_⟩ | ⟨hj,q1⟩
    · exact ho
    · exact E.ent j e q1
  · rcases set_at q with ⟨rfl,rfl,_⟩ | ⟨hj,q1⟩
    · exact E.nw _ _ b hi (hsub b w)
    · exact E.nw j e b q1 w
  · rcases set_at q with ⟨rfl,rfl,_⟩ | ⟨hj,q1⟩
    · rcases set_at q' with ⟨rfl,rfl,_⟩ | ⟨hk,q1'⟩
      · rfl
      · exact E.ds _ _ _ _ b hi q1' (hsub b w) w'
    · rcases set_at q' with ⟨rfl,rfl,_⟩ | ⟨hk,q1'⟩
      · exact E.ds _ _ _ _ b q1 hi w (hsub b w')
      · exact E.ds _ _ _ _ b q1 q1' w w'
noncomputable def Wk:Ga→Ga→Prop
  | [],[]=>True
  | e::r,e'::r'=>(e'=e∨e'= .no)∧Wk r r'
  | _,_=>False
theorem Wk.len:∀{Γ Γ':Ga},Wk Γ Γ'→Γ'.length=Γ.length
  | [],[],_=>rfl
  | _::_,_::_,h=>by rw [List.length_cons,List.length_cons,Wk.len h.2]
theorem Wk.at:∀{Γ Γ':Ga},Wk Γ Γ'→∀(i:Nat) (e:Ent),Γ'[i]?=some e→e= .no∨Γ[i]?=some e
  | [],[],_,i,e,q=>by simp at q
  | a::_,b::_,h,0,e,q=>by
    simp at q
    rcases h.1 with z | z
    · right;simp [← q,z]
    · left;rw [← q,z]
  | a::r,b::r',h,i + 1,e,q=>by
    simp at q
    have:=Wk.at h.2 i e q
    simpa using this
theorem Wk.refl:∀Γ:Ga,Wk Γ Γ
  | []=>trivial
  | _::r=>⟨.inl rfl,Wk.refl r⟩
theorem aq.weak (E:aq K σ H0 R0 H R Γ){Γ':Ga}(w:Wk Γ Γ'):aq K σ H0 R0 H R Γ':=by
  refine ⟨E.ext,fun i e q=>?_,fun i e a q z=>?_,fun i j e e' a q q' z z'=>?_,w.len.trans E.len⟩
  · rcases w.at i e q with rfl | q
    · trivial
    · exact E.ent i e q
  · rcases w.at i e q with rfl | q
    · cases z
    · exact E.nw i e a q z
  · rcases w.at i e q with rfl | q
    · cases z
    · rcases w.at j e' q' with rfl | q'
      · cases z'
      · exact E.ds i j e e' a q q' z z'
end
section
variable {X:Cx}{Γ Γ1 Γ2 Γ3:Ga}{α β γ:Type}
noncomputable def EV (X:Cx)(e:Expr)(Γ:Ga){α:Type}(r:Rep α)(y:α)(Γ':Ga):Prop:=
  ∀(σ:St) (H0 R0 H R:Hp),aq X.K σ H0 R0 H R Γ→∀Q:VK,(∀v H' R',aq X.K σ H0 R0 H' R' Γ'→au R R'→r.R X.K R' v y→Q v H')→dG X e σ H Q
noncomputable def aC (X:Cx)(e:Expr)(Γ:Ga){α:Type}(r:Rep α)(ys:List α)(Γ':Ga):Prop:=
  ∀(σ:St) (H0 R0 H R:Hp),aq X.K σ H0 R0 H R Γ→∀Q:VK,(∀a vs H' R',aq X.K σ H0 R0 H' R' Γ'→au R R'→H' a=some (.lst vs)→R' a=none→H0 a=none→Off a σ Γ'→PySem.Paired (r.R X.K R') vs ys→ys.length≤sizeLine→Q (.ref a) H')→dG X e σ H Q
noncomputable def TV (X:Cx)(e:Expr)(Γ:Ga)(b:Bool)(Γ':Ga):Prop:=
  ∀(σ:St) (H0 R0 H R:Hp),aq X.K σ H0 R0 H R Γ→∀Q:Bool→Hp→Prop,(∀H' R',aq X.K σ H0 R0 H' R' Γ'→au R R'→Q b H')→j5 X e σ H Q
noncomputable def TW (X:Cx)(e:Expr)(Γ:Ga)(b:Bool)(Γ':Ga):Prop:=
  ∀(σ:St) (H0 R0 H R:Hp),aq X.K σ H0 R0 H R Γ→∀Q:Bool→Hp→Prop,(∀H' R',aq X.K σ H0 R0 H' R' Γ'→au R R'→Q b H')→ux X e σ H Q
noncomputable def TF (X:Cx)(es:List Expr)(Γ:Ga)(b:Bool)(Γ':Ga):Prop:=
  ∀(σ:St) (H0 R0 H R:Hp),aq X.K σ H0 R0 H R Γ→∀Q:Bool→Hp→Prop,(∀H' R',aq X.K σ H0 R0 H' R' Γ'→au R R'→Q b H')→ic X es σ H Q
noncomputable def BG (X:Cx)(tg:Expr){α:Type}(r:Rep α)(bf:α→Ga→Ga):Prop:=
  ∀(σ:St) (H0 R0 H R:Hp) (Γ:Ga) (v:V) (x:α),aq X.K σ H0 R0 H R Γ→r.R X.K R v x→∀Q:St→Hp→Prop,(∀σ',aq X.K σ' H0 R0 H R (bf x Γ)→Q σ' H)→gU X tg v σ H Q
noncomputable abbrev RT:=Hp→V→Hp→Hp→Prop
noncomputable def WS (X:Cx)(sts:List Stmt)(Γ:Ga)(N:Ga→Prop)(T:RT):Prop:=
  ∀(σ:St) (H0 R0 H R:Hp),aq X.K σ H0 R0 H R Γ→∀D:Ends,(∀σ' H' R' Γ',aq X.K σ' H0 R0 H' R' Γ'→au R R'→N Γ'→D.nx σ' H')→(∀v H' R',Ext H0 R0 H' R'→T H0 v H' R'→D.rt v H')→gq X sts D σ H
noncomputable def W1 (X:Cx)(st:Stmt)(Γ:Ga)(N:Ga→Prop)(T:RT):Prop:=
  ∀(σ:St) (H0 R0 H R:Hp),aq X.K σ H0 R0 H R Γ→∀D:Ends,(∀σ' H' R' Γ',aq X.K σ' H0 R0 H' R' Γ'→au R R'→N Γ'→D.nx σ' H')→(∀v H' R',Ext H0 R0 H' R'→T H0 v H' R'→D.rt v H')→j6 X st D σ H
noncomputable def bC (K:PySem.W.Frag){β:Type}(r:Rep β)(P:β→Prop):RT:=fun _ v _ R'=>∃y,r.R K R' v y∧P y
noncomputable def jm (K:PySem.W.Frag){β:Type}(r:Rep β)(P:List β→Prop):RT:=fun H0 v H' R'=>∃a vs ys,v= .ref a∧H0 a=none∧H' a=some (.lst vs)∧R' a=none∧PySem.Paired (r.R K R') vs ys∧ys.length≤sizeLine∧P ys
theorem aC.im {e:Expr}{r:Rep α}{ys:List α}(h:aC X e Γ r ys Γ1):EV X e Γ (ag r) ys Γ1:=by
  intro σ H0 R0 H R E Q q
  refine h σ H0 R0 H R E Q fun a vs H' R' E' s1 ha hR h0 off p z=>?_
  have s2:au R' (upd R' a (.lst vs)):=au.fresh hR _
  exact q (.ref a) H' (upd R' a (.lst vs)) (E'.mL ha hR h0 off) (s1.trans s2) ⟨a,vs,rfl,aD,Paired.map (fun _ _=>r.mono s2) p,z⟩
theorem EV.cast {e:Expr}{r:Rep α}{y y':α}(h:EV X e Γ r y Γ1)(e1:y=y'):EV X e Γ r y' Γ1:=e1▸h
theorem TV.cast {e:Expr}{b b':Bool}(h:TV X e Γ b Γ1)(e1:b=b'):TV X e Γ b' Γ1:=e1▸h
theorem aa (i:Nat){x:Str}{pos:Pos}{r:Rep α}{y:α}(hΓ:Γ[i]?=some (.im r y))(hN:autoParam (X.N[i]?=some x) Fc.ai)(hv:autoParam (ck X.env.scope x) Fc.bO)
    (hd:autoParam ((x==("__debug__":Str))=false) Fc.aw) (hcd:autoParam ((x==("__classdict__":Str))=false) Fc.aw):EV X (.Name x pos) Γ r y Γ:=by
  intro σ H0 R0 H R E Q q
  obtain ⟨v,e,h⟩:=E.ent i _ hΓ
  refine eS (br hN hv hd hcd) ⟨v,?_,q v H R E (au.refl _) h⟩
  cases es:σ[i]? with
  | none=>rw [es] at e;cases e
  | some o=>rw [es] at e;exact congrArg some e
theorem ak {i:Int}{j:Nat}{pos:Pos}:EV X (.Constant (.int i) j pos) Γ ae i Γ:=fun _ _ _ _ _ E _ q=>eS dQ (q _ _ _ E (au.refl _) rfl)
theorem eK {b:Bool}{j:Nat}{pos:Pos}:EV X (.Constant (.bool b) j pos) Γ aO b Γ:=fun _ _ _ _ _ E _ q=>eS qU (q _ _ _ E (au.refl _) rfl)
theorem cF {x:Str}{pos:Pos}{n:Int}{t:Tok}(hm:X.mg x=some (.int n t))(hg:autoParam (Gl X x) Fc.ai)(hd:autoParam ((x==("__debug__":Str))=false) Fc.aw):EV X (.Name x pos) Γ ae n Γ:=
  fun _ _ _ _ _ E _ q=>eS (gA (v:=.int n) hg hm ⟨t,rfl⟩ hd) (q (.int n) _ _ E (au.refl _) rfl)
theorem iX {op:Operator}{r2:R2}{a b:Expr}{pos:Pos}{ra:Rep α}{rb:Rep β}{rc:Rep γ}{x:α}{y:β}{z:γ}(ho:dm X (binaryOp op) r2)(ha:EV X a Γ ra x Γ1)(hb:EV X b Γ1 rb y Γ2)
    (hz:∀(R:Hp) v u H Q,ra.R X.K R v x→rb.R X.K R u y→(∀w,rc.R X.K R w z→Q w H)→r2 v u H Q):EV X (.BinOp a op b pos) Γ rc z Γ2:=by
  intro σ H0 R0 H R E Q q
  refine eS (mQ ho aL aL) (ha σ H0 R0 H R E _ fun v H1 R1 E1 s1 e1=>hb σ H0 R0 H1 R1 E1 _ fun u H2 R2 E2 s2 e2=>?_)
  exact hz R2 v u H2 _ (ra.mono s2 e1) e2 fun w hw=>q w H2 R2 E2 (s1.trans s2) hw
section
variable {a b c:Expr}{pos:Pos}{x y z:Int}
theorem bZ (ha:EV X a Γ ae x Γ1)(hb:EV X b Γ1 ae y Γ2):EV X (.BinOp a .Add b pos) Γ ae (x + y) Γ2:=iX yZ ha hb fun R v u H Q e1 e2 q=>⟨x,y,e1,e2,q _ rfl⟩
theorem cK (ha:EV X a Γ ae x Γ1)(hb:EV X b Γ1 ae y Γ2):EV X (.BinOp a .Sub b pos) Γ ae (x - y) Γ2:=iX yi ha hb fun R v u H Q e1 e2 q=>⟨x,y,e1,e2,q _ rfl⟩
theorem lq (ha:EV X a Γ ae x Γ1)(hb:EV X b Γ1 ae y Γ2)(h:rh x y):EV X (.BinOp a .Mult b pos) Γ ae (x * y) Γ2:=iX yQ ha hb fun R v u H Q e1 e2 q=>⟨x,y,e1,e2,h,q _ rfl⟩
theorem iI (ha:EV X a Γ ae x Γ1)(hb:EV X b Γ1 ae y Γ2)(h:0 < y):EV X (.BinOp a .Mod b pos) Γ ae (x % y) Γ2:=iX Ay ha hb fun R v u H Q e1 e2 q=>⟨x,y,e1,e2,h,q _ rfl⟩
theorem fk (ha:EV X a Γ ae x Γ1)(hb:EV X b Γ1 ae y Γ2)(h:zo x y):EV X (.BinOp a .Pow b pos) Γ ae (x ^ y.toNat) Γ2:=iX yq ha hb fun R v u H Q e1 e2 q=>⟨x,y,e1,e2,h,q _ rfl⟩
theorem cP (ha:EV X a Γ ae x Γ1):EV X (.UnaryOp .USub a pos) Γ ae (-x) Γ1:=by
  intro σ H0 R0 H R E Q q
  exact eS (AY zg aL) (ha σ H0 R0 H R E _ fun v H1 R1 E1 s1 e1=>⟨x,e1,q _ H1 R1 E1 s1 rfl⟩)
end
structure fB (X:Cx) (op:CmpOp) {α β:Type} (ra:Rep α) (rb:Rep β) (x:α) (y:β) (k:Bool):Prop where
  r2:∃r,dm X (compareOp op) r∧∀(R H:Hp) v u Q,au R H→ra.R X.K R v x→rb.R X.K R u y→Q (.bl k) H→r v u H Q
theorem dz {op:CmpOp}{a b:Expr}{pos:Pos}{ra:Rep α}{rb:Rep β}{x:α}{y:β}{k:Bool}(c:fB X op ra rb x y k)(ha:EV X a Γ ra x Γ1)(hb:EV X b Γ1 rb y Γ2)(hm:behindInMarks op b=false:=by first | exact kW _ | with_unfolding_all rfl):
    EV X (.Compare a [op] [b] pos) Γ aO k Γ2:=by
  obtain ⟨r,ho,hr⟩:=c.r2
  intro σ H0 R0 H R E Q q
  refine eS (w8 ho aL aL hm) (ha σ H0 R0 H R E _ fun v H1 R1 E1 s1 e1=>hb σ H0 R0 H1 R1 E1 _ fun u H2 R2 E2 s2 e2=>?_)
  exact hr R2 H2 v u _ E2.sub (ra.mono s2 e1) e2 (q _ H2 R2 E2 (s1.trans s2) rfl)
theorem aI {op:CmpOp}{a b:Expr}{pos:Pos}{ra:Rep α}{rb:Rep β}{x:α}{y:β}{k:Bool}(c:fB X op ra rb x y k)(ha:EV X a Γ ra x Γ1)(hb:EV X b Γ1 rb y Γ2)(hm:behindInMarks op b=false:=by first | exact kW _ | with_unfolding_all rfl):
    TV X (.Compare a [op] [b] pos) Γ k Γ2:=by
  obtain ⟨r,ho,hr⟩:=c.r2
  intro σ H0 R0 H R E Q q
  refine tS (xy ho aL aL hm) (ha σ H0 R0 H R E _ fun v H1 R1 E1 s1 e1=>hb σ H0 R0 H1 R1 E1 _ fun u H2 R2 E2 s2 e2=>?_)
  exact hr R2 H2 v u _ E2.sub (ra.mono s2 e1) e2 ⟨k,rfl,q H2 R2 E2 (s1.trans s2)⟩
section
variable {x y:Int}
theorem dH:fB X .Lt ae ae x y (decide (x < y)):=⟨_,Bi,fun R H v u Q _ e1 e2 q=>⟨x,y,e1,e2,q⟩⟩
theorem eW:fB X .LtE ae ae x y (decide (x≤y)):=⟨_,BH,fun R H v u Q _ e1 e2 q=>⟨x,y,e1,e2,q⟩⟩
theorem ym:fB X .GtE ae ae x y (decide (y≤x)):=⟨_,Bx,fun R H v u Q _ e1 e2 q=>⟨x,y,e1,e2,q⟩⟩
theorem bT:fB X .Eq ae ae x y (decide (x=y)):=⟨_,Be,fun R H v u Q _ e1 e2 q=>by
  cases e1;cases e2
  exact ⟨rfl,by rw [show decide (V.int x=V.int y)=decide (x=y) by rw [jI];exact Bool.beq_eq_decide_eq x y];exact q⟩⟩
theorem nV:fB X .NotEq ae ae x y (!decide (x=y)):=⟨_,A8,fun R H v u Q _ e1 e2 q=>by
  cases e1;cases e2
  exact ⟨rfl,by rw [show decide (V.int x=V.int y)=decide (x=y) by rw [jI];exact Bool.beq_eq_decide_eq x y];exact q⟩⟩
end
theorem jW (x:Int):∀xs:List Int,wy (.int x) (xs.map V.int)=decide (x∈xs)
  | []=>rfl
  | y ::r=>by
    have h:=jW x r
    unfold wy at h ⊢
    rw [List.map_cons,List.any_cons,h]
    have e:la (V.int y) (V.int x)=decide (x=y):=by
      show (y==x)=_
      by_cases h:x=y
      · subst h;simp
      · rw [decide_eq_false h];exact beq_eq_false_iff_ne.mpr (Ne.symm h)
    rw [e,Bool.eq_iff_iff];simp
theorem dW {K:PySem.W.Frag}{R:Hp}:∀{vs:List V} {xs:List Int},PySem.Paired (ae.R K R) vs xs→vs=xs.map V.int
  | _,_,.nil=>rfl
  | _,_,.cons h t=>by rw [List.map_cons,← dW t];exact congrArg (· ::_) h
theorem i7:∀xs:List Int,(xs.map V.int).all gp=true
  | []=>rfl
  | _::r=>by rw [List.map_cons,List.all_cons,i7 r];rfl
theorem D0 {x:Int}{xs:List Int}:fB X .In ae (ag ae) x xs (decide (x∈xs)):=⟨_,sE,fun R H v u Q s e1 e2 q=>by
  cases e1
  obtain ⟨a,vs,rfl,hq,p,_⟩:=e2
  have e:=dW p
  subst e
  exact ⟨a,_,rfl,.inl (bq.of (s _ _ hq)),rfl,i7 xs,by rw [if_neg Bool.false_ne_true,jW];exact q⟩⟩
theorem xB {x:Int}{xs:List Int}:fB X .NotIn ae (ag ae) x xs (!decide (x∈xs)):=⟨_,nZ,fun R H v u Q s e1 e2 q=>by
  cases e1
  obtain ⟨a,vs,rfl,hq,p,_⟩:=e2
  have e:=dW p
  subst e
  exact ⟨a,_,rfl,.inl (bq.of (s _ _ hq)),rfl,i7 xs,by rw [if_pos rfl,jW];exact q⟩⟩
theorem eY {op op':CmpOp}{a b c:Expr}{pos:Pos}{ra:Rep α}{rb:Rep β}{rc:Rep γ}{x:α}{y:β}{z:γ}{k k':Bool}(c1:fB X op ra rb x y k)(c2:fB X op' rb rc y z k')(ha:EV X a Γ ra x Γ)(hb:EV X b Γ rb y Γ)(hc:EV X c Γ rc z Γ)
    (hm:lastMarks [op,op'] [b,c]=false:=by with_unfolding_all rfl):EV X (.Compare a [op,op'] [b,c] pos) Γ aO (k&&k') Γ:=by
  obtain ⟨r,ho,hr⟩:=c1.r2
  obtain ⟨r',ho',hr'⟩:=c2.r2
  intro σ H0 R0 H R E Q q
  refine eS (uP ho ho' aL aL aL hm) (ha σ H0 R0 H R E _ fun v H1 R1 E1 s1 e1=>hb σ H0 R0 H1 R1 E1 _ fun u H2 R2 E2 s2 e2=>?_)
  refine hr R2 H2 v u _ E2.sub (ra.mono s2 e1) e2 ⟨k,rfl,?_⟩
  cases k with
  | false=>exact jg (q _ H2 R2 E2 (s1.trans s2) rfl)
  | true=>exact jq (hc σ H0 R0 H2 R2 E2 _ fun w H3 R3 E3 s3 e3=>hr' R3 H3 u w _ E3.sub (rb.mono s3 e2) e3 (q _ H3 R3 E3 (s1.trans (s2.trans s3)) rfl))
theorem gG {op op':CmpOp}{a b c:Expr}{pos:Pos}{ra:Rep α}{rb:Rep β}{rc:Rep γ}{x:α}{y:β}{z:γ}{k k':Bool}(c1:fB X op ra rb x y k)(c2:fB X op' rb rc y z k')(ha:EV X a Γ ra x Γ)(hb:EV X b Γ rb y Γ)(hc:EV X c Γ rc z Γ)
    (hm:lastMarks [op,op'] [b,c]=false:=by with_unfolding_all rfl):TV X (.Compare a [op,op'] [b,c] pos) Γ (k&&k') Γ:=by
  obtain ⟨r,ho,hr⟩:=c1.r2
  obtain ⟨r',ho',hr'⟩:=c2.r2
  intro σ H0 R0 H R E Q q
  refine tS (uO ho ho' aL aL aL hm) (ha σ H0 R0 H R E _ fun v H1 R1 E1 s1 e1=>hb σ H0 R0 H1 R1 E1 _ fun u H2 R2 E2 s2 e2=>?_)
  refine hr R2 H2 v u _ E2.sub (ra.mono s2 e1) e2 ⟨k,rfl,?_⟩
  cases k with
  | false=>exact jg ⟨false,rfl,q H2 R2 E2 (s1.trans s2)⟩
  | true=>exact jq (hc σ H0 R0 H2 R2 E2 _ fun w H3 R3 E3 s3 e3=>hr' R3 H3 u w _ E3.sub (rb.mono s3 e2) e3 ⟨k',rfl,q H3 R3 E3 (s1.trans (s2.trans s3))⟩)
theorem ef {op:BoolOp}{a:Expr}{pos:Pos}{r:Rep α}{x:α}(h:EV X a Γ r x Γ1):EV X (.BoolOp op [a] pos) Γ r x Γ1:=fun σ H0 R0 H R E Q q=>eS (Am aL) (h σ H0 R0 H R E Q q)
theorem ei {a b:Expr}{rest:List Expr}{pos:Pos}{x y:Bool}(ha:EV X a Γ aO x Γ)(hb:x=true→EV X (.BoolOp .And (b::rest) pos) Γ aO y Γ):EV X (.BoolOp .And (a::b::rest) pos) Γ aO (x&&y) Γ:=by
  intro σ H0 R0 H R E Q q
  refine eS (zD aL aL) (ha σ H0 R0 H R E _ fun v H1 R1 E1 s1 e1=>⟨x,e1,?_⟩)
  cases x with
  | false=>exact jg (q _ H1 R1 E1 s1 rfl)
  | true=>exact jq (hb rfl σ H0 R0 H1 R1 E1 _ fun w H3 R3 E3 s3 e3=>q w H3 R3 E3 (s1.trans s3) e3)
theorem Cb {a b:Expr}{rest:List Expr}{pos:Pos}{x y:Bool}(ha:EV X a Γ aO x Γ)(hb:x=false→EV X (.BoolOp .Or (b::rest) pos) Γ aO y Γ):EV X (.BoolOp .Or (a::b::rest) pos) Γ aO (x ||y) Γ:=by
  intro σ H0 R0 H R E Q q
  refine eS (A6 aL aL) (ha σ H0 R0 H R E _ fun v H1 R1 E1 s1 e1=>⟨x,e1,?_⟩)
  cases x with
  | true=>exact jq (q _ H1 R1 E1 s1 rfl)
  | false=>exact jg (hb rfl σ H0 R0 H1 R1 E1 _ fun w H3 R3 E3 s3 e3=>q w H3 R3 E3 (s1.trans s3) e3)
theorem sG {a:Expr}{pos:Pos}{x:Bool}(ha:EV X a Γ aO x Γ1):EV X (.UnaryOp .Not a pos) Γ aO (!x) Γ1:=by
  intro σ H0 R0 H R E Q q
  exact eS (zC aL) (ha σ H0 R0 H R E _ fun v H1 R1 E1 s1 e1=>⟨x,e1,q _ H1 R1 E1 s1 rfl⟩)
theorem bH {a:Expr}{pos:Pos}{x:Bool}(ha:TV X a Γ x Γ1):TV X (.UnaryOp .Not a pos) Γ (!x) Γ1:=by
  intro σ H0 R0 H R E Q q
  exact tS (se jO) (ha σ H0 R0 H R E _ fun H1 R1 E1 s1=>q H1 R1 E1 s1)
theorem TW.tv {e:Expr}{b:Bool}(h:TW X e Γ b Γ1):TV X e Γ b Γ1:=fun σ H0 R0 H R E Q q=>tS (wk.pt) (h σ H0 R0 H R E Q q)
theorem gw {a:Expr}{pos:Pos}{x:Bool}(ha:TV X a Γ x Γ1):TW X (.BoolOp .And [a] pos) Γ x Γ1:=fun σ H0 R0 H R E Q q=>wS (pT jO) (ha σ H0 R0 H R E Q q)
theorem eT {a:Expr}{pos:Pos}{x:Bool}(ha:TV X a Γ x Γ1):TW X (.BoolOp .Or [a] pos) Γ x Γ1:=fun σ H0 R0 H R E Q q=>wS (zq jO) (ha σ H0 R0 H R E Q q)
theorem gB {a b:Expr}{rest:List Expr}{pos:Pos}{x y:Bool}(ha:TV X a Γ x Γ)(hb:x=true→TW X (.BoolOp .And (b::rest) pos) Γ y Γ):TW X (.BoolOp .And (a::b::rest) pos) Γ (x&&y) Γ:=by
  intro σ H0 R0 H R E Q q
  refine wS (tW jO wk) (ha σ H0 R0 H R E _ fun H1 R1 E1 s1=>?_)
  cases x with
  | false=>exact jg (q H1 R1 E1 s1)
  | true=>exact jq (hb rfl σ H0 R0 H1 R1 E1 _ fun H3 R3 E3 s3=>q H3 R3 E3 (s1.trans s3))
theorem fU {a b:Expr}{rest:List Expr}{pos:Pos}{x y:Bool}(ha:TV X a Γ x Γ)(hb:x=false→TW X (.BoolOp .Or (b::rest) pos) Γ y Γ):TW X (.BoolOp .Or (a::b::rest) pos) Γ (x ||y) Γ:=by
  intro σ H0 R0 H R E Q q
  refine wS (A4 jO wk) (ha σ H0 R0 H R E _ fun H1 R1 E1 s1=>?_)
  cases x with
  | true=>exact jq (q H1 R1 E1 s1)
  | false=>exact jg (hb rfl σ H0 R0 H1 R1 E1 _ fun H3 R3 E3 s3=>q H3 R3 E3 (s1.trans s3))
theorem aZ {a:Expr}{k:Bool}(ha:EV X a Γ aO k Γ1)(he:autoParam (∀whole,isTrue a X.env whole=(do let v ← whole;standAt a.pos;holding [v] (truthy v))) Fc.cZ):TV X a Γ k Γ1:=by
  intro σ H0 R0 H R E Q q
  exact tS (tu aL he) (ha σ H0 R0 H R E _ fun v H1 R1 E1 s1 e1=>⟨k,e1,q H1 R1 E1 s1⟩)
theorem bP:TF X [] Γ true Γ:=fun σ H0 R0 H R E Q q=>fS zj (q H R E (au.refl _))
theorem gD {c:Expr}{b:Bool}(h:TV X c Γ b Γ1):TF X [c] Γ b Γ1:=fun σ H0 R0 H R E Q q=>fS (AB jO) (h σ H0 R0 H R E Q q)
end
section
variable {X:Cx}{Γ Γ1 Γ2 Γ3:Ga}{α β γ δ:Type}
structure Pk:Type 1 where
  {α:Type}
  r:Rep α
  x:α
inductive ff (K:PySem.W.Frag) (R:Hp):List V→List Pk→Prop
  | nil:ff K R [] []
  | cons {v:V} {vs:List V} {p:Pk} {ps:List Pk}:p.r.R K R v p.x→ff K R vs ps→ff K R (v::vs) (p::ps)
noncomputable def HA (X:Cx)(es:List Expr)(Γ:Ga)(ps:List Pk)(Γ':Ga):Prop:=
  ∀(σ:St) (H0 R0 H R:Hp),aq X.K σ H0 R0 H R Γ→∀Q:List V→Hp→Prop,(∀vs H' R',aq X.K σ H0 R0 H' R' Γ'→au R R'→ff X.K R' vs ps→Q vs H')→h9 X es σ H Q
theorem ao:HA X [] Γ [] Γ:=fun σ H0 R0 H R E Q q=>aS bL (q [] H R E (au.refl _) .nil)
theorem af {e:Expr}{es:List Expr}{r:Rep α}{x:α}{ps:List Pk}(he:EV X e Γ r x Γ1)(hr:HA X es Γ1 ps Γ2)(hs:autoParam (starEach (e::es) X.env=(false,eval e X.env)::starEach es X.env) Fc.ai):HA X (e::es) Γ (⟨r,x⟩::ps) Γ2:=by
  intro σ H0 R0 H R E Q q
  refine aS (aT aL i6 hs) (he σ H0 R0 H R E _ fun v H1 R1 E1 s1 e1=>hr σ H0 R0 H1 R1 E1 _ fun vs H2 R2 E2 s2 e2=>?_)
  exact q (v::vs) H2 R2 E2 (s1.trans s2) (.cons (r.mono s2 e1) e2)
noncomputable def EA (X:Cx)(es:List Expr)(Γ:Ga){α:Type}(r:Rep α)(ys:List α)(Γ':Ga):Prop:=
  ∀(σ:St) (H0 R0 H R:Hp),aq X.K σ H0 R0 H R Γ→∀Q:List V→Hp→Prop,(∀vs H' R',aq X.K σ H0 R0 H' R' Γ'→au R R'→PySem.Paired (r.R X.K R') vs ys→Q vs H')→h9 X es σ H Q
theorem aF {r:Rep α}:EA X [] Γ r [] Γ:=fun σ H0 R0 H R E Q q=>aS bL (q [] H R E (au.refl _) .nil)
theorem av {e:Expr}{es:List Expr}{r:Rep α}{x:α}{ys:List α}(he:EV X e Γ r x Γ1)(hr:EA X es Γ1 r ys Γ2)(hs:autoParam (starEach (e::es) X.env=(false,eval e X.env)::starEach es X.env) Fc.ai):EA X (e::es) Γ r (x::ys) Γ2:=by
  intro σ H0 R0 H R E Q q
  refine aS (aT aL i6 hs) (he σ H0 R0 H R E _ fun v H1 R1 E1 s1 e1=>hr σ H0 R0 H1 R1 E1 _ fun vs H2 R2 E2 s2 e2=>?_)
  exact q (v::vs) H2 R2 E2 (s1.trans s2) (.cons (r.mono s2 e1) e2)
theorem aB {es:List Expr}{pos:Pos}{r:Rep α}{ys:List α}(h:EA X es Γ r ys Γ1)(hz:ys.length≤sizeLine):aC X (.List es pos) Γ r ys Γ1:=by
  intro σ H0 R0 H R E Q q
  refine eS (zJ i6) (h σ H0 R0 H R E _ fun vs H1 R1 E1 s1 p1=>⟨by rw [p1.length];exact hz,fun p hp=>?_⟩)
  exact q p vs _ R1 (E1.grow (Ext.cV E1.sub hp _)) s1 aD (E1.sub.free hp) (E1.ext.h.free hp) (E1.off hp) p1 hz
theorem cQ {a b:Expr}{k:Nat}{pos:Pos}{r:Rep α}{r':Rep β}{x:α}{y:β}(h:HA X [a,b] Γ [⟨r,x⟩,⟨r',y⟩] Γ1):EV X (.Tuple [a,b] k pos) Γ (ay r r') (x,y) Γ1:=by
  intro σ H0 R0 H R E Q q
  refine eS (oB i6) (h σ H0 R0 H R E _ fun vs H1 R1 E1 s1 p1=>?_)
  obtain ⟨h1,h2⟩:∃v1 v2,vs=[v1,v2]∧r.R X.K R1 v1 x∧r'.R X.K R1 v2 y:=by
    cases p1 with
    | cons a1 t=>cases t with
      | cons a2 t2=>cases t2;exact ⟨_,_,rfl,a1,a2⟩
  obtain ⟨v2,rfl,e1,e2⟩:=h2
  refine ⟨by show 2≤sizeLine;decide,fun p hp=>?_⟩
  have s2:au R1 (upd R1 p (.tup [h1,v2])):=au.fresh (E1.sub.free hp) _
  exact q _ _ (upd R1 p (.tup [h1,v2])) (E1.grow (Ext.fresh E1.sub hp _)) (s1.trans s2) ⟨p,_,_,rfl,aD,r.mono s2 e1,r'.mono s2 e2⟩
theorem eP {a b c d:Expr}{k:Nat}{pos:Pos}{x y z w:Int}(h:HA X [a,b,c,d] Γ [⟨ae,x⟩,⟨ae,y⟩,⟨ae,z⟩,⟨ae,w⟩] Γ1):EV X (.Tuple [a,b,c,d] k pos) Γ aA (x,y,z,w) Γ1:=by
  intro σ H0 R0 H R E Q q
  refine eS (oB i6) (h σ H0 R0 H R E _ fun vs H1 R1 E1 s1 p1=>?_)
  have e:vs=[.int x,.int y,.int z,.int w]:=by
    cases p1 with
    | cons a1 t=>cases t with
      | cons a2 t=>cases t with
        | cons a3 t=>cases t with
          | cons a4 t=>cases t;cases a1;cases a2;cases a3;cases a4;rfl
  subst e
  refine ⟨by show 4≤sizeLine;decide,fun p hp=>?_⟩
  exact q _ _ (upd R1 p _) (E1.grow (Ext.fresh E1.sub hp _)) (s1.trans (au.fresh (E1.sub.free hp) _)) ⟨p,rfl,aD⟩
theorem fW {F:α→β→Prop}:∀{vs:List α} {xs:List β},PySem.Paired F vs xs→∀{i:Nat} {y:β},xs[i]?=some y→∃v,vs[i]?=some v∧F v y
  | _,_,.nil,i,y,h=>by simp at h
  | _,_,.cons h t,0,y,e=>by simp at e;subst e;exact ⟨_,rfl,h⟩
  | _,_,.cons h t,i + 1,y,e=>by
    obtain ⟨v,e1,e2⟩:=fW t (i:=i) (y:=y) (by simpa using e)
    exact ⟨v,by simpa using e1,e2⟩
theorem iL {F:α→β→Prop}{vs:List α}{xs:List β}(p:PySem.Paired F vs xs){i:Int}{y:β}(h:cA xs i=some y):∃v,cA vs i=some v∧F v y:=by
  unfold cA at h ⊢
  rw [p.length]
  cases e:f6 xs.length i with
  | none=>rw [e] at h;cases h
  | some j=>rw [e] at h;exact fW p h
theorem eO {xs:List α}{i:Int}(h0:0≤i)(h1:i < xs.length):cA xs i=xs[i.toNat]?:=by
  have e:i=((i.toNat:Nat):Int):=by omega
  have hl:i.toNat < xs.length:=by omega
  have q:cA xs ((i.toNat:Nat):Int)=some xs[i.toNat]:=w6 (List.getElem?_eq_getElem hl)
  rw [← e] at q
  rw [q,List.getElem?_eq_getElem hl]
theorem bB {a b:Expr}{pos:Pos}{r:Rep α}{xs:List α}{i:Int}{y:α}(ha:EV X a Γ (ag r) xs Γ1)(hb:EV X b Γ1 ae i Γ2)(h:cA xs i=some y)(hs:autoParam (fO b) Fc.nr):EV X (.Subscript a b pos) Γ r y Γ2:=by
  intro σ H0 R0 H R E Q q
  refine eS (fP eG aL aL hs) (ha σ H0 R0 H R E _ fun v H1 R1 E1 s1 e1=>hb σ H0 R0 H1 R1 E1 _ fun u H2 R2 E2 s2 e2=>?_)
  obtain ⟨p,vs,rfl,ha,pp,z⟩:=(ag r).mono s2 e1
  obtain ⟨w,e3,e4⟩:=iL pp h
  exact ⟨p,vs,i,w,rfl,e2,bq.of (E2.sub _ _ ha),e3,q w H2 R2 E2 (s1.trans s2) e4⟩
theorem eQ (j:Nat){x:Str}{p1:Pos}{b:Expr}{pos:Pos}{r:Rep α}{xs:List α}{i:Int}{y:α}(hb:EV X b Γ ae i Γ1)(hΓ:Γ[j]?=some (.mu r xs))(hΓ1:Γ1[j]?=some (.mu r xs))(h:cA xs i=some y)(hN:autoParam (X.N[j]?=some x) Fc.ai)(hv:autoParam (ck X.env.scope x) Fc.bO)
    (hs:autoParam (fO b) Fc.nr) (hd:autoParam ((x==("__debug__":Str))=false) Fc.aw) (hcd:autoParam ((x==("__classdict__":Str))=false) Fc.aw):EV X (.Subscript (.Name x p1) b pos) Γ r y Γ1:=by
  intro σ H0 R0 H R E Q q
  obtain ⟨a,vs,e,_,_,_⟩:=E.ent j _ hΓ
  refine eS (fP eG (br hN hv hd hcd) aL hs) ⟨.ref a,?_,hb σ H0 R0 H R E _ fun u H2 R2 E2 s2 e2=>?_⟩
  · cases es:σ[j]? with
    | none=>rw [es] at e;cases e
    | some o=>rw [es] at e;exact congrArg some e
  · obtain ⟨a',vs',e',ha,hR,pp⟩:=E2.ent j _ hΓ1
    rw [e] at e';cases e'
    obtain ⟨w,e3,e4⟩:=iL pp h
    exact ⟨a,vs',i,w,rfl,e2,bq.of ha,e3,q w H2 R2 E2 s2 e4⟩
section
variable {a:Expr}{n:Int}{j:Nat}{p1 pos:Pos}{w:Row}
theorem iD {r:Rep α}{x:α}{y:β}{r':Rep β}(ha:EV X a Γ r x Γ1)(k:∀(R:Hp) v,r.R X.K R v x→∃p vs w,v= .ref p∧R p=some (.tup vs)∧cA vs n=some w∧r'.R X.K R w y):EV X (.Subscript a (.Constant (.int n) j p1) pos) Γ r' y Γ1:=by
  intro σ H0 R0 H R E Q q
  refine eS (fP zi aL dQ (fun _ _=>rfl)) (ha σ H0 R0 H R E _ fun v H1 R1 E1 s1 e1=>?_)
  obtain ⟨p,vs,w,rfl,hp,e3,e4⟩:=k R1 v e1
  exact ⟨p,vs,n,w,rfl,rfl,dE.of (E1.sub _ _ hp),e3,q w H1 R1 E1 s1 e4⟩
theorem gy (ha:EV X a Γ aA w Γ1):EV X (.Subscript a (.Constant (.int 0) j p1) pos) Γ ae w.1 Γ1:=iD ha fun R v ⟨p,e,h⟩=>⟨p,_,_,e,h,rfl,rfl⟩
theorem fH (ha:EV X a Γ aA w Γ1):EV X (.Subscript a (.Constant (.int 1) j p1) pos) Γ ae w.2.1 Γ1:=iD ha fun R v ⟨p,e,h⟩=>⟨p,_,_,e,h,rfl,rfl⟩
theorem dh (ha:EV X a Γ aA w Γ1):EV X (.Subscript a (.Constant (.int 2) j p1) pos) Γ ae w.2.2.1 Γ1:=iD ha fun R v ⟨p,e,h⟩=>⟨p,_,_,e,h,rfl,rfl⟩
theorem lP (ha:EV X a Γ aA w Γ1):EV X (.Subscript a (.Constant (.int 3) j p1) pos) Γ ae w.2.2.2 Γ1:=iD ha fun R v ⟨p,e,h⟩=>⟨p,_,_,e,h,rfl,rfl⟩
theorem cU {r:Rep α}{r':Rep β}{x:α×β}(ha:EV X a Γ (ay r r') x Γ1):EV X (.Subscript a (.Constant (.int 0) j p1) pos) Γ r x.1 Γ1:=iD ha fun R v ⟨p,v1,v2,e,h,h1,h2⟩=>⟨p,_,v1,e,h,rfl,h1⟩
theorem bI {r:Rep α}{r':Rep β}{x:α×β}(ha:EV X a Γ (ay r r') x Γ1):EV X (.Subscript a (.Constant (.int 1) j p1) pos) Γ r' x.2 Γ1:=iD ha fun R v ⟨p,v1,v2,e,h,h1,h2⟩=>⟨p,_,v2,e,h,rfl,h2⟩
end
noncomputable def OV (X:Cx)(e:Option Expr)(Γ:Ga)(o:Option Int):Prop:=∃t,PO X e t∧∀(σ:St) (H0 R0 H R:Hp),aq X.K σ H0 R0 H R Γ→∀Q:Option Int→Hp→Prop,(∀H' R',aq X.K σ H0 R0 H' R' Γ→au R R'→Q o H')→t σ H Q
theorem dD:OV X none Γ none:=⟨_,p8,fun σ H0 R0 H R E Q q=>q H R E (au.refl _)⟩
theorem dF {e:Expr}{i:Int}(h:EV X e Γ ae i Γ):OV X (some e) Γ (some i):=⟨_,pv aL,fun σ H0 R0 H R E Q q=>h σ H0 R0 H R E _ fun v H1 R1 E1 s1 e1=>⟨i,e1,q H1 R1 E1 s1⟩⟩
noncomputable def cut (xs:List α)(lo hi:Option Int):List α:=(xs.drop (HT.sIx xs.length 0 lo)).take (HT.sIx xs.length xs.length hi - HT.sIx xs.length 0 lo)
theorem fR {F:α→β→Prop}:∀(n:Nat) {vs:List α} {xs:List β},PySem.Paired F vs xs→PySem.Paired F (vs.drop n) (xs.drop n)
  | 0,_,_,h=>h
  | _ + 1,_,_,.nil=>.nil
  | n + 1,_,_,.cons _ t=>fR n t
theorem eU {F:α→β→Prop}:∀(n:Nat) {vs:List α} {xs:List β},PySem.Paired F vs xs→PySem.Paired F (vs.take n) (xs.take n)
  | 0,_,_,_=>.nil
  | _ + 1,_,_,.nil=>.nil
  | n + 1,_,_,.cons h t=>.cons h (eU n t)
theorem cI {F:α→β→Prop}:∀{vs:List α} {xs:List β} {vs':List α} {xs':List β},PySem.Paired F vs xs→PySem.Paired F vs' xs'→PySem.Paired F (vs++vs') (xs++xs')
  | _,_,_,_,.nil,h=>h
  | _,_,_,_,.cons h t,h'=>.cons h (cI t h')
theorem eE (xs:List α)(lo hi:Option Int):(cut xs lo hi).length≤xs.length:=by
  unfold cut
  rw [List.length_take,List.length_drop]
  omega
theorem c7 {a:Expr}{lo hi:Option Expr}{p2 pos:Pos}{r:Rep α}{xs:List α}{l h:Option Int}(ha:EV X a Γ (ag r) xs Γ)(hl:OV X lo Γ l)(hh:OV X hi Γ h):aC X (.Subscript a (.Slice lo hi none p2) pos) Γ r (cut xs l h) Γ:=by
  intro σ H0 R0 H R E Q q
  obtain ⟨tl,pl,kl⟩:=hl
  obtain ⟨th,ph,kh⟩:=hh
  refine eS (kj pV aL pl ph) (ha σ H0 R0 H R E _ fun v H1 R1 E1 s1 e1=>kl σ H0 R0 H1 R1 E1 _ fun H2 R2 E2 s2=>kh σ H0 R0 H2 R2 E2 _ fun H3 R3 E3 s3=>?_)
  obtain ⟨p,vs,rfl,hp,pp,z⟩:=(ag r).mono (s2.trans s3) e1
  refine ⟨p,vs,rfl,bq.of (E3.sub _ _ hp),fun d hd=>?_⟩
  refine q d _ _ R3 (E3.grow (Ext.cV E3.sub hd _)) (s1.trans (s2.trans s3)) aD (E3.sub.free hd) (E3.ext.h.free hd) (E3.off hd) ?_ (Nat.le_trans (eE _ _ _) z)
  unfold cut je
  rw [pp.length]
  exact eU _ (fR _ pp)
theorem qB {a:Expr}{lo hi:Option Expr}{p2 pos:Pos}{xs:List Int}{l h:Option Int}(ha:EV X a Γ gf xs Γ)(hl:OV X lo Γ l)(hh:OV X hi Γ h):aC X (.Subscript a (.Slice lo hi none p2) pos) Γ ae (cut xs l h) Γ:=by
  intro σ H0 R0 H R E Q q
  obtain ⟨tl,pl,kl⟩:=hl
  obtain ⟨th,ph,kh⟩:=hh
  refine eS (kj pV aL pl ph) (ha σ H0 R0 H R E _ fun v H1 R1 E1 s1 e1=>kl σ H0 R0 H1 R1 E1 _ fun H2 R2 E2 s2=>kh σ H0 R0 H2 R2 E2 _ fun H3 R3 E3 s3=>?_)
  obtain ⟨p,rfl,hp,z⟩:=gf.mono (s2.trans s3) e1
  refine ⟨p,_,rfl,E3.sub.seq hp,fun d hd=>?_⟩
  have aints:∀ys:List Int,PySem.Paired (ae.R X.K R3) (ys.map V.int) ys:=fun ys=>by
    induction ys with
    | nil=>exact .nil
    | cons y r ih=>exact .cons rfl ih
  refine q d _ _ R3 (E3.grow (Ext.cV E3.sub hd _)) (s1.trans (s2.trans s3)) aD (E3.sub.free hd) (E3.ext.h.free hd) (E3.off hd) ?_ (Nat.le_trans (eE _ _ _) (Nat.le_trans z (by decide)))
  unfold cut je
  rw [List.length_map]
  exact eU _ (fR _ (aints xs))
theorem cn {a b:Expr}{pos:Pos}{r:Rep α}{xs ys:List α}(ha:EV X a Γ (ag r) xs Γ1)(hb:EV X b Γ1 (ag r) ys Γ2)(hz:xs.length + ys.length≤sizeLine):aC X (.BinOp a .Add b pos) Γ r (xs++ys) Γ2:=by
  intro σ H0 R0 H R E Q q
  refine eS (mQ tM aL aL) (ha σ H0 R0 H R E _ fun v H1 R1 E1 s1 e1=>hb σ H0 R0 H1 R1 E1 _ fun u H2 R2 E2 s2 e2=>?_)
  obtain ⟨p,vs,rfl,hp,pp,z⟩:=(ag r).mono s2 e1
  obtain ⟨p',ws,rfl,hp',pp',z'⟩:=e2
  refine ⟨p,p',vs,ws,rfl,rfl,E2.sub _ _ hp,E2.sub _ _ hp',by rw [pp.length,pp'.length];exact hz,fun d hd=>?_⟩
  exact q d _ _ R2 (E2.grow (Ext.cV E2.sub hd _)) (s1.trans s2) aD (E2.sub.free hd) (E2.ext.h.free hd) (E2.off hd) (cI pp pp') (by rw [List.length_append];exact hz)
theorem kD {F:α→β→Prop}{vs:List α}{xs:List β}(h:PySem.Paired F vs xs):∀k:Nat,PySem.Paired F (List.replicate k vs).flatten (List.replicate k xs).flatten
  | 0=>.nil
  | k + 1=>by rw [List.replicate_succ,List.replicate_succ];exact cI h (kD h k)
theorem wO {a b:Expr}{pos:Pos}{r:Rep α}{xs:List α}{k:Int}(ha:EV X a Γ (ag r) xs Γ1)(hb:EV X b Γ1 ae k Γ2)(h1: -(2 ^ 63)≤k)(h2:k < 2 ^ 63)(hz:xs.length * k.toNat≤sizeLine):aC X (.BinOp a .Mult b pos) Γ r (List.replicate k.toNat xs).flatten Γ2:=by
  intro σ H0 R0 H R E Q q
  refine eS (mQ zy aL aL) (ha σ H0 R0 H R E _ fun v H1 R1 E1 s1 e1=>hb σ H0 R0 H1 R1 E1 _ fun u H2 R2 E2 s2 e2=>?_)
  obtain ⟨p,vs,rfl,hp,pp,z⟩:=(ag r).mono s2 e1
  refine ⟨p,k,vs,rfl,e2,E2.sub _ _ hp,h1,h2,by rw [pp.length];exact hz,fun d hd=>?_⟩
  exact q d _ _ R2 (E2.grow (Ext.cV E2.sub hd _)) (s1.trans s2) aD (E2.sub.free hd) (E2.ext.h.free hd) (E2.off hd) (kD pp _) (by rw [len_rep,Nat.mul_comm];exact hz)
theorem cj {a:Expr}{p pos:Pos}{r:Rep α}{xs:List α}(hm:X.mg "len"=none)(ha:EV X a Γ (ag r) xs Γ1)(hs:autoParam (starEach [a] X.env=[(false,eval a X.env)]) Fc.ai)(hg:autoParam (Gl X "len") Fc.ai):EV X (.Call (.Name "len" p) [a] [] pos) Γ ae (xs.length:Int) Γ1:=by
  intro σ H0 R0 H R E Q q
  refine eS (cR eu hg hm PySem.boot_len (aT aL bL hs) (by decide) (by decide) hs) (ha σ H0 R0 H R E _ fun v H1 R1 E1 s1 e1=>?_)
  obtain ⟨p,vs,rfl,hp,pp,z⟩:=e1
  refine ⟨p,vs,rfl,.inl (bq.of (E1.sub _ _ hp)),?_⟩
  rw [pp.length]
  exact q _ H1 R1 E1 s1 rfl
end
section
variable {X:Cx}{Γ Γ1 Γ2 Γ3:Ga}{α β γ δ:Type}{N:Ga→Prop}{T:RT}
theorem yL {Γ':Ga}(w:Wk Γ Γ')(h:N Γ'):WS X [] Γ N T:=fun σ H0 R0 H R E D dn dr=>nA xr (dn σ H R Γ' (E.weak w) (au.refl _) h)
theorem aU (h:N Γ):WS X [] Γ N T:=yL (Wk.refl Γ) h
theorem aj {st:Stmt}{rest:List Stmt}(h:W1 X st Γ (fun Γ'=>WS X rest Γ' N T) T):WS X (st::rest) Γ N T:=fun σ H0 R0 H R E D dn dr=>
  nA (gI pB dB) (h σ H0 R0 H R E {D with nx:=gq X rest D} (fun σ' H' R' Γ' E' s' h'=>h' σ' H0 R0 H' R' E' D (fun σ2 H2 R2 Γ2 E2 s2=>dn σ2 H2 R2 Γ2 E2 (s'.trans s2)) dr) dr)
theorem ar {st:Stmt}(h:W1 X st Γ N T):WS X [st] Γ N T:=fun σ H0 R0 H R E D dn dr=>nA (xp pB) (h σ H0 R0 H R E D dn dr)
theorem aK (i:Nat){x:Str}{p1 pos:Pos}{e:Expr}{r:Rep α}{y:α}(he:EV X e Γ r y Γ1)(h:N (Γ1.set i (.im r y)))(hN:autoParam (X.N.Nodup) Fc.dY)(hi:autoParam (X.N[i]?=some x) Fc.ai)(hx:autoParam (Loc X.env.scope x) Fc.dA)
    (hs:autoParam (swapsWith e (some (.Name x p1)) pos.line X.env=pure false) Fc.ai) (hf:autoParam (X.fn x=true∨X.env.scope.names.lookup x=some .local) Fc.fZ):W1 X (.Assign [.Name x p1] e pos) Γ N T:=fun σ H0 R0 H R E D dn dr=>
  sS (fv hN hi hx aL hs hf) (he σ H0 R0 H R E _ fun v H1 R1 E1 s1 e1=>dn _ H1 R1 _ (E1.set i e1) s1 h)
theorem de (i:Nat){x:Str}{p1 pos:Pos}{e:Expr}{r:Rep α}{ys:List α}(he:aC X e Γ r ys Γ1)(h:N (Γ1.set i (.mu r ys)))(hN:autoParam (X.N.Nodup) Fc.dY)(hi:autoParam (X.N[i]?=some x) Fc.ai)(hx:autoParam (Loc X.env.scope x) Fc.dA)
    (hs:autoParam (swapsWith e (some (.Name x p1)) pos.line X.env=pure false) Fc.ai) (hf:autoParam (X.fn x=true∨X.env.scope.names.lookup x=some .local) Fc.fZ):W1 X (.Assign [.Name x p1] e pos) Γ N T:=fun σ H0 R0 H R E D dn dr=>
  sS (fv hN hi hx aL hs hf) (he σ H0 R0 H R E _ fun a vs H1 R1 E1 s1 ha hR h0 off p z=>dn _ H1 R1 _ (E1.qr (u:=.lst vs) (en:=.mu r ys) i ⟨a,vs,rfl,ha,hR,p⟩ h0 fun j e _ q w=>off j e q w) s1 h)
theorem AZ {tg:Expr}{pos:Pos}{e:Expr}{r:Rep α}{y:α}{bf:α→Ga→Ga}(he:EV X e Γ r y Γ1)(hb:BG X tg r bf)(h:N (bf y Γ1))
    (hs:autoParam (swapsWithSole [tg] e pos.line X.env=pure false) Fc.ai) (hw:autoParam (swappedStores [tg] e X.env=pure none) Fc.ai) (h1:autoParam ((assignEach [tg] X.env).map (·.2)=[assign tg X.env]) Fc.ai):W1 X (.Assign [tg] e pos) Γ N T:=fun σ H0 R0 H R E D dn dr=>
  sS (gc aL vw hs hw h1) (he σ H0 R0 H R E _ fun v H1 R1 E1 s1 e1=>hb σ H0 R0 H1 R1 Γ1 v y E1 e1 _ fun σ' E'=>dn σ' H1 R1 _ E' s1 h)
theorem bA {e:Expr}{pos:Pos}{r:Rep α}{P:α→Prop}{y:α}(he:EV X e Γ r y Γ1)(h:P y):W1 X (.Return (some e) pos) Γ N (bC X.K r P):=fun σ H0 R0 H R E D dn dr=>
  sS (dO aL) (he σ H0 R0 H R E _ fun v H1 R1 E1 s1 e1=>dr v H1 R1 E1.ext ⟨y,e1,h⟩)
theorem Af {e:Expr}{pos:Pos}{r:Rep α}{P:List α→Prop}{ys:List α}(he:aC X e Γ r ys Γ1)(h:P ys):W1 X (.Return (some e) pos) Γ N (jm X.K r P):=fun σ H0 R0 H R E D dn dr=>
  sS (dO aL) (he σ H0 R0 H R E _ fun a vs H1 R1 E1 s1 ha hR h0 off p z=>dr _ H1 R1 E1.ext ⟨a,vs,ys,rfl,h0,ha,hR,p,z,h⟩)
theorem bu {c:Expr}{a b:List Stmt}{pos:Pos}{k:Bool}(hc:TV X c Γ k Γ1)(h1:k=true→WS X a Γ1 N T)(h2:k=false→WS X b Γ1 N T):W1 X (.If c a b pos) Γ N T:=fun σ H0 R0 H R E D dn dr=>by
  refine sS (vz jO dB dB) (hc σ H0 R0 H R E _ fun H1 R1 E1 s1=>?_)
  cases k with
  | true=>exact jq (h1 rfl σ H0 R0 H1 R1 E1 D (fun σ2 H2 R2 Γ2 E2 s2=>dn σ2 H2 R2 Γ2 E2 (s1.trans s2)) dr)
  | false=>exact jg (h2 rfl σ H0 R0 H1 R1 E1 D (fun σ2 H2 R2 Γ2 E2 s2=>dn σ2 H2 R2 Γ2 E2 (s1.trans s2)) dr)
theorem aM (i:Nat){x:Str}{pos:Pos}{r:Rep α}(hN:autoParam (X.N.Nodup) Fc.dY)(hi:autoParam (X.N[i]?=some x) Fc.ai)(hx:autoParam (Loc X.env.scope x) Fc.dA)(hf:autoParam (X.fn x=true∨X.env.scope.names.lookup x=some .local) Fc.fZ):
    BG X (.Name x pos) r (fun y Γ=>Γ.set i (.im r y)):=fun σ H0 R0 H R Γ v x E h Q q=>gS (fI hN hi hx hf) (q _ (E.set i h))
theorem jy (i j:Nat){x y:Str}{k:Nat}{p1 p2 pos:Pos}{r:Rep α}{r':Rep β}(hc:autoParam (X.calm=true) Fc.ai)(hN:autoParam (X.N.Nodup) Fc.dY)(hi:autoParam (X.N[i]?=some x) Fc.ai)(hx:autoParam (Loc X.env.scope x) Fc.dA)(hf:autoParam (X.fn x=true∨X.env.scope.names.lookup x=some .local) Fc.fZ)
    (hj:autoParam (X.N[j]?=some y) Fc.ai) (hy:autoParam (Loc X.env.scope y) Fc.dA) (hf':X.fn y=true∨X.env.scope.names.lookup y=some .local:=by first | exact .inl rfl | exact .inr rfl):
    BG X (.Tuple [.Name x p1,.Name y p2] k pos) (ay r r') (fun w Γ=>(Γ.set i (.im r w.1)).set j (.im r' w.2)):=fun σ H0 R0 H R Γ v w E h Q q=>by
  obtain ⟨a,v1,v2,rfl,ha,e1,e2⟩:=h
  exact gS (yk hc (fL (fI hN hi hx hf) (fL (fI hN hj hy hf') lR))) ⟨a,_,rfl,dE.of (E.sub _ _ ha),rfl,v1,[v2],rfl,v2,[],rfl,rfl,q _ ((E.set i e1).set j e2)⟩
theorem iV {F:α→β→Prop}:∀{vs:List α} {xs:List β},PySem.Paired F vs xs→∀{i:Nat} {v:α},vs[i]?=some v→∃y,xs[i]?=some y∧F v y
  | _,_,.nil,i,y,h=>by simp at h
  | _,_,.cons h t,0,y,e=>by simp at e;subst e;exact ⟨_,rfl,h⟩
  | _,_,.cons h t,i + 1,y,e=>by
    obtain ⟨v,e1,e2⟩:=iV t (i:=i) (v:=y) (by simpa using e)
    exact ⟨v,by simpa using e1,e2⟩
end
section
variable {X:Cx}{Γ Γ1 Γ2 Γ3:Ga}{α β γ δ:Type}{N:Ga→Prop}{T:RT}
theorem at_of {σ:St}{i:Nat}{v:V}(e:(σ[i]?).join=some v):σ[i]?=some (some v):=by
  cases es:σ[i]? with
  | none=>rw [es] at e;cases e
  | some o=>rw [es] at e;exact congrArg some e
theorem gu {c:Expr}{body:List Stmt}{pos:Pos}(I:Nat→Ga→Prop){m0:Nat}(h0:I m0 Γ)
    (hstep:∀(m:Nat) (Γ:Ga),I m Γ→∃(k:Bool) (Γ':Ga),TV X c Γ k Γ'∧(k=true→WS X body Γ' (fun Γ''=>∃m',m' < m∧I m' Γ'') T)∧(k=false→N Γ'))
    (hp:PassesOwn (model X.prog X.w) X.A X.env X.xe:=by exact PassesOwn.never):W1 X (.While c body [] pos) Γ N T:=fun σ H0 R0 H R E D dn dr=>by
  refine sS (uV hp jO dB) ?_
  refine ⟨fun m σ' H'=>∃R' Γ',aq X.K σ' H0 R0 H' R' Γ'∧au R R'∧I m Γ',⟨m0,R,Γ,E,au.refl _,h0⟩,?_⟩
  rintro m σ' H' ⟨R',Γ',E',s',hI⟩
  obtain ⟨k,Γ2,ht,h1,h2⟩:=hstep m Γ' hI
  refine ht σ' H0 R0 H' R' E' _ fun H1 R1 E1 s1=>?_
  cases k with
  | true=>
    refine jq ⟨_,fun σ2 H2 h=>h,h1 rfl σ' H0 R0 H1 R1 E1 _ (fun σ3 H3 R3 Γ3 E3 s3 h3=>?_) dr⟩
    obtain ⟨m',hm,hI'⟩:=h3
    exact ⟨m',hm,R3,Γ3,E3,s'.trans (s1.trans s3),hI'⟩
  | false=>exact jg (dn σ' H1 R1 Γ2 E1 (s'.trans s1) (h2 rfl))
theorem eA (i:Nat){x:Str}{e:Expr}{p1 ap cp pos:Pos}{r:Rep α}{xs:List α}{y:α}(he:EV X e Γ r y Γ1)(hΓ:Γ[i]?=some (.mu r xs))(hΓ1:Γ1[i]?=some (.mu r xs))(hz:xs.length < sizeLine)(h:N (Γ1.set i (.mu r (xs++[y]))))
    (hN:autoParam (X.N[i]?=some x) Fc.ai) (hv:autoParam (ck X.env.scope x) Fc.bO)
    (hd:autoParam ((x==("__debug__":Str))=false) Fc.aw) (hcd:autoParam ((x==("__classdict__":Str))=false) Fc.aw)
    (hsw:autoParam (swapsWith (.Call (.Attribute (.Name x p1) "append" ap) [e] [] cp) none pos.line X.env=pure false) Fc.ai)
    (hbase:autoParam (attributeBase (.Name x p1) "append" X.env (eval (.Name x p1) X.env)=eval (.Name x p1) X.env) Fc.ai)
    (hfew:autoParam (((backTo cp (starEach [e] X.env)).all (fun x=> !x.1)&&(backToKw cp (keywordEach [] X.env)).all (fun x=>x.1.isSome)
      &&decide ([e].length + ([]:List Keyword).length + (if ([]:List Keyword).isEmpty then 0 else 1) < 30))=true) Fc.ai)
    (hline:autoParam ((ap.endLine==cp.line)=true) Fc.ai) (hs:autoParam (starEach [e] X.env=(false,eval e X.env)::starEach [] X.env) Fc.ai):W1 X (.Expr (.Call (.Attribute (.Name x p1) "append" ap) [e] [] cp) pos) Γ N T:=fun σ H0 R0 H R E D dn dr=>by
  obtain ⟨a,vs,ea,ha,hR,pp⟩:=E.ent i _ hΓ
  refine sS (fc (kR PySem.F.plainAttrs_list PySem.F.slot_list_append PySem.F.type_list_append mx (br hN hv hd hcd) (aT aL bL hs) hbase hfew hline hs rfl) hsw) ?_
  refine ⟨.ref a,at_of ea,.inl ⟨rfl,vs,bq.of ha⟩,he σ H0 R0 H R E _ fun v H1 R1 E1 s1 e1=>?_⟩
  obtain ⟨a',vs',ea',ha',hR',pp'⟩:=E1.ent i _ hΓ1
  rw [ea] at ea';cases ea'
  refine ⟨a,vs',v,rfl,rfl,ha',by rw [pp'.length];exact hz,?_⟩
  exact dn σ _ R1 _ (E1.upd (en:=.mu r (xs++[y])) hΓ1 rfl ea hR' ⟨a,_,rfl,aD,hR',cI pp' (.cons e1 .nil)⟩) s1 h
theorem lp {F:α→β→Prop}{v:α}{y:β}(h:F v y):∀{vs:List α} {xs:List β} (i:Nat),PySem.Paired F vs xs→PySem.Paired F (vs.set i v) (xs.set i y)
  | _,_,_,.nil=>.nil
  | _,_,0,.cons _ t=>.cons h t
  | _,_,i + 1,.cons q t=>.cons q (lp h i t)
theorem lK (i:Nat){x:Str}{b e:Expr}{p1 p2 pos:Pos}{r:Rep α}{xs:List α}{y:α}{k:Int}{j:Nat}(he:EV X e Γ r y Γ1)(hb:EV X b Γ1 ae k Γ2)(hΓ1:Γ1[i]?=some (.mu r xs))(hΓ2:Γ2[i]?=some (.mu r xs))(hj:f6 xs.length k=some j)(h:N (Γ2.set i (.mu r (xs.set j y))))
    (hN:autoParam (X.N[i]?=some x) Fc.ai) (hv:autoParam (ck X.env.scope x) Fc.bO)
    (hd:autoParam ((x==("__debug__":Str))=false) Fc.aw) (hcd:autoParam ((x==("__classdict__":Str))=false) Fc.aw)
    (ha:autoParam (∀v,assign (.Subscript (.Name x p1) b p2) X.env v=(do
      let ov ← holding [v] (eval (.Name x p1) X.env)
      let iv ← holding [v,ov] (eval b X.env)
      standAt p2
      holding [v,ov,iv] (setItem ov iv v)
      release [v,ov,iv] [])) Fc.cZ)
    (hs:autoParam (swapsWithSole [.Subscript (.Name x p1) b p2] e pos.line X.env=pure false) Fc.ai) (hw:autoParam (swappedStores [.Subscript (.Name x p1) b p2] e X.env=pure none) Fc.ai) (h1:autoParam ((assignEach [.Subscript (.Name x p1) b p2] X.env).map (·.2)=[assign (.Subscript (.Name x p1) b p2) X.env]) Fc.ai):
    W1 X (.Assign [.Subscript (.Name x p1) b p2] e pos) Γ N T:=fun σ H0 R0 H R E D dn dr=>by
  refine sS (gc aL (kS (br hN hv hd hcd) aL set_list ha) hs hw h1) (he σ H0 R0 H R E _ fun v H1 R1 E1 s1 e1=>?_)
  obtain ⟨a,vs,ea,hp,hR,pp⟩:=E1.ent i _ hΓ1
  refine ⟨.ref a,at_of ea,hb σ H0 R0 H1 R1 E1 _ fun u H2 R2 E2 s2 e2=>?_⟩
  obtain ⟨a',vs',ea',ha',hR',pp'⟩:=E2.ent i _ hΓ2
  rw [ea] at ea';cases ea'
  refine ⟨a,vs',k,j,rfl,e2,ha',by rw [pp'.length];exact hj,?_⟩
  exact dn σ _ R2 _ (E2.upd (en:=.mu r (xs.set j y)) hΓ2 rfl ea hR' ⟨a,_,rfl,aD,hR',lp (r.mono s2 e1) j pp'⟩) (s1.trans s2) h
theorem lj {F:α→β→Prop}{vs:List α}{xs:List β}(p:PySem.Paired F vs xs):PySem.Paired F vs.dropLast xs.dropLast:=by
  rw [List.dropLast_eq_take,List.dropLast_eq_take,p.length]
  exact eU _ p
theorem Ac (i:Nat){x:Str}{p1 ap cp:Pos}{r:Rep α}{xs:List α}{y:α}(hΓ:Γ[i]?=some (.mu r xs))(hy:xs[xs.length - 1]?=some y)
    (hN:autoParam (X.N[i]?=some x) Fc.ai) (hv:autoParam (ck X.env.scope x) Fc.bO)
    (hd:autoParam ((x==("__debug__":Str))=false) Fc.aw) (hcd:autoParam ((x==("__classdict__":Str))=false) Fc.aw)
    (hbase:autoParam (attributeBase (.Name x p1) "pop" X.env (eval (.Name x p1) X.env)=eval (.Name x p1) X.env) Fc.ai) (hline:autoParam ((ap.endLine==cp.line)=true) Fc.ai):
    EV X (.Call (.Attribute (.Name x p1) "pop" ap) [] [] cp) Γ r y (Γ.set i (.mu r xs.dropLast)):=by
  intro σ H0 R0 H R E Q q
  obtain ⟨a,vs,ea,ha,hR,pp⟩:=E.ent i _ hΓ
  obtain ⟨v,hv',hr⟩:=fW pp hy
  refine eS (yA PySem.F.plainAttrs_list PySem.F.slot_list_pop PySem.F.type_list_pop yK (br hN hv hd hcd) hbase hline) ⟨.ref a,at_of ea,.inl ⟨rfl,vs,bq.of ha⟩,?_⟩
  refine ⟨a,vs,v,rfl,rfl,ha,by rw [pp.length];exact hv',?_⟩
  exact q v _ R (E.upd hΓ rfl ea hR ⟨a,_,rfl,aD,hR,lj pp⟩) (au.refl _) hr
theorem yV (i:Nat){x:Str}{pos:Pos}{r:Rep α}{xs:List α}(hΓ:Γ[i]?=some (.mu r xs))(hN:autoParam (X.N[i]?=some x) Fc.ai)(hv:autoParam (ck X.env.scope x) Fc.bO)
    (hd:autoParam ((x==("__debug__":Str))=false) Fc.aw) (hcd:autoParam ((x==("__classdict__":Str))=false) Fc.aw)
    (he:autoParam (∀whole,isTrue (.Name x pos) X.env whole=(do let v ← whole;standAt (Expr.Name x pos).pos;holding [v] (truthy v))) Fc.cZ):TV X (.Name x pos) Γ (!xs.isEmpty) Γ:=by
  intro σ H0 R0 H R E Q q
  obtain ⟨a,vs,ea,ha,hR,pp⟩:=E.ent i _ hΓ
  refine tS (oJ (br hN hv hd hcd) he) ⟨.ref a,at_of ea, !xs.isEmpty,.inl ⟨vs,bq.of ha,?_⟩,q H R E (au.refl _)⟩
  cases pp<;>rfl
theorem dU (i:Nat){x:Str}{p1 p pos:Pos}{r:Rep α}{xs:List α}(hm:X.mg "len"=none)(hΓ:Γ[i]?=some (.mu r xs))(hN:autoParam (X.N[i]?=some x) Fc.ai)(hv:autoParam (ck X.env.scope x) Fc.bO)
    (hd:autoParam ((x==("__debug__":Str))=false) Fc.aw) (hcd:autoParam ((x==("__classdict__":Str))=false) Fc.aw) (hg:autoParam (Gl X "len") Fc.ai):EV X (.Call (.Name "len" p) [.Name x p1] [] pos) Γ ae (xs.length:Int) Γ:=by
  intro σ H0 R0 H R E Q q
  obtain ⟨a,vs,ea,ha,hR,pp⟩:=E.ent i _ hΓ
  refine eS (cR eu hg hm PySem.boot_len (aT (br hN hv hd hcd) bL rfl) (by decide) (by decide) rfl) ⟨.ref a,at_of ea,a,vs,rfl,.inl (bq.of ha),?_⟩
  rw [pp.length]
  exact q _ H R E (au.refl _) rfl
theorem freeze {K:PySem.W.Frag}{σ:St}{H0 R0 H R:Hp}(E:aq K σ H0 R0 H R Γ){i:Nat}{r:Rep α}{xs:List α}(hΓ:Γ[i]?=some (.mu r xs))(hz:xs.length≤sizeLine):∃R' v,aq K σ H0 R0 H R' (Γ.set i (.im (ag r) xs))∧au R R'∧(σ[i]?).join=some v∧(ag r).R K R' v xs:=by
  obtain ⟨a,vs,ea,ha,hR,pp⟩:=E.ent i _ hΓ
  have h0:H0 a=none:=E.new i _ a hΓ rfl ea
  have s2:au R (upd R a (.lst vs)):=au.fresh hR _
  have rr:(ag r).R K (upd R a (.lst vs)) (.ref a) xs:=⟨a,vs,rfl,aD,Paired.map (fun _ _=>r.mono s2) pp,hz⟩
  have E1:aq K σ H0 R0 H R (Γ.set i .no):=E.tell hΓ trivial fun b w=>by cases w
  have E2:=E1.mL ha hR h0 fun j e q w=>by
    rcases set_at q with ⟨rfl,rfl,_⟩ | ⟨hj,q1⟩
    · cases w
    · exact hj (E.ds j i e _ a q1 hΓ w ((Ent.k7 (e:=.mu r xs) rfl).mpr ea))
  have hl:i < Γ.length:=(List.getElem?_eq_some_iff.mp hΓ).1
  have E3:=E2.tell (i:=i) (e0:=.no) (en:=.im (ag r) xs) (List.getElem?_set_self hl) ⟨_,ea,rr⟩ fun b w=>by cases w
  rw [List.set_set] at E3
  exact ⟨_,.ref a,E3,s2,ea,rr⟩
theorem WS.freeze (i:Nat){sts:List Stmt}{r:Rep α}{xs:List α}(hΓ:Γ[i]?=some (.mu r xs))(hz:xs.length≤sizeLine)(h:WS X sts (Γ.set i (.im (ag r) xs)) N T):WS X sts Γ N T:=fun σ H0 R0 H R E D dn dr=>by
  obtain ⟨R',v,E',s',_,_⟩:=Fc.freeze E hΓ hz
  exact h σ H0 R0 H R' E' D (fun σ2 H2 R2 Γ2 E2 s2=>dn σ2 H2 R2 Γ2 E2 (s'.trans s2)) dr
noncomputable def kY:Rep (List (Int×V)):=⟨fun K H v kvs=>∃a,v= .ref a∧H a=some (.dK (cM kvs)),fun s ⟨a,e,q⟩=>⟨a,e,s _ _ q⟩⟩
noncomputable def fm (kvs:List (Int×V))(k:Int):Bool:=kvs.any fun p=>decide (p.1=k)
theorem iB (kvs:List (Int×V))(k:Int):(cJ (cM kvs) (Sum.inl k:Key)).isSome=fm kvs k:=by
  rw [← e8]
  unfold cM fm
  rw [List.any_map]
  congr 1
  funext p
  show decide ((Sum.inl p.1:Key)=Sum.inl k)=decide (p.1=k)
  by_cases h:p.1=k
  · rw [h];simp
  · rw [decide_eq_false h,decide_eq_false fun z=>h (Sum.inl.inj z)]
noncomputable def mK (X:Cx)(e:Expr)(Γ:Ga)(k:Int):Prop:=∀(σ:St) (H0 R0 H R:Hp),aq X.K σ H0 R0 H R Γ→∀(H':Hp) (Q:VK),Q (.int k) H'→dG X e σ H' Q
theorem rS {i:Int}{j:Nat}{pos:Pos}:mK X (.Constant (.int i) j pos) Γ i:=fun σ H0 R0 H R E H' Q q=>eS dQ q
theorem qf (i:Nat){x:Str}{pos:Pos}{y:Int}(hΓ:Γ[i]?=some (.im ae y))(hN:autoParam (X.N[i]?=some x) Fc.ai)(hv:autoParam (ck X.env.scope x) Fc.bO)
    (hd:autoParam ((x==("__debug__":Str))=false) Fc.aw) (hcd:autoParam ((x==("__classdict__":Str))=false) Fc.aw):mK X (.Name x pos) Γ y:=fun σ H0 R0 H R E H' Q q=>by
  obtain ⟨v,e,h⟩:=E.ent i _ hΓ
  cases h
  exact eS (br hN hv hd hcd) ⟨_,at_of e,q⟩
theorem lJ (i:Nat){x:Str}{ke ve:Expr}{p1 p2 pos:Pos}{k:Int}{v:V}(hk:mK X ke Γ k)(hv:PE X ve (tC v))(h:N (Γ.set i (.di [(k,v)])))
    (hN:autoParam (X.N.Nodup) Fc.dY) (hi:autoParam (X.N[i]?=some x) Fc.ai) (hx:autoParam (Loc X.env.scope x) Fc.dA)
    (hs:autoParam (swapsWith (.Dict [some ke] [ve] p2) (some (.Name x p1)) pos.line X.env=pure false) Fc.ai) (hf:autoParam (X.fn x=true∨X.env.scope.names.lookup x=some .local) Fc.fZ):
    W1 X (.Assign [.Name x p1] (.Dict [some ke] [ve] p2) pos) Γ N T:=fun σ H0 R0 H R E D dn dr=>by
  refine sS (fv hN hi hx (xO (ug aL hv xv) rfl rfl (by simp) (by simp)) hs hf) fun p hp=>?_
  refine hk σ H0 R0 H R E _ _ ?_
  refine ⟨aD,[(Sum.inl k,v)],rfl,(by show 1≤15;decide),?_⟩
  have E1:=E.grow (Ext.cV E.sub hp (.dK (cM [(k,v)])))
  have e:upd (upd H p (.dK [])) p (.dK (ip [] [(Sum.inl k,v)]))=upd H p (.dK (cM [(k,v)])):=by
    rw [w9];rfl
  rw [e]
  exact dn _ _ R _ (E1.qr (u:=.dK (cM [(k,v)])) (en:=.di [(k,v)]) i ⟨p,rfl,aD,E.sub.free hp⟩ (E.ext.h.free hp) fun j e _ q w=>E.off hp j e q w) (au.refl _) h
theorem lF (i:Nat)(neg:Bool){x:Str}{e:Expr}{p1 pos:Pos}{kvs:List (Int×V)}{k:Int}(hu:X.A.units + 1 < cLine)(he:EV X e Γ ae k Γ)(hΓ:Γ[i]?=some (.di kvs))(hN:autoParam (X.N[i]?=some x) Fc.ai)(hv:autoParam (ck X.env.scope x) Fc.bO)
    (hd:autoParam ((x==("__debug__":Str))=false) Fc.aw) (hcd:autoParam ((x==("__classdict__":Str))=false) Fc.aw):
    TV X (.Compare e [if neg then .NotIn else .In] [.Name x p1] pos) Γ (if neg then !fm kvs k else fm kvs k) Γ:=by
  intro σ H0 R0 H R E Q q
  cases neg with
  | false=>
    refine tS (tj (oH hu aL (br hN hv hd hcd)) (by with_unfolding_all rfl)) (he σ H0 R0 H R E _ fun v H1 R1 E1 s1 e1=>?_)
    obtain ⟨a,ea,ha,hR⟩:=E1.ent i _ hΓ
    cases e1
    refine ⟨.ref a,at_of ea,a,_,rfl,eZ.k (k:=Sum.inl k) ha,_,rfl,?_⟩
    rw [iB]
    exact q H1 R1 E1 s1
  | true=>
    refine tS (tj (tO hu aL (br hN hv hd hcd)) (by with_unfolding_all rfl)) (he σ H0 R0 H R E _ fun v H1 R1 E1 s1 e1=>?_)
    obtain ⟨a,ea,ha,hR⟩:=E1.ent i _ hΓ
    cases e1
    refine ⟨.ref a,at_of ea,a,_,rfl,eZ.k (k:=Sum.inl k) ha,_,rfl,?_⟩
    rw [iB]
    exact q H1 R1 E1 s1
theorem sO (i:Nat){x:Str}{ke ve:Expr}{p1 p2 pos:Pos}{k:Int}{v:V}{kvs:List (Int×V)}(hu:X.A.units + 1 < cLine)(hk:EV X ke Γ ae k Γ)(hv:PE X ve (tC v))(hΓ:Γ[i]?=some (.di kvs))(hn:fm kvs k=false)(hz:kvs.length < sizeLine)(h:N (Γ.set i (.di (kvs++[(k,v)]))))
    (hN:autoParam (X.N[i]?=some x) Fc.ai) (hvi:autoParam (ck X.env.scope x) Fc.bO)
    (hd:autoParam ((x==("__debug__":Str))=false) Fc.aw) (hcd:autoParam ((x==("__classdict__":Str))=false) Fc.aw)
    (hs:autoParam (swapsWith ve (some (.Subscript (.Name x p1) ke p2)) pos.line X.env=pure false) Fc.ai):W1 X (.Assign [.Subscript (.Name x p1) ke p2] ve pos) Γ N T:=fun σ H0 R0 H R E D dn dr=>by
  refine sS (pX hu (br hN hvi hd hcd) aL hv hs) ?_
  obtain ⟨a,ea,ha,hR⟩:=E.ent i _ hΓ
  refine ⟨.ref a,at_of ea,hk σ H0 R0 H R E _ fun u H1 R1 E1 s1 e1=>?_⟩
  obtain ⟨a',ea',ha',hR'⟩:=E1.ent i _ hΓ
  rw [ea] at ea';cases ea'
  cases e1
  refine ⟨a,_,rfl,lr.k (k:=Sum.inl k) ha' (by unfold cM;rw [List.length_map];exact hz),?_⟩
  have vn:cJ (cM kvs) (Sum.inl k:Key)=none:=by
    have:=iB kvs k
    rw [hn] at this
    cases q:cJ (cM kvs) (Sum.inl k:Key) with
    | none=>rfl
    | some z=>rw [q] at this;cases this
  rw [vf v vn]
  have e:cM kvs++[((Sum.inl k:Key),v)]=cM (kvs++[(k,v)]):=by unfold cM;rw [List.map_append];rfl
  rw [e]
  exact dn σ _ R1 _ (E1.upd (en:=.di (kvs++[(k,v)])) hΓ rfl ea hR' ⟨a,rfl,aD,hR'⟩) s1 h
theorem AK (i:Nat){x:Str}{p1 pos:Pos}{P:List (Int×V)→Prop}{kvs:List (Int×V)}(hΓ:Γ[i]?=some (.di kvs))(h:P kvs)(hN:autoParam (X.N[i]?=some x) Fc.ai)(hv:autoParam (ck X.env.scope x) Fc.bO)
    (hd:autoParam ((x==("__debug__":Str))=false) Fc.aw) (hcd:autoParam ((x==("__classdict__":Str))=false) Fc.aw):W1 X (.Return (some (.Name x p1)) pos) Γ N (bC X.K kY P):=fun σ H0 R0 H R E D dn dr=>by
  obtain ⟨a,ea,ha,hR⟩:=E.ent i _ hΓ
  have h0:H0 a=none:=E.new i _ a hΓ rfl ea
  refine sS (dO (br hN hv hd hcd)) ⟨.ref a,at_of ea,dr _ H (upd R a (.dK (cM kvs))) ⟨E.ext.h,E.ext.r.trans (au.fresh hR _),fun b o qb=>?_,fun b hb=>?_⟩ ⟨kvs,⟨a,rfl,aD⟩,h⟩⟩
  · by_cases hb:b=a
    · subst hb;rw [aD] at qb;cases qb;exact ha
    · rw [aJ hb] at qb;exact E.ext.s b o qb
  · rw [aJ (show b≠a from fun e=>hb (by rw [e];exact h0))];exact E.ext.old b hb
theorem lS {a:Expr}{p pos:Pos}{kvs:List (Int×V)}(hm:X.mg "len"=none)(ha:EV X a Γ kY kvs Γ1)(hs:autoParam (starEach [a] X.env=[(false,eval a X.env)]) Fc.ai)(hg:autoParam (Gl X "len") Fc.ai):EV X (.Call (.Name "len" p) [a] [] pos) Γ ae (kvs.length:Int) Γ1:=by
  intro σ H0 R0 H R E Q q
  refine eS (cR rJ hg hm PySem.boot_len (aT aL bL hs) (by decide) (by decide) hs) (ha σ H0 R0 H R E _ fun v H1 R1 E1 s1 e1=>?_)
  obtain ⟨p,rfl,hp⟩:=e1
  refine ⟨p,_,rfl,E1.sub _ _ hp,?_⟩
  unfold cM
  rw [List.length_map]
  exact q _ H1 R1 E1 s1 rfl
theorem dN (i:Nat){x:Str}{p1:Pos}{r:Rep α}{xs:List α}(hΓ:Γ[i]?=some (.mu r xs))(hz:xs.length≤sizeLine)(hN:autoParam (X.N[i]?=some x) Fc.ai)(hv:autoParam (ck X.env.scope x) Fc.bO)
    (hd:autoParam ((x==("__debug__":Str))=false) Fc.aw) (hcd:autoParam ((x==("__classdict__":Str))=false) Fc.aw):EV X (.Name x p1) Γ (ag r) xs (Γ.set i (.im (ag r) xs)):=by
  intro σ H0 R0 H R E Q q
  obtain ⟨R',v,E',s',ev,hr⟩:=Fc.freeze E hΓ hz
  exact eS (br hN hv hd hcd) ⟨v,at_of ev,q v H R' E' s' hr⟩
end
noncomputable abbrev bW:=PySem.W.Frag→List Pk→RT→Prop
noncomputable def aE (S:bW)(K:PySem.W.Frag):Sp:=fun vs H Q _=>∃R ps T,au R H∧ff K R vs ps∧S K ps T∧∀v H' R',Ext H R H' R'→T H v H' R'→Q v H'
theorem ff.length {K:PySem.W.Frag}{R:Hp}:∀{vs:List V} {ps:List Pk},ff K R vs ps→vs.length=ps.length
  | _,_,.nil=>rfl
  | _,_,.cons _ t=>by rw [List.length_cons,List.length_cons,ff.length t]
structure az (P:Program) (w:World) (K:PySem.W.Frag) (mg:Str→Option Value) (base:Heap) (x:Str) (k:Nat) (sp:Sp):Prop where
  ex:∃f fd ps,et P w K mg base df k f fd ps sp∧mg x=some (.ref f)∧PySem.W.keepIn K (.ref f)=true∧Binds K fd ps []
theorem az.mono {P:Program}{w:World}{K:PySem.W.Frag}{mg:Str→Option Value}{base:Heap}{x:Str}{j k:Nat}{sp:Sp}(c:az P w K mg base x j sp)(h:j≤k):az P w K mg base x k sp:=by
  obtain ⟨f,fd,ps,F,a,b,c⟩:=c.ex
  exact ⟨f,fd,ps,F.mono h,a,b,c⟩
section
variable {X:Cx}{Γ Γ1 Γ2 Γ3:Ga}{α β γ δ:Type}{N:Ga→Prop}{T:RT}
theorem dv {S:bW}{x:Str}{k:Nat}{e:Expr}{es:List Expr}{p pos:Pos}{ps:List Pk}{Q:VK}{σ:St}{H0 R0 H R:Hp}(C:az X.prog X.w X.K X.mg X.base x k (aE S X.K))(hr:bt k X.A)(ha:HA X (e::es) Γ ps Γ1)(hS:S X.K ps T)(E:aq X.K σ H0 R0 H R Γ)
    (q:∀H1 R1 v H' R',aq X.K σ H0 R0 H1 R1 Γ1→au R R1→Ext H1 R1 H' R'→T H1 v H' R'→Q v H')
    (hg:Gl X x) (hdb:(x==("__debug__":Str))=false) (he:starEach (e::es) X.env=(false,eval e X.env)::starEach es X.env) (hpl:(backTo pos (starEach es X.env)).any (·.1)=false):dG X (.Call (.Name x p) (e::es) [] pos) σ H Q:=by
  obtain ⟨f,fd,pn,F,hm,hk,hb⟩:=C.ex
  refine eS (jH F hr hg hm hk hb .nil mS i6 hdb he hpl) (ha σ H0 R0 H R E _ fun vs H1 R1 E1 s1 p1=>?_)
  refine ⟨R1,ps,T,E1.sub,by rw [List.append_nil];exact p1,hS,fun v H' R' x t=>q H1 R1 v H' R' E1 s1 x t⟩
theorem aW {S:bW}{x:Str}{k:Nat}{e:Expr}{es:List Expr}{p pos:Pos}{ps:List Pk}{r:Rep α}{y:α}(C:az X.prog X.w X.K X.mg X.base x k (aE S X.K))(hr:bt k X.A)(ha:HA X (e::es) Γ ps Γ1)(hS:S X.K ps (bC X.K r (· =y)))
    (hg:autoParam (Gl X x) Fc.ai) (hdb:autoParam ((x==("__debug__":Str))=false) Fc.aw) (he:autoParam (starEach (e::es) X.env=(false,eval e X.env)::starEach es X.env) Fc.ai) (hpl:autoParam ((backTo pos (starEach es X.env)).any (·.1)=false) Fc.ai):EV X (.Call (.Name x p) (e::es) [] pos) Γ r y Γ1:=fun σ H0 R0 H R E Q q=>
  dv C hr ha hS E (fun H1 R1 v H' R' E1 s1 xx t=>by
    obtain ⟨z,e1,rfl⟩:=t
    exact q v H' R' (E1.grow xx) (s1.trans xx.r) e1) hg hdb he hpl
theorem ka {S:bW}{x:Str}{k:Nat}{e:Expr}{es:List Expr}{p pos:Pos}{ps:List Pk}{r:Rep α}{ys:List α}(C:az X.prog X.w X.K X.mg X.base x k (aE S X.K))(hr:bt k X.A)(ha:HA X (e::es) Γ ps Γ1)(hS:S X.K ps (jm X.K r (· =ys)))
    (hg:autoParam (Gl X x) Fc.ai) (hdb:autoParam ((x==("__debug__":Str))=false) Fc.aw) (he:autoParam (starEach (e::es) X.env=(false,eval e X.env)::starEach es X.env) Fc.ai) (hpl:autoParam ((backTo pos (starEach es X.env)).any (·.1)=false) Fc.ai):aC X (.Call (.Name x p) (e::es) [] pos) Γ r ys Γ1:=fun σ H0 R0 H R E Q q=>
  dv C hr ha hS E (fun H1 R1 v H' R' E1 s1 xx t=>by
    obtain ⟨a,vs,zs,rfl,h0,h1,h2,p,z,rfl⟩:=t
    exact q a vs H' R' (E1.grow xx) (s1.trans xx.r) h1 h2 (E1.ext.h.free h0) (E1.off h0) p z) hg hdb he hpl
end
noncomputable def dc (ps:List Pk)(n:Nat):Ga:=ps.map (fun p=>Ent.im p.r p.x)++List.replicate (n - ps.length) .no
theorem dq {K:PySem.W.Frag}{R H:Hp}{vs:List V}{ps:List Pk}{N:List Str}(s:au R H)(p:ff K R vs ps)(hl:ps.length≤N.length):aq K (L2.start N vs) H R H R (dc ps N.length):=by
  have noown:∀(i:Nat) (e:Ent) (o:Option V),(dc ps N.length)[i]?=some e→e.fp o=[]:=fun i e o q=>by
    unfold dc at q
    rcases List.mem_append.mp (List.mem_of_getElem? q) with z | z
    · obtain ⟨p,_,rfl⟩:=List.mem_map.mp z;rfl
    · obtain ⟨_,rfl⟩:=List.mem_replicate.mp z;rfl
  refine ⟨Ext.refl s,fun i e q=>?_,fun i e a q w=>absurd w (by rw [noown i e _ q];exact List.not_mem_nil),fun i j e e' a q _ w=>absurd w (by rw [noown i e _ q];exact List.not_mem_nil),?_⟩
  · have hp:=p.length
    unfold dc at q
    unfold L2.start
    by_cases hi:i < ps.length
    · rw [List.getElem?_append_left (by simpa using hi),List.getElem?_map] at q
      rw [List.getElem?_append_left (by simpa [hp] using hi),List.getElem?_map]
      have key:∀{vs:List V} {ps:List Pk},ff K R vs ps→∀(i:Nat) (p:Pk),ps[i]?=some p→∃v,vs[i]?=some v∧p.r.R K R v p.x:=by
        intro vs ps h
        induction h with
        | nil=>intro i p e;simp at e
        | cons a b ih=>
          intro i p e
          cases i with
          | zero=>simp at e;subst e;exact ⟨_,rfl,a⟩
          | succ i=>simpa using ih i p (by simpa using e)
      cases e1:ps[i]? with
      | none=>rw [e1] at q;cases q
      | some p1=>
        rw [e1] at q
        cases q
        obtain ⟨v,h1,h2⟩:=key p i p1 e1
        rw [h1]
        exact ⟨v,rfl,h2⟩
    · rw [List.getElem?_append_right (by simpa using hi),List.getElem?_replicate] at q
      split at q
      · cases q;trivial
      · cases q
  · unfold dc L2.start
    rw [List.length_append,List.length_append,List.length_map,List.length_map,List.length_replicate,List.length_replicate,p.length]
section
variable {P:Program}{w:World}{K:PySem.W.Frag}{mg:Str→Option Value}{base:Heap}
theorem bM {S:bW}{x qual:Str}{st:Stmt}{f:Addr}{fd:FuncData}{N ps:List Str}{k:Nat}(F:bh K x qual st f fd)(Sc:ax N ps (ah st))(hm:mg x=some (.ref f))(hb:Binds K fd ps [])(len:∀qs T,S K qs T→qs.length=ps.length)
    (hbody:∀(cdv:Value) (A:Around) (outer:List Env) (s:Shared) (H:Hp) (E:XK) (qs:List Pk) (T:RT),bt k (A.deeper (envOfC qual (ah st) s.heap.objs.size f cdv))→S K qs T→
      WS (bF df P w K mg base N qual (ah st) f cdv A outer s H E).bR (bo st) (dc qs N.length) (fun _=>False) T):az P w K mg base x (k + 1) (aE S K):=by
  refine ⟨f,fd,ps,?_,hm,F.kp,hb⟩
  refine F.ok Sc (fun vs H Q E h=>?_) (fun cdv A outer s H vs Q E hr h=>?_)
  · obtain ⟨R,qs,T,_,p,hS,_⟩:=h
    rw [p.length];exact len qs T hS
  · obtain ⟨R,qs,T,sR,p,hS,q⟩:=h
    have hl:qs.length≤N.length:=by
      rw [len qs T hS]
      have:=congrArg List.length Sc.pre
      rw [List.length_take] at this
      omega
    exact ⟨_,dB,hbody cdv A outer s H E qs T hr hS (L2.start N vs) H R H R (dq sR p hl) {nx:=fun _ H'=>Q .non H',rt:=Q} (fun _ _ _ _ _ _ f=>f.elim) fun v H' R' xx t=>q v H' R' xx t⟩
end
section
variable {X:Cx}{Γ Γ1 Γ2 Γ3:Ga}{α β γ δ:Type}{N:Ga→Prop}{T:RT}
theorem oo {bs:List Bool}{us:List Value}(r:Vals (bs.map V.bl) us){j:Nat}{v:Value}(h:us.toArray[j]?=some v):v= .bool (bs.getD j true):=by
  induction bs generalizing us j with
  | nil=>cases r;simp at h
  | cons b r' ih=>
    cases r with
    | cons h1 t=>
      cases j with
      | zero=>simp at h;rw [← h];exact h1
      | succ j=>exact ih t (by simpa using h)
theorem all_range (bs:List Bool):((List.range bs.length).all fun j=>bs.getD j true)=bs.all id:=by
  rw [Bool.eq_iff_iff,List.all_eq_true,List.all_eq_true]
  constructor
  · intro h b hb
    obtain ⟨j,hj,rfl⟩:=List.mem_iff_getElem.mp hb
    have:=h j (List.mem_range.mpr hj)
    simpa [List.getD_eq_getElem?_getD,List.getElem?_eq_getElem hj] using this
  · intro h j hj
    have hj:=List.mem_range.mp hj
    simpa [List.getD_eq_getElem?_getD,List.getElem?_eq_getElem hj] using h _ (List.getElem_mem hj)
theorem any_range (bs:List Bool):((List.range bs.length).any fun j=>bs.getD j true)=bs.any id:=by
  rw [Bool.eq_iff_iff,List.any_eq_true,List.any_eq_true]
  constructor
  · rintro ⟨j,hj,h⟩
    have hj:=List.mem_range.mp hj
    exact ⟨_,List.getElem_mem hj,by simpa [List.getD_eq_getElem?_getD,List.getElem?_eq_getElem hj] using h⟩
  · rintro ⟨b,hb,h⟩
    obtain ⟨j,hj,rfl⟩:=List.mem_iff_getElem.mp hb
    exact ⟨j,List.mem_range.mpr hj,by simpa [List.getD_eq_getElem?_getD,List.getElem?_eq_getElem hj] using h⟩
theorem vk (hc:X.calm=true):dk X (.builtin "all") (fun xs H Q=>∃(p:Addr) (bs:List Bool),xs=[.ref p]∧bq X.K H p (bs.map V.bl)∧Q (.bl (bs.all id)) H):=by
  intro pins s σ H xs us Q I r h
  obtain ⟨p,bs,rfl,hq,q⟩:=h
  obtain ⟨u,rfl,rx⟩:=vals1 r
  cases rx
  obtain ⟨its,r',pl,hz⟩:=I.list hq
  have hne:p≠s.heap.objs.size:=fun e=>by obtain ⟨o,ho,_⟩:=pl.isList;exact absurd (Heap.lt_size ho) (by rw [e];exact Nat.lt_irrefl _)
  refine call_all_walk (wpAny_pyIter_list pl.isList ?_)
  refine ⟨s.heap.objs.size,_,[s.heap.objs.size],its.toArray.size,_,_,fun j=>bs.getD j true,rfl,Walks.list (A:=X.A.in1) (show X.A.in1.handled=none from I.ok.hd hc) s.heap.objs.size p hne its.toArray,?_,fun j v s Q E hv hQ=>?_,fun h' tk hk=>?_⟩
  · refine ⟨⟨_,Heap.get?_push_size _ rfl,rfl,rfl⟩,?_⟩
    obtain ⟨o,ho,c,n,d⟩:=pl.isList
    exact ⟨o,Heap.get?_push_of_some _ ho,c,n,d⟩
  · rw [oo r' hv];exact wpAny_truthy_bool hQ
  · have e:its.toArray.size=bs.length:=by rw [List.size_toArray,← r'.length,List.length_map]
    rw [e,all_range]
    exact ⟨.bl _,H,I.kept fun b o e=>hk b o (fun z=>absurd (Heap.lt_size e) (by rw [List.mem_singleton.mp z];exact Nat.lt_irrefl _)) (Heap.get?_push_of_some _ e),rfl,q⟩
theorem vo (hc:X.calm=true):dk X (.builtin "any") (fun xs H Q=>∃(p:Addr) (bs:List Bool),xs=[.ref p]∧bq X.K H p (bs.map V.bl)∧Q (.bl (bs.any id)) H):=by
  intro pins s σ H xs us Q I r h
  obtain ⟨p,bs,rfl,hq,q⟩:=h
  obtain ⟨u,rfl,rx⟩:=vals1 r
  cases rx
  obtain ⟨its,r',pl,hz⟩:=I.list hq
  have hne:p≠s.heap.objs.size:=fun e=>by obtain ⟨o,ho,_⟩:=pl.isList;exact absurd (Heap.lt_size ho) (by rw [e];exact Nat.lt_irrefl _)
  refine call_any_walk (wpAny_pyIter_list pl.isList ?_)
  refine ⟨s.heap.objs.size,_,[s.heap.objs.size],its.toArray.size,_,_,fun j=>bs.getD j true,rfl,Walks.list (A:=X.A.in1) (show X.A.in1.handled=none from I.ok.hd hc) s.heap.objs.size p hne its.toArray,?_,fun j v s Q E hv hQ=>?_,fun h' tk hk=>?_⟩
  · refine ⟨⟨_,Heap.get?_push_size _ rfl,rfl,rfl⟩,?_⟩
    obtain ⟨o,ho,c,n,d⟩:=pl.isList
    exact ⟨o,Heap.get?_push_of_some _ ho,c,n,d⟩
  · rw [oo r' hv];exact wpAny_truthy_bool hQ
  · have e:its.toArray.size=bs.length:=by rw [List.size_toArray,← r'.length,List.length_map]
    rw [e,any_range]
    exact ⟨.bl _,H,I.kept fun b o e=>hk b o (fun z=>absurd (Heap.lt_size e) (by rw [List.mem_singleton.mp z];exact Nat.lt_irrefl _)) (Heap.get?_push_of_some _ e),rfl,q⟩
theorem ku {K:PySem.W.Frag}{R:Hp}:∀{vs:List V} {xs:List Bool},PySem.Paired (aO.R K R) vs xs→vs=xs.map V.bl
  | _,_,.nil=>rfl
  | _,_,.cons h t=>by rw [List.map_cons,← ku t];exact congrArg (· ::_) h
theorem mO {x:Str}{id:String}{r:List V→Hp→VK→Prop}{a:Expr}{p pos:Pos}{ra:Rep α}{rb:Rep β}{y:α}{z:β}(hc:dk X (.builtin id) r)(hm:X.mg x=none)(hv:bootBuiltins x=some (.builtin id))(ha:EV X a Γ ra y Γ1)
    (h:∀(R H:Hp) v Q,au R H→ra.R X.K R v y→(∀w,rb.R X.K R w z→Q w H)→r [v] H Q) (hs:autoParam (starEach [a] X.env=[(false,eval a X.env)]) Fc.ai) (hg:autoParam (Gl X x) Fc.ai) (hn:autoParam (x≠"__name__") Fc.aw) (hdb:autoParam ((x==("__debug__":Str))=false) Fc.aw):
    EV X (.Call (.Name x p) [a] [] pos) Γ rb z Γ1:=by
  intro σ H0 R0 H R E Q q
  exact eS (cR hc hg hm hv (aT aL bL hs) hn hdb hs) (ha σ H0 R0 H R E _ fun v H1 R1 E1 s1 e1=>h R1 H1 v _ E1.sub e1 fun w hw=>q w H1 R1 E1 s1 hw)
theorem ee {a:Expr}{p pos:Pos}{bs:List Bool}(hm:X.mg "all"=none)(ha:EV X a Γ (ag aO) bs Γ1)(hs:autoParam (starEach [a] X.env=[(false,eval a X.env)]) Fc.ai)(hc:autoParam (X.calm=true) Fc.ai)(hg:autoParam (Gl X "all") Fc.ai):EV X (.Call (.Name "all" p) [a] [] pos) Γ aO (bs.all id) Γ1:=
  mO (vk hc) hm boot_all ha (fun R H v Q s ⟨p,vs,e,hp,pp,_⟩ q=>⟨p,bs,by rw [e],by rw [← ku pp];exact bq.of (s _ _ hp),q _ rfl⟩) hs hg
theorem mU {a:Expr}{p pos:Pos}{bs:List Bool}(hm:X.mg "any"=none)(ha:EV X a Γ (ag aO) bs Γ1)(hs:autoParam (starEach [a] X.env=[(false,eval a X.env)]) Fc.ai)(hc:autoParam (X.calm=true) Fc.ai)(hg:autoParam (Gl X "any") Fc.ai):EV X (.Call (.Name "any" p) [a] [] pos) Γ aO (bs.any id) Γ1:=
  mO (vo hc) hm boot_any ha (fun R H v Q s ⟨p,vs,e,hp,pp,_⟩ q=>⟨p,bs,by rw [e],by rw [← ku pp];exact bq.of (s _ _ hp),q _ rfl⟩) hs hg
theorem fK {a:Expr}{p pos:Pos}{r:Rep α}{xs:List α}(hm:X.mg "list"=none)(ha:EV X a Γ (ag r) xs Γ1)(hs:autoParam (starEach [a] X.env=[(false,eval a X.env)]) Fc.ai)(hg:autoParam (Gl X "list") Fc.ai):aC X (.Call (.Name "list" p) [a] [] pos) Γ r xs Γ1:=by
  intro σ H0 R0 H R E Q q
  refine eS (gd jc hg hm PyProof.Rows.boot_list (aT aL bL hs) (by decide) (by decide) hs) (ha σ H0 R0 H R E _ fun v H1 R1 E1 s1 e1=>?_)
  obtain ⟨p,vs,rfl,hp,pp,z⟩:=e1
  exact ⟨p,vs,rfl,.inl (bq.of (E1.sub _ _ hp)),fun l hl=>q l vs _ R1 (E1.grow (Ext.cV E1.sub hl _)) s1 aD (E1.sub.free hl) (E1.ext.h.free hl) (E1.off hl) pp z⟩
theorem sJ (hc:X.calm=true):dk X (.builtin "max") (fun xs H Q=>∃(p:Addr) (ns:List Int),xs=[.ref p]∧bq X.K H p (ns.map V.int)∧ns≠[]∧∀M,M∈ns→(∀a∈ns,a≤M)→Q (.int M) H):=by
  intro pins s σ H xs us Q I r h
  obtain ⟨p,ns,rfl,hq,hne,q⟩:=h
  obtain ⟨u,rfl,rx⟩:=vals1 r
  cases rx
  obtain ⟨its,r',pl,hz⟩:=I.list hq
  have hi:=intsAre_of r'
  have hne:0 < ns.length:=List.length_pos_iff.mpr hne
  have hl:=pl.isList
  obtain ⟨xs,e⟩:=hi.allInts.items
  have hns:ns=xs.toList.map (·.1):=by rw [← hi.numsOf,← nums_intItems,← e]
  have hsz:0 < xs.size:=by
    have h3:=hne;rw [hns,List.length_map,Array.length_toList] at h3;exact h3
  rw [e] at hl
  refine max_intList (I.ok.hd hc) hl hsz fun v h' tk hv hk=>?_
  obtain ⟨t,rfl⟩:=intItems_at hv
  obtain ⟨h1,h2⟩:=argBest_gt (numAt xs) (xs.size - 1)
  refine ⟨.int _,H,I.kept hk,⟨t,rfl⟩,q _ ?_ fun a ha=>?_⟩
  · rw [hns,numAt_eq];exact getD_mem (by rw [List.length_map,Array.length_toList];omega)
  · rw [hns] at ha
    obtain ⟨j,hj,rfl⟩:=mem_getD ha
    rw [List.length_map,Array.length_toList] at hj
    rw [← numAt_eq];exact h2 j (by omega)
noncomputable def least:List Int→Int
  | []=>0
  | [x]=>x
  | x::y::r=>min x (least (y::r))
noncomputable def most:List Int→Int
  | []=>0
  | [x]=>x
  | x::y::r=>max x (most (y::r))
theorem lB:∀{ns:List Int} {M:Int},M∈ns→(∀a∈ns,a≤M)→most ns=M:=by
  have key:∀(ns:List Int),ns≠[]→most ns∈ns∧∀a∈ns,a≤most ns:=by
    intro ns
    induction ns with
    | nil=>intro h;exact absurd rfl h
    | cons x r ih=>
      intro _
      cases r with
      | nil=>simp [most]
      | cons y r=>
        obtain ⟨h1,h2⟩:=ih (by simp)
        show max x (most (y::r))∈_∧_
        refine ⟨?_,fun a ha=>?_⟩
        · rcases Int.le_total x (most (y::r)) with h | h
          · rw [Int.max_eq_right h];exact List.mem_cons_of_mem _ h1
          · rw [Int.max_eq_left h];exact List.mem_cons_self
        · show a≤max x (most (y::r))
          rcases List.mem_cons.mp ha with rfl | ha
          · exact Int.le_max_left _ _
          · exact Int.le_trans (h2 a ha) (Int.le_max_right _ _)
  intro ns M h1 h2
  obtain ⟨h3,h4⟩:=key ns (fun e=>by rw [e] at h1;cases h1)
  exact Int.le_antisymm (h2 _ h3) (h4 M h1)
theorem xh {a:Expr}{p pos:Pos}{ns:List Int}(hm:X.mg "max"=none)(ha:EV X a Γ (ag ae) ns Γ1)(hne:ns≠[])(hs:autoParam (starEach [a] X.env=[(false,eval a X.env)]) Fc.ai)(hc:autoParam (X.calm=true) Fc.ai)(hg:autoParam (Gl X "max") Fc.ai):EV X (.Call (.Name "max" p) [a] [] pos) Γ ae (most ns) Γ1:=
  mO (sJ hc) hm PyProof.Rows.boot_max ha (fun R H v Q s ⟨p,vs,e,hp,pp,_⟩ q=>⟨p,ns,by rw [e],by rw [← dW pp];exact bq.of (s _ _ hp),hne,fun M h1 h2=>by rw [← lB h1 h2];exact q _ rfl⟩) hs hg
theorem wQ {a b:Expr}{p pos:Pos}{x y:Int}(hm:X.mg "min"=none)(ha:HA X [a,b] Γ [⟨ae,x⟩,⟨ae,y⟩] Γ1)(hs:autoParam (starEach [a,b] X.env=(false,eval a X.env)::starEach [b] X.env) Fc.ai)(hc:autoParam (X.calm=true) Fc.ai)(hg:autoParam (Gl X "min") Fc.ai)(hpl:autoParam ((backTo pos (starEach [b] X.env)).any (·.1)=false) Fc.ai):EV X (.Call (.Name "min" p) [a,b] [] pos) Γ ae (if y < x then y else x) Γ1:=by
  intro σ H0 R0 H R E Q q
  refine eS (cR (sx hc) hg hm PyProof.Rows.boot_min i6 (by decide) (by decide) hs hpl) (ha σ H0 R0 H R E _ fun vs H1 R1 E1 s1 p1=>?_)
  cases p1 with
  | cons a1 t=>cases t with
    | cons a2 t2=>cases t2;cases a1;cases a2;exact ⟨x,y,rfl,q _ H1 R1 E1 s1 rfl⟩
end
noncomputable def Src (K:PySem.W.Frag)(J:It)(R1:Hp){α:Type}(r:Rep α)(xs:List α):Prop:=
  ∀(H' R':Hp),au R1 R'→au R' H'→∀i:Nat,(∀x,xs[i]?=some x→J.go i H'∧∀v H2,J.yld i H' v H2→∃R2,Ext H' R' H2 R2∧r.R K R2 v x)∧(xs.length≤i→J.stop i H')
section
variable {X:Cx}{Γ Γ1 Γ2 Γ3:Ga}{α β γ δ:Type}{N:Ga→Prop}{T:RT}
noncomputable def IV (X:Cx)(tg iter:Expr)(Γ:Ga){α:Type}(r:Rep α)(xs:List α)(Γ1:Ga):Prop:=
  ∃wi,PI X tg iter wi∧∀(σ:St) (H0 R0 H R:Hp),aq X.K σ H0 R0 H R Γ→∀Rq:It→Hp→Prop,(∀J H1 R1,aq X.K σ H0 R0 H1 R1 Γ1→au R R1→xs.length≤sizeLine→Src X.K J R1 r xs→Rq J H1)→wi σ H Rq
theorem ba {tg iter:Expr}{r:Rep α}{xs:List α}(h:EV X iter Γ (ag r) xs Γ1):IV X tg iter Γ r xs Γ1:=by
  refine ⟨_,xj aL,fun σ H0 R0 H R E Rq q=>h σ H0 R0 H R E _ fun v H1 R1 E1 s1 e1=>?_⟩
  obtain ⟨a,vs,rfl,ha,pp,z⟩:=e1
  refine ⟨a,rfl,⟨vs,bq.of (E1.sub _ _ ha)⟩,q _ H1 R1 E1 s1 z fun H' R' sR sH i=>⟨fun x hx=>?_,fun hi=>?_⟩⟩
  · have hq:bq X.K H' a vs:=bq.of (sH _ _ (sR _ _ ha))
    obtain ⟨v,hv,hr⟩:=fW pp hx
    refine ⟨⟨vs,v,hq,hv⟩,fun v' H2 hy=>?_⟩
    obtain ⟨rfl,hy⟩:=hy
    have:=hy vs hq
    rw [hv] at this
    cases this
    exact ⟨R',Ext.refl sH,r.mono sR hr⟩
  · exact ⟨vs,bq.of (sH _ _ (sR _ _ ha)),by rw [pp.length];exact hi⟩
noncomputable def ups (lo:Int)(n:Nat):List Int:=(List.range n).map fun (k:Nat)=>lo + (k:Int)
theorem aN (lo:Int)(n:Nat):(ups lo n).length=n:=by unfold ups;rw [List.length_map,List.length_range]
theorem ie {lo:Int}{n i:Nat}{x:Int}(h:(ups lo n)[i]?=some x):i < n∧x=lo + (i:Int):=by
  have hi:i < n:=by have:=(List.getElem?_eq_some_iff.mp h).1;rwa [aN] at this
  refine ⟨hi,?_⟩
  unfold ups at h
  rw [List.getElem?_map,List.getElem?_range hi] at h
  exact (Option.some.inj h).symm
theorem pY {K:PySem.W.Frag}{R1:Hp}(lo:Int)(n:Nat):Src K (sM lo n) R1 ae (ups lo n):=fun H' R' sR sH i=>⟨fun x hx=>by
  obtain ⟨h1,rfl⟩:=ie hx
  refine ⟨h1,fun v H2 hy=>?_⟩
  obtain ⟨rfl,rfl⟩:=hy
  exact ⟨R',Ext.refl sH,rfl⟩,fun hi=>by rw [aN] at hi;exact hi⟩
theorem d8 {tg a:Expr}{p1 p2:Pos}{n:Int}(hm:X.mg "range"=none)(ha:EV X a Γ ae n Γ1)(hn: -(2 ^ 62)≤n∧n≤1000000)(hs1:autoParam (starEach [a] X.env=[(false,eval a X.env)]) Fc.ai)(hg:autoParam (Gl X "range") Fc.ai):IV X tg (.Call (.Name "range" p1) [a] [] p2) Γ ae (ups 0 n.toNat) Γ1:=by
  refine ⟨_,rH hg hm (aT aL bL hs1) hs1,fun σ H0 R0 H R E Rq q=>ha σ H0 R0 H R E _ fun v H1 R1 E1 s1 e1=>?_⟩
  exact ⟨n,by rw [show v=V.int n from e1],hn.1,by omega,q _ H1 R1 E1 s1 (by rw [aN];exact Nat.le_trans (show n.toNat≤1000000 by omega) (by decide)) (pY 0 n.toNat)⟩
theorem l7 {tg a b:Expr}{p1 p2:Pos}{m n:Int}(hm:X.mg "range"=none)(ha:EV X a Γ ae m Γ1)(hb:EV X b Γ1 ae n Γ2)(hn: -1000000≤m∧m≤1000000∧ -1000000≤n∧n≤1000000)
    (hs1:autoParam (starEach [a,b] X.env=[(false,eval a X.env),(false,eval b X.env)]) Fc.ai) (hs2:autoParam (starEach [b] X.env=[(false,eval b X.env)]) Fc.ai) (hg:autoParam (Gl X "range") Fc.ai):IV X tg (.Call (.Name "range" p1) [a,b] [] p2) Γ ae (ups m (n - m).toNat) Γ2:=by
  refine ⟨_,sk hg hm (aT aL (aT aL bL hs2) (by rw [hs1,hs2])) hs1 hs2,fun σ H0 R0 H R E Rq q=>ha σ H0 R0 H R E _ fun v H1 R1 E1 s1 e1=>hb σ H0 R0 H1 R1 E1 _ fun u H2 R2 E2 s2 e2=>?_⟩
  exact ⟨m,n,by rw [show v=V.int m from e1,show u=V.int n from e2],⟨by omega,by omega,by omega,by omega⟩,q _ H2 R2 E2 (s1.trans s2) (by rw [aN];exact Nat.le_trans (show (n - m).toNat≤2000000 by omega) (by decide)) (pY m (n - m).toNat)⟩
theorem du {tg iter:Expr}{body:List Stmt}{pos:Pos}{r:Rep α}{xs:List α}{bf:α→Ga→Ga}(I:Nat→Ga→Prop)(hit:IV X tg iter Γ r xs Γ1)(hb:BG X tg r bf)(h0:I 0 Γ1)
    (hstep:∀(i:Nat) (x:α) (Γ:Ga),xs[i]?=some x→I i Γ→WS X body (bf x Γ) (I (i + 1)) T) (hend:∀Γ:Ga,I xs.length Γ→N Γ)
    (hc:autoParam (X.calm=true) Fc.ai) (hp:PassesOwn (model X.prog X.w) X.A X.env X.xe:=by exact PassesOwn.never) (hs:autoParam (∀x,foldedSetIterable iter X.env x=pure x) Fc.cZ):W1 X (.For tg iter body [] pos) Γ N T:=fun σ H0 R0 H R E D dn dr=>by
  obtain ⟨wi,hi,hit⟩:=hit
  refine sS (Aj hp hc hi vw dB hs) (hit σ H0 R0 H R E _ fun J H1 R1 E1 s1 hz src=>?_)
  refine ⟨fun i m σ' H'=>m=xs.length - i∧i≤xs.length∧∃R' Γ',aq X.K σ' H0 R0 H' R' Γ'∧au R1 R'∧I i Γ',⟨_,rfl,Nat.zero_le _,R1,Γ1,E1,au.refl _,h0⟩,?_⟩
  rintro i m σ' H' ⟨rfl,hle,R',Γ',E',s',hI⟩
  obtain ⟨sgo,sstop⟩:=src H' R' s' E'.sub i
  by_cases hlt:i < xs.length
  · obtain ⟨go,yl⟩:=sgo _ (List.getElem?_eq_getElem hlt)
    refine .inr ⟨go,fun σ' H'=>i + 1≤xs.length∧∃R' Γ',aq X.K σ' H0 R0 H' R' Γ'∧au R1 R'∧I (i + 1) Γ',fun σ2 H2 h=>⟨xs.length - (i + 1),by omega,rfl,h.1,h.2⟩,fun v H2 hy=>?_⟩
    obtain ⟨R2,x2,hr⟩:=yl v H2 hy
    refine hb σ' H0 R0 H2 R2 Γ' v _ (E'.grow x2) hr _ fun σ2 E2=>?_
    exact hstep i _ Γ' (List.getElem?_eq_getElem hlt) hI σ2 H0 R0 H2 R2 E2 _ (fun σ3 H3 R3 Γ3 E3 s3 h3=>⟨hlt,R3,Γ3,E3,s'.trans (x2.r.trans s3),h3⟩) dr
  · have e:i=xs.length:=by omega
    subst e
    exact .inl ⟨sstop (Nat.le_refl _),dn σ' H' R' Γ' E' (s1.trans s') (hend Γ' hI)⟩
noncomputable def qP:Option Ent→Ent
  | some (.im r x)=>.im r x
  | _=>.no
noncomputable def bQ (own:List Str)(ix:List Nat)(Γ:Ga):Ga:=List.replicate own.length .no++ix.map fun i=>qP Γ[i]?
theorem jZ {K:PySem.W.Frag}{σ:St}{H0 R0 H R:Hp}(E:aq K σ H0 R0 H R Γ)(own:List Str)(ix:List Nat):aq K (eJ own ix σ) H R H R (bQ own ix Γ):=by
  have noown:∀(i:Nat) (e:Ent) (o:Option V),(bQ own ix Γ)[i]?=some e→e.fp o=[]:=fun i e o q=>by
    unfold bQ at q
    rcases List.mem_append.mp (List.mem_of_getElem? q) with z | z
    · obtain ⟨_,rfl⟩:=List.mem_replicate.mp z;rfl
    · obtain ⟨k,_,rfl⟩:=List.mem_map.mp z
      unfold qP
      split<;>rfl
  refine ⟨Ext.refl E.sub,fun i e q=>?_,fun i e a q w=>absurd w (by rw [noown i e _ q];exact List.not_mem_nil),fun i j e e' a q _ w=>absurd w (by rw [noown i e _ q];exact List.not_mem_nil),by unfold bQ eJ;simp⟩
  unfold bQ at q
  unfold eJ
  by_cases hi:i < own.length
  · rw [List.getElem?_append_left (by simpa using hi),List.getElem?_replicate] at q
    rw [if_pos hi] at q
    cases q;trivial
  · rw [List.getElem?_append_right (by simpa using hi),List.length_replicate,List.getElem?_map] at q
    rw [List.getElem?_append_right (by simpa using hi),List.length_replicate,List.getElem?_map]
    cases ek:ix[i - own.length]? with
    | none=>rw [ek] at q;cases q
    | some k=>
      rw [ek] at q
      have q':qP Γ[k]?=e:=Option.some.inj q
      subst q'
      show (qP Γ[k]?).ok K H R (σ[k]?).join
      cases eg:Γ[k]? with
      | none=>trivial
      | some e=>
        cases e with
        | im r x=>exact E.ent k _ eg
        | no=>trivial
        | mu r x=>trivial
        | di x=>trivial
        | ob x=>trivial
theorem i9 {tg elt:Expr}{ifs:List Expr}{scope:Scope}{cl:List (Str×Addr)}{own fr:List Str}{ix:List Nat}{ra:Rep α}{rb:Rep β}{xs:List α}{p:α→Bool}{f:α→β}{bf:α→Ga→Ga}{J:It}{σ:St}{H0 R0 H1 R1:Hp}{Q:VK}(E1:aq X.K σ H0 R0 H1 R1 Γ1)(src:Src X.K J R1 ra xs)(hz:xs.length≤sizeLine)
    (hb:∀(C:Addr) (s:Shared) (H:Hp) (ex:List Addr),BG (aG X scope cl C (own++fr) s H ex) tg ra bf) (hw:∀x,Wk (bf x (bQ own ix Γ1)) (bQ own ix Γ1))
    (ht:∀(C:Addr) (s:Shared) (H:Hp) (ex:List Addr) x,x∈xs→TF (aG X scope cl C (own++fr) s H ex) ifs (bf x (bQ own ix Γ1)) (p x) (bf x (bQ own ix Γ1)))
    (he:∀(C:Addr) (s:Shared) (H:Hp) (ex:List Addr) x,x∈xs→p x=true→EV (aG X scope cl C (own++fr) s H ex) elt (bf x (bQ own ix Γ1)) rb (f x) (bf x (bQ own ix Γ1)))
    (q:∀a vs H' R',Ext H1 R1 H' R'→H' a=none→PySem.Paired (rb.R X.K R') vs ((xs.filter p).map f)→Q (.ref a) (upd H' a (.lst vs))):
    ∃ W :Nat→Nat→List V→St→Hp→Prop,(∃m,W 0 m [] (eJ own ix σ) H1)∧∀i m ys σ' H',W i m ys σ' H'→
      ys.length≤sizeLine∧((J.stop i H'∧∀p,H' p=none→Q (.ref p) (upd H' p (.lst ys)))∨
      (J.go i H'∧∀x H2,J.yld i H' x H2→(fun v σ H Q=>∀C s Hh ex,gU (aG X scope cl C (own++fr) s Hh ex) tg v σ H Q:TG) x σ' H2 fun σ2 H3=>(fun σ H Q=>∀C s Hh ex,ic (aG X scope cl C (own++fr) s Hh ex) ifs σ H Q:TT) σ2 H3 fun b H4=>
        if b=true then (fun σ H Q=>∀C s Hh ex,dG (aG X scope cl C (own++fr) s Hh ex) elt σ H Q:TE) σ2 H4 fun v H5=>∃m',m' < m∧W (i + 1) m' (ys++[v]) σ2 H5 else∃m',m' < m∧W (i + 1) m' ys σ2 H4)):=by
  refine ⟨fun i m ys σ' H'=>m=xs.length - i∧i≤xs.length∧∃R',aq X.K σ' H1 R1 H' R' (bQ own ix Γ1)∧PySem.Paired (rb.R X.K R') ys (((xs.take i).filter p).map f),⟨_,rfl,Nat.zero_le _,R1,jZ E1 own ix,.nil⟩,?_⟩
  rintro i m ys σ' H' ⟨rfl,hle,R',E',pp⟩
  have hys:ys.length≤sizeLine:=by
    rw [pp.length,List.length_map]
    refine Nat.le_trans (List.length_filter_le _ _) (Nat.le_trans ?_ hz)
    rw [List.length_take];omega
  obtain ⟨sgo,sstop⟩:=src H' R' E'.ext.r E'.sub i
  refine ⟨hys,?_⟩
  by_cases hlt:i < xs.length
  · obtain ⟨go,yl⟩:=sgo _ (List.getElem?_eq_getElem hlt)
    have hmem:xs[i]∈xs:=List.getElem_mem hlt
    have tk:(xs.take (i + 1))=xs.take i++[xs[i]]:=by rw [List.take_succ,List.getElem?_eq_getElem hlt];rfl
    refine .inr ⟨go,fun v H2 hy C s Hh ex=>?_⟩
    obtain ⟨R2,x2,hr⟩:=yl v H2 hy
    refine hb C s Hh ex σ' H1 R1 H2 R2 _ v _ (E'.grow x2) hr _ fun σ2 E2=>?_
    intro C s Hh ex
    refine ht C s Hh ex _ hmem σ2 H1 R1 H2 R2 E2 _ fun H4 R4 E4 s4=>?_
    cases hpx:p xs[i] with
    | false=>
      rw [if_neg Bool.false_ne_true]
      refine ⟨xs.length - (i + 1),by omega,rfl,hlt,R4,E4.weak (hw _),?_⟩
      rw [tk,List.filter_append,List.filter_cons,hpx,if_neg Bool.false_ne_true,List.filter_nil,List.append_nil]
      exact Paired.map (fun _ _=>rb.mono (x2.r.trans s4)) pp
    | true=>
      rw [if_pos rfl]
      intro C s Hh ex
      refine he C s Hh ex _ hmem hpx σ2 H1 R1 H4 R4 E4 _ fun w H5 R5 E5 s5 e5=>?_
      refine ⟨xs.length - (i + 1),by omega,rfl,hlt,R5,E5.weak (hw _),?_⟩
      rw [tk,List.filter_append,List.filter_cons,hpx,if_pos rfl,List.filter_nil,List.map_append]
      exact cI (Paired.map (fun _ _=>rb.mono (x2.r.trans (s4.trans s5))) pp) (.cons e5 .nil)
  · have e:i=xs.length:=by omega
    subst e
    rw [List.take_length] at pp
    exact .inl ⟨sstop (Nat.le_refl _),fun a ha=>q a ys H' R' E'.ext ha pp⟩
theorem bj {tg elt iter:Expr}{ifs:List Expr}{scope:Scope}{pos:Pos}{cl:List (Str×Addr)}{own fr:List Str}{ix:List Nat}{ra:Rep α}{rb:Rep β}{xs:List α}{p:α→Bool}{f:α→β}{bf:α→Ga→Ga}
    (S:cO X scope cl own fr ix) (hit:IV X tg iter Γ ra xs Γ1)
    (hb:∀(C:Addr) (s:Shared) (H:Hp) (ex:List Addr),BG (aG X scope cl C (own++fr) s H ex) tg ra bf) (hw:∀x,Wk (bf x (bQ own ix Γ1)) (bQ own ix Γ1))
    (ht:∀(C:Addr) (s:Shared) (H:Hp) (ex:List Addr) x,x∈xs→TF (aG X scope cl C (own++fr) s H ex) ifs (bf x (bQ own ix Γ1)) (p x) (bf x (bQ own ix Γ1)))
    (he:∀(C:Addr) (s:Shared) (H:Hp) (ex:List Addr) x,x∈xs→p x=true→EV (aG X scope cl C (own++fr) s H ex) elt (bf x (bQ own ix Γ1)) rb (f x) (bf x (bQ own ix Γ1)))
    (hc:autoParam (X.calm=true) Fc.ai) (hs:autoParam (∀x,foldedSetIterable iter X.env x=pure x) Fc.cZ):aC X (.ListComp elt [⟨tg,iter,ifs,0⟩] scope pos) Γ rb ((xs.filter p).map f) Γ1:=by
  intro σ H0 R0 H R E Q q
  obtain ⟨wi,hi,hit⟩:=hit
  refine eS (pR (g:=fun v σ H Q=>∀C s Hh ex,gU (aG X scope cl C (own++fr) s Hh ex) tg v σ H Q) (tc:=fun σ H Q=>∀C s Hh ex,ic (aG X scope cl C (own++fr) s Hh ex) ifs σ H Q) (te:=fun σ H Q=>∀C s Hh ex,dG (aG X scope cl C (own++fr) s Hh ex) elt σ H Q) hc S hi
    (fun C s H ex=>⟨fun pins s1 σ H v u Q I r h=>h C s _ ex pins s1 u I r,fun pins s1 σ H Q I h=>h C s _ ex pins s1 I,fun pins s1 σ H Q I h=>h C s _ ex pins s1 I⟩) hs) ?_
  refine hit σ H0 R0 H R E _ fun J H1 R1 E1 s1 hz src=>i9 E1 src hz hb hw ht he fun a vs H' R' xx ha pp=>?_
  have E2:=E1.grow xx
  exact q a vs _ R' (E2.grow (Ext.cV E2.sub ha _)) (s1.trans xx.r) aD (E2.sub.free ha) (E2.ext.h.free ha) (E2.off ha) pp (by
    rw [List.length_map];exact Nat.le_trans (List.length_filter_le _ _) hz)
theorem tP (i:Nat){y:Str}{py spos:Pos}{tg elt iter:Expr}{ifs:List Expr}{scope:Scope}{pos:Pos}{cl:List (Str×Addr)}{own fr:List Str}{ix:List Nat}{ra:Rep α}{rb:Rep β}{xs:List α}{p:α→Bool}{f:α→β}{bf:α→Ga→Ga}
    (S:cO X scope cl own fr ix) (hit:IV X tg iter Γ ra xs Γ1)
    (hb:∀(C:Addr) (s:Shared) (H:Hp) (ex:List Addr),BG (aG X scope cl C (own++fr) s H ex) tg ra bf) (hw:∀x,Wk (bf x (bQ own ix Γ1)) (bQ own ix Γ1))
    (ht:∀(C:Addr) (s:Shared) (H:Hp) (ex:List Addr) x,x∈xs→TF (aG X scope cl C (own++fr) s H ex) ifs (bf x (bQ own ix Γ1)) (p x) (bf x (bQ own ix Γ1)))
    (he:∀(C:Addr) (s:Shared) (H:Hp) (ex:List Addr) x,x∈xs→p x=true→EV (aG X scope cl C (own++fr) s H ex) elt (bf x (bQ own ix Γ1)) rb (f x) (bf x (bQ own ix Γ1)))
    (h:N (Γ1.set i (.mu rb ((xs.filter p).map f))))
    (hsw:autoParam (swapsWith (.ListComp elt [⟨tg,iter,ifs,0⟩] scope pos) (some (.Name y py)) spos.line X.env=pure true) Fc.ai)
    (hN:autoParam (X.N.Nodup) Fc.dY) (hi':X.N[i]?=some y:=by rfl) (hx:autoParam (Loc X.env.scope y) Fc.dA)
    (hc:autoParam (X.calm=true) Fc.ai) (hs:autoParam (∀x,foldedSetIterable iter X.env x=pure x) Fc.cZ) (hf:autoParam (X.fn y=true∨X.env.scope.names.lookup y=some .local) Fc.fZ):
    W1 X (.Assign [.Name y py] (.ListComp elt [⟨tg,iter,ifs,0⟩] scope pos) spos) Γ N T:=fun σ H0 R0 H R E D dn dr=>by
  obtain ⟨wi,hi,hit⟩:=hit
  refine sS (iK (i:=i) (g:=fun v σ H Q=>∀C s Hh ex,gU (aG X scope cl C (own++fr) s Hh ex) tg v σ H Q) (tc:=fun σ H Q=>∀C s Hh ex,ic (aG X scope cl C (own++fr) s Hh ex) ifs σ H Q) (te:=fun σ H Q=>∀C s Hh ex,dG (aG X scope cl C (own++fr) s Hh ex) elt σ H Q) hsw hN hi' hx hc S hi
    (fun C s H ex=>⟨fun pins s1 σ H v u Q I r h=>h C s _ ex pins s1 u I r,fun pins s1 σ H Q I h=>h C s _ ex pins s1 I,fun pins s1 σ H Q I h=>h C s _ ex pins s1 I⟩) hs hf) ?_
  refine hit σ H0 R0 H R E _ fun J H1 R1 E1 s1 hz src=>i9 (Q:=fun v H'=>D.nx (σ.set i (some v)) H') E1 src hz hb hw ht he fun a vs H' R' xx ha pp=>?_
  have E2:=E1.grow xx
  exact dn _ _ R' _ ((E2.grow (Ext.cV E2.sub ha _)).qr (u:=.lst vs) (en:=.mu rb ((xs.filter p).map f)) i ⟨a,vs,rfl,aD,E2.sub.free ha,pp⟩ (E2.ext.h.free ha) fun j e _ q w=>E2.off ha j e q w) (s1.trans xx.r) h
end
section
variable {X:Cx}{Γ Γ1 Γ2 Γ3:Ga}{α β γ δ:Type}{N:Ga→Prop}{T:RT}
theorem qc {pins:List (Addr×Obj)}{σ:St}{H:Hp}{s:Shared}{h':Heap}{t':Nat}{fp:List Addr}(I:Inv X pins σ H s)(k:∀b o,b∉fp→s.heap.get? b=some o→h'.get? b=some o)(hf:∀b∈fp,iP X pins H b):Inv X pins σ H {s with heap:=h',toks:=t'}:=by
  have nit:∀b u,H b=some u→b∉fp:=fun b u e z=>by rw [(hf b z).1] at e;cases e
  refine I.step (g':=s.gens) (d':=s.drawn) (ch:=fp) (fun b hb=>⟨(hf b hb).2.2.2.1,(hf b hb).2.1,(hf b hb).2.2.2.2.1,(hf b hb).2.2.2.2.2⟩) (fun b o _ _ hc e _=>k b o hc e) (fun b o _ _ hc e _=>⟨o.slots,k b o hc e⟩) (fun _ _ _ _ n=>n)
    (fun b o hc e=>⟨o,k b o hc e⟩) (fun _ _ e=>e) (fun _ _ _ e=>e) (fun b ps e=>⟨#[],by rw [e];simp⟩) (fun m hm=>?_) (fun b u e=>?_) I.bare
  · obtain ⟨o,es,ep,ho,r⟩:=hm
    exact ⟨o,es,ep,k _ o (fun z=>(hf _ z).2.1 rfl) ho,r⟩
  · refine (I.hok b u e).gC (fun c v hc q=>k c v ?_ q) (fun _ q=>q) fun _ _ q=>q
    rcases hc with z | z
    · rw [z];exact nit b u e
    · exact nit c _ z
theorem adopt {pins:List (Addr×Obj)}{σ:St}{H:Hp}{s:Shared}{a:Addr}{o:HO}(I:Inv X pins σ H s)(hf:iP X pins H a)(hy:X.s₀.heap.objs.size≤a)(new:bK X.prog X.w (upd H a o) s.heap a o):Inv X pins σ (upd H a o) s:=by
  have ne:∀{b:Addr} {u:HO},H b=some u→b≠a:=fun e=>cx e hf.1
  have ne0:∀{b:Addr} {u:Obj},X.s₀.heap.get? b=some u→b≠a:=fun e z=>absurd (Nat.lt_of_lt_of_le (Heap.lt_size e) hy) (by rw [z];exact Nat.lt_irrefl _)
  refine ⟨I.ok,I.os,I.bare,⟨I.base.keep,I.base.slot,fun b u e n hx=>by rw [aJ (ne0 e)];exact I.base.free b u e n hx,I.base.there,fun b xs e=>?_,fun b u v e=>?_,fun b ps e=>?_⟩,I.loc,I.cell,?_,fun x c e=>?_,fun p hp=>?_,fun b u e=>?_,I.len⟩
  · have q:=I.base.tups b xs e;rw [aJ (ne q)];exact q
  · have q:=I.base.frzs b u v e;rw [aJ (ne q)];exact q
  · obtain ⟨m,q⟩:=I.base.tbls b ps e;exact ⟨m,by rw [aJ (ne q)];exact q⟩
  · rw [aJ (Ne.symm hf.2.1)];exact I.free
  · rw [aJ (hf.2.2.2.2.1 x c e)];exact I.freeC x c e
  · obtain ⟨e,n,r⟩:=I.pin p hp
    exact ⟨e,by rw [aJ (hf.2.2.2.2.2 p hp)];exact n,r⟩
  · by_cases hb:b=a
    · subst hb;rw [aD] at e;cases e;exact new
    · rw [aJ hb] at e
      exact (I.hok b u e).gC (fun c v _ q=>q) (fun c q=>by rw [aJ (ne q)];exact q) fun c xs q=>by rw [aJ (ne q)];exact q
noncomputable def Dd (K:PySem.W.Frag)(a:Addr):It:=
  ⟨fun i H=>∃xs x,bq K H a xs∧xs[i]?=some x,fun i H v H'=>∃p x,H p=none∧v= .ref p∧H'=upd H p (.tup [.int i,x])∧∀xs,bq K H a xs→xs[i]?=some x,fun i H=>∃xs,bq K H a xs∧xs.length≤i⟩
theorem sj {P:Program}{w:World}{K:PySem.W.Frag}{es:List Expr}{k:Nat}{tp:Pos}(a e it:Addr)(hei:e≠it):Turn P w K (.Tuple es k tp) (Dd K a) [e,it] e (fun i h=>(∃old,IsEnum h e it i old)∧h.IsListIter it a i) where
  mem:=by simp
  obj :=fun i h st b hb=>by
    obtain ⟨⟨old,he⟩,o,ho,hc,hd⟩:=st
    rcases List.mem_cons.mp hb with rfl | hb
    · exact ⟨_,he,fun v z=>by cases z⟩
    · have e2:b=it:=by simpa using hb
      subst e2
      exact ⟨o,ho,fun v z=>by rw [hd] at z;cases z⟩
  keep:=fun i h h' st kk=>⟨st.1.elim fun old he=>⟨old,kk e (by simp) _ he⟩,st.2.at fun o x=>kk it (by simp) o x⟩
  item := by
    intro X hP hw hK hc i pins s σ H E I hf st hg
    subst hP hw hK
    obtain ⟨⟨old,he⟩,hit⟩:=st
    obtain ⟨xs,x,hq,hx⟩:=hg
    obtain ⟨its,r,pl,hz⟩:=I.list hq
    obtain ⟨u,hu,rx⟩:=r.get hx
    have hn:H s.heap.objs.size=none:=I.hok.fresh (Nat.le_refl _)
    refine wpAny_pyNext_enum_item he hit pl.isList (x:=u) (by simpa using hu) hei fun h' ho hit' hT hsz hk=>?_
    refine ⟨_,rfl,?_⟩
    refine wpAny_letOwnedTupleGo_enum (s:={s with heap:=h',toks:=s.toks + 1}) ho fun h2 he2 hs2=>?_
    have hk2:∀b o,b∉[e,it]→s.heap.get? b=some o→h2.get? b=some o:=fun b o hb q=>by
      have hbe:b≠e:=fun z=>hb (by simp [z])
      exact hs2.extBut b o hbe (hk b o hbe (fun z=>hb (by simp [z])) q)
    have I1:Inv X pins σ H {s with heap:=h2,toks:=s.toks + 1}:=qc I hk2 hf
    have hel:e≠s.heap.objs.size:=Nat.ne_of_lt (Heap.lt_size he)
    have hT2:h2.get? s.heap.objs.size=some {cls:=.type "tuple",data:=.seq #[.int i s.toks,u]}:=(hs2.2 _ (Ne.symm hel)).trans hT
    have I2:Inv X pins σ (upd H s.heap.objs.size (.tup [.int i,x])) {s with heap:=h2,toks:=s.toks + 1}:=
      adopt I1 (I.lO (Nat.le_refl _) hn) (I.sz) ⟨by show 2≤sizeLine;decide,[.int i s.toks,u],.cons ⟨_,rfl⟩ (.cons rx .nil),⟨_,hT2,rfl,_,rfl⟩⟩
    refine ⟨.ref s.heap.objs.size,_,I2,rfl,⟨s.heap.objs.size,x,hn,rfl,rfl,fun ys hy=>?_⟩,⟨⟨u,by simpa using he2⟩,hit'.at fun o y=>(hs2.2 it (Ne.symm hei)).trans y⟩,fun b hb=>?_⟩
    · rw [I.m7 hy hq];exact hx
    · have hlt:b < s.heap.objs.size:=by
        rcases List.mem_cons.mp hb with rfl | hb
        · exact Heap.lt_size he
        · have e2:b=it:=by simpa using hb
          subst e2
          obtain ⟨o,ho,_⟩:=hit
          exact Heap.lt_size ho
      rw [aJ (Nat.ne_of_lt hlt)]
      exact (hf b hb).1
  done:=by
    intro X hP hw hK hc i pins s σ H E I hf st hg
    subst hP hw hK
    obtain ⟨⟨old,he⟩,hit⟩:=st
    obtain ⟨xs,hq,hx⟩:=hg
    obtain ⟨its,r,pl,hz⟩:=I.list hq
    refine wpAny_pyNext_enum_end (I.ok.hd hc) he hit pl.isList (by have:=r.length;simp;omega) fun h' hk=>⟨rfl,?_⟩
    exact qc (t':=s.toks) I (fun b o hb q=>hk b o (fun z=>hb (by simp [z])) q) hf
  self:=fun _ _ _ _ _ st h=>st.1.elim fun old he=>wpAny_pyIter_enum he h
noncomputable def BK (K:PySem.W.Frag)(ta:TA):TI:=fun σ H R=>ta σ H fun vs H1=>∃a xs,vs=[.ref a]∧bq K H1 a xs∧R (Dd K a) H1
theorem xu {a:Expr}{ta:TA}{p pos:Pos}{es:List Expr}{k:Nat}{tp:Pos}(hg:Gl X "enumerate")(hm:X.mg "enumerate"=none)(ha:PA X [a] ta)(hs:autoParam (starEach [a] X.env=[(false,eval a X.env)]) Fc.ai):PI X (.Tuple es k tp) (.Call (.Name "enumerate" p) [a] [] pos) (BK X.K ta):=by
  intro pins s σ H R I h
  refine Call_ (iz I hg hm boot_enumerate (PyProof.Rows.callWith_type1 (aR (ha pos pins s σ H _ I h) fun us s1 ⟨vs,H1,I1,r1,q1⟩=>?_) hs rfl))
  obtain ⟨l,xs,e,hq,q⟩:=q1
  subst e
  cases r1 with
  | cons r rr=>
    cases rr
    cases r
    obtain ⟨its,r',pl,hz⟩:=I1.list hq
    refine call_enumerate_list pl.isList fun h' he hit hsz hk=>?_
    refine wpAny_pyIter_enum he ?_
    have I2:Inv X pins σ H1 {s1 with heap:=h'}:=I1.kept (t':=s1.toks) hk
    have f0:H1 s1.heap.objs.size=none:=I1.hok.fresh (Nat.le_refl _)
    have f1:H1 (s1.heap.objs.size + 1)=none:=I1.hok.fresh (Nat.le_succ _)
    refine ⟨s1.heap.objs.size + 1,[s1.heap.objs.size + 1,s1.heap.objs.size],_,_,H1,rfl,I2,sj l (s1.heap.objs.size + 1) s1.heap.objs.size (Nat.ne_of_gt (Nat.lt_succ_self _)),⟨⟨.none,he⟩,hit⟩,fun b hb=>?_,q⟩
    rcases List.mem_cons.mp hb with rfl | hb
    · exact I1.lO (Nat.le_succ _) f1
    · have e2:b=s1.heap.objs.size:=by simpa using hb
      subst e2
      exact I1.lO (Nat.le_refl _) f0
noncomputable def nums (xs:List α):List (Int×α):=(xs.zipIdx).map fun p=>((p.2:Int),p.1)
theorem fQ (xs:List α):(nums xs).length=xs.length:=by unfold nums;rw [List.length_map,List.length_zipIdx]
theorem jC {xs:List α}{i:Nat}{y:Int×α}(h:(nums xs)[i]?=some y):y.1=(i:Int)∧xs[i]?=some y.2:=by
  unfold nums at h
  rw [List.getElem?_map,List.getElem?_zipIdx] at h
  cases e:xs[i]? with
  | none=>rw [e] at h;cases h
  | some x=>rw [e] at h;cases h;exact ⟨by simp,rfl⟩
theorem lC {a:Expr}{p pos:Pos}{es:List Expr}{k:Nat}{tp:Pos}{r:Rep α}{xs:List α}(hm:X.mg "enumerate"=none)(ha:EV X a Γ (ag r) xs Γ1)(hs:autoParam (starEach [a] X.env=[(false,eval a X.env)]) Fc.ai)(hg:autoParam (Gl X "enumerate") Fc.ai):
    IV X (.Tuple es k tp) (.Call (.Name "enumerate" p) [a] [] pos) Γ (ay ae r) (nums xs) Γ1:=by
  refine ⟨_,xu hg hm (aT aL bL hs) hs,fun σ H0 R0 H R E Rq q=>ha σ H0 R0 H R E _ fun v H1 R1 E1 s1 e1=>?_⟩
  obtain ⟨a,vs,rfl,hp,pp,z⟩:=e1
  refine ⟨a,vs,rfl,bq.of (E1.sub _ _ hp),q _ H1 R1 E1 s1 (by rw [fQ];exact z) fun H' R' sR sH i=>⟨fun y hy=>?_,fun hi=>?_⟩⟩
  · have hq:bq X.K H' a vs:=bq.of (sH _ _ (sR _ _ hp))
    obtain ⟨e1,e2⟩:=jC hy
    obtain ⟨v,hv,hr⟩:=fW pp e2
    refine ⟨⟨vs,v,hq,hv⟩,fun v' H2 hyl=>?_⟩
    obtain ⟨p,x,hpn,rfl,rfl,hy⟩:=hyl
    have:=hy vs hq
    rw [hv] at this
    cases this
    have s2:au R' (upd R' p (.tup [.int i,v])):=au.fresh (sH.free hpn) _
    exact ⟨upd R' p (.tup [.int i,v]),Ext.fresh sH hpn _,p,_,_,rfl,aD,by rw [e1];rfl,r.mono s2 (r.mono sR hr)⟩
  · exact ⟨vs,bq.of (sH _ _ (sR _ _ hp)),by rw [pp.length,← fQ xs];exact hi⟩
theorem pj:dk X (.builtin "isinstance") (fun xs H Q=>∃x c t b,xs=[x,.ty c]∧dX X.K H x t∧PySem.W.kitOne X.K t (.type c)=some b∧Q (.bl b) H):=by
  intro pins s σ H xs us Q I r h
  obtain ⟨x,c,t,b,rfl,ty,e,q⟩:=h
  obtain ⟨u,u2,rfl,r1,r2⟩:=vals2 r
  cases (show u2=Value.type c from r2)
  exact sq I r1 ty e fun tk=>⟨.bl b,H,I.tok tk,rfl,q⟩
theorem eC {e:Expr}{y:Str}{p p2 pos:Pos}{r:Rep α}{x:α}{c:String}{t:Value}{b:Bool}(hm:X.mg "isinstance"=none)(hmy:X.mg y=none)(hvy:bootBuiltins y=some (.type c))(he:EV X e Γ r x Γ1)
    (ty:∀(R H:Hp) v,au R H→r.R X.K R v x→dX X.K H v t) (ht:∀K:PySem.W.Frag,PySem.W.kitOne K t (.type c)=some b:=by intro;rfl)
    (hs:autoParam (starEach [e,.Name y p2] X.env=(false,eval e X.env)::starEach [.Name y p2] X.env) Fc.ai) (hg:autoParam (Gl X "isinstance") Fc.ai) (hgy:autoParam (Gl X y) Fc.ai) (hny:autoParam (y≠"__name__") Fc.aw) (hdy:autoParam ((y==("__debug__":Str))=false) Fc.aw):EV X (.Call (.Name "isinstance" p) [e,.Name y p2] [] pos) Γ aO b Γ1:=by
  intro σ H0 R0 H R E Q q
  refine eS (cR pj hg hm PyProof.Rows.boot_isinstance (aT aL (aT (pA (v:=.ty c) hgy hmy hvy rfl hny hdy) bL rfl) hs) (by decide) (by decide) hs rfl) (he σ H0 R0 H R E _ fun v H1 R1 E1 s1 e1=>?_)
  exact ⟨v,c,t,b,rfl,ty R1 H1 v E1.sub e1,ht _,q _ H1 R1 E1 s1 rfl⟩
theorem ty_int {K:PySem.W.Frag}{x:Int}(R H:Hp)(v:V)(_:au R H)(h:ae.R K R v x):dX K H v (.type "int"):=by cases h;exact .int _
theorem ty_list {K:PySem.W.Frag}{r:Rep α}{xs:List α}(R H:Hp)(v:V)(s:au R H)(h:(ag r).R K R v xs):dX K H v (.type "list"):=by obtain ⟨a,vs,rfl,e,_⟩:=h;exact .lst (s _ _ e)
theorem wJ {K:PySem.W.Frag}{r:Rep α}{r':Rep β}{x:α×β}(R H:Hp)(v:V)(s:au R H)(h:(ay r r').R K R v x):dX K H v (.type "tuple"):=by obtain ⟨a,_,_,rfl,e,_⟩:=h;exact .tup (s _ _ e)
theorem yc {K:PySem.W.Frag}{x:Row}(R H:Hp)(v:V)(s:au R H)(h:aA.R K R v x):dX K H v (.type "tuple"):=by obtain ⟨a,rfl,e⟩:=h;exact .tup (s _ _ e)
structure cY (r:Rep α) [DecidableEq α] (n:Nat):Prop where
  inj:∀{K:PySem.W.Frag} {R:Hp} {v:V} {x y:α},r.R K R v x→r.R K R v y→x=y
  eq:∀{X:Cx} {pins:List (Addr×Obj)} {σ:St} {H:Hp} {s:Shared} {R:Hp} {A:Around} (I:Inv X pins σ H s) (sub:au R H) {v u:V} {vv uu:Value} {x y:α},RelV v vv→RelV u uu→r.R X.K R v x→r.R X.K R u y→A.units + n < cLine→SeqAt.EqAt A s vv uu (decide (x=y))
theorem eq_int:cY ae 0:=by
  refine ⟨by rintro K R v x y h1 h2;cases h1;cases h2;rfl,?_⟩
  intro X pins σ H s R A I sub v u vv uu x y rv ru h1 h2 hu
  cases h1
  cases h2
  obtain ⟨t,rfl⟩:=rv
  obtain ⟨t',rfl⟩:=ru
  intro prog w E Q hq
  refine wpAny_eqBool_int ?_
  rw [Bool.beq_eq_decide_eq];exact hq
theorem in1_units (A:Around):A.in1.units=A.units + 1:=rfl
theorem mr {A:Around}{s:Shared}{r:Rep α} [DecidableEq α]{n:Nat}(e:cY r n){X:Cx}{pins:List (Addr×Obj)}{σ:St}{H R:Hp}(I:Inv X pins σ H s)(sub:au R H)(hu:A.units + n < cLine):
    ∀{vs ws:List V} {us us':List Value} {xs ys:List α},Vals vs us→Vals ws us'→PySem.Paired (r.R X.K R) vs xs→PySem.Paired (r.R X.K R) ws ys→∀(j:Nat) (h1:j < us.toArray.size) (h2:j < us'.toArray.size),SeqAt.EqAt A s us.toArray[j] us'.toArray[j] (decide (xs[j]?=ys[j]?)):=by
  intro vs ws us us' xs ys hv hw px py j h1 h2
  have h1':j < us.length:=by simpa using h1
  have h2':j < us'.length:=by simpa using h2
  have l1:j < vs.length:=by rw [hv.length];exact h1'
  have l2:j < ws.length:=by rw [hw.length];exact h2'
  obtain ⟨u,e1,r1⟩:=hv.get (List.getElem?_eq_getElem l1)
  obtain ⟨u',e2,r2⟩:=hw.get (List.getElem?_eq_getElem l2)
  obtain ⟨x,e3,q1⟩:=iV px (List.getElem?_eq_getElem l1)
  obtain ⟨y,e4,q2⟩:=iV py (List.getElem?_eq_getElem l2)
  rw [List.getElem?_eq_getElem h1'] at e1
  rw [List.getElem?_eq_getElem h2'] at e2
  have e1:=Option.some.inj e1
  have e2:=Option.some.inj e2
  have key:=e.eq (A:=A) I sub r1 r2 q1 q2 hu
  have d:decide (xs[j]?=ys[j]?)=decide (x=y):=by rw [e3,e4];simp
  rw [d]
  simp only [List.getElem_toArray]
  rw [e1,e2]
  exact key
theorem all_eq [DecidableEq α]{xs ys:List α}(h:xs.length=ys.length):((List.range xs.length).all fun j=>decide (xs[j]?=ys[j]?))=decide (xs=ys):=by
  rw [Bool.eq_iff_iff,List.all_eq_true]
  simp only [List.mem_range,decide_eq_true_eq]
  constructor
  · intro hh
    refine List.ext_getElem? fun i=>?_
    by_cases hi:i < xs.length
    · exact hh i hi
    · have a1:xs[i]?=none:=List.getElem?_eq_none (by omega)
      have a2:ys[i]?=none:=List.getElem?_eq_none (by omega)
      rw [a1,a2]
  · rintro rfl j _;rfl
theorem kL {F:α→β→Prop}(inj:∀v x y,F v x→F v y→x=y):∀{vs:List α} {xs ys:List β},PySem.Paired F vs xs→PySem.Paired F vs ys→xs=ys
  | _,_,_,.nil,.nil=>rfl
  | _,_,_,.cons h t,.cons h' t'=>by rw [inj _ _ _ h h',kL inj t t']
theorem lN {r:Rep α} [DecidableEq α]{n:Nat}(e:cY r n){X:Cx}{pins:List (Addr×Obj)}{σ:St}{H:Hp}{s:Shared}{R:Hp}{A:Around}(I:Inv X pins σ H s)(sub:au R H){a b:Addr}{vs ws:List V}{xs ys:List α}(ha:R a=some (.lst vs))(hb:R b=some (.lst ws))(px:PySem.Paired (r.R X.K R) vs xs)(py:PySem.Paired (r.R X.K R) ws ys)(hu:A.units + (n + 1) < cLine):
    SeqAt.RcAt A s (.ref a) (.ref b) (decide (xs=ys))∧SeqAt.RcNeAt A s (.ref a) (.ref b) (!decide (xs=ys)):=by
  obtain ⟨us,hv,pl,_⟩:=I.list (bq.of (sub _ _ ha))
  obtain ⟨us',hw,pl',_⟩:=I.list (bq.of (sub _ _ hb))
  have lx:us.toArray.size=xs.length:=by rw [List.size_toArray,← hv.length,px.length]
  have ly:us'.toArray.size=ys.length:=by rw [List.size_toArray,← hw.length,py.length]
  by_cases hl:xs.length=ys.length
  · have he:=mr (A:=A.in1) e I sub (by rw [in1_units];omega) hv hw px py
    have r1:=SeqAt.RcAt.lists pl.isList pl'.isList (lx.trans (hl.trans ly.symm)) (by omega) he
    have r2:=SeqAt.RcNeAt.lists pl.isList pl'.isList (lx.trans (hl.trans ly.symm)) (by omega) he
    rw [lx,all_eq hl] at r1 r2
    exact ⟨r1,r2⟩
  · have hne:(us.toArray.size != us'.toArray.size)=true:=by rw [lx,ly];simpa using hl
    have d:decide (xs=ys)=false:=decide_eq_false fun z=>hl (by rw [z])
    rw [d]
    exact ⟨SeqAt.RcAt.lists_lengths pl.isList pl'.isList hne (by omega),SeqAt.RcNeAt.lists_lengths pl.isList pl'.isList hne (by omega)⟩
theorem eq_list {r:Rep α} [DecidableEq α]{n:Nat}(e:cY r n):cY (ag r) (n + 1):=by
  have inj:∀{K:PySem.W.Frag} {R:Hp} {v:V} {x y:List α},(ag r).R K R v x→(ag r).R K R v y→x=y:=by
    rintro K R v x y ⟨a,vs,rfl,h,p,_⟩ ⟨a',vs',e1,h',p',_⟩
    cases e1
    rw [h] at h'
    cases h'
    exact kL (F:=r.R K R) (fun _ _ _ h1 h2=>e.inj h1 h2) p p'
  refine ⟨inj,?_⟩
  intro X pins σ H s R A I sub v u vv uu x y rv ru h1 h2 hu
  have h1':=h1
  have h2':=h2
  obtain ⟨a,vs,rfl,ha,px,_⟩:=h1
  obtain ⟨b,ws,rfl,hb,py,_⟩:=h2
  cases rv
  cases ru
  by_cases hab:a=b
  · subst hab
    rw [decide_eq_true (inj h1' h2')]
    exact SeqAt.EqAt.same _
  · exact SeqAt.EqAt.of_refs hab (lN e I sub ha hb px py hu).1
theorem sy {X:Cx}{pins:List (Addr×Obj)}{σ:St}{H:Hp}{s:Shared}{R:Hp}{A:Around}(I:Inv X pins σ H s)(sub:au R H){a b:Addr}{vs ws:List V}{k:Nat→Bool}(ha:R a=some (.tup vs))(hb:R b=some (.tup ws))(hl:vs.length=ws.length)(hu:A.units < cLine)
    (he:∀(us us':List Value),Vals vs us→Vals ws us'→∀(j:Nat) (h1:j < us.toArray.size) (h2:j < us'.toArray.size),SeqAt.EqAt A.in1 s us.toArray[j] us'.toArray[j] (k j)):
    SeqAt.RcAt A s (.ref a) (.ref b) ((List.range vs.length).all k)∧SeqAt.RcNeAt A s (.ref a) (.ref b) (!(List.range vs.length).all k):=by
  obtain ⟨us,hv,pl,_⟩:=I.tuple (dE.of (sub _ _ ha))
  obtain ⟨us',hw,pl',_⟩:=I.tuple (dE.of (sub _ _ hb))
  have lx:us.toArray.size=vs.length:=by rw [List.size_toArray,← hv.length]
  have ly:us'.toArray.size=vs.length:=by rw [List.size_toArray,← hw.length,hl]
  have r1:=SeqAt.RcAt.tuples (A:=A) pl pl' hu (he us us' hv hw)
  have r2:=SeqAt.RcNeAt.tuples (A:=A) pl pl' hu (he us us' hv hw)
  rw [lx,ly,Nat.min_self] at r1 r2
  simp only [beq_self_eq_true,Bool.and_true] at r1 r2
  exact ⟨r1,r2⟩
theorem zO {X:Cx}{pins:List (Addr×Obj)}{σ:St}{H:Hp}{s:Shared}{R:Hp}{A:Around}(I:Inv X pins σ H s)(sub:au R H){a b:Addr}{x y:Row}(ha:R a=some (.tup [.int x.1,.int x.2.1,.int x.2.2.1,.int x.2.2.2]))(hb:R b=some (.tup [.int y.1,.int y.2.1,.int y.2.2.1,.int y.2.2.2]))(hu:A.units + 1 < cLine):
    SeqAt.RcAt A s (.ref a) (.ref b) (decide (x=y)):=by
  have aints:∀ys:List Int,PySem.Paired (ae.R X.K R) (ys.map V.int) ys:=fun ys=>by
    induction ys with
    | nil=>exact .nil
    | cons y r ih=>exact .cons rfl ih
  have r1:=(sy (A:=A) I sub ha hb rfl (by omega) fun us us' hv hw=>mr (A:=A.in1) eq_int I sub (by rw [in1_units];omega) hv hw (aints [x.1,x.2.1,x.2.2.1,x.2.2.2]) (aints [y.1,y.2.1,y.2.2.1,y.2.2.2])).1
  have e1:=all_eq (xs:=[x.1,x.2.1,x.2.2.1,x.2.2.2]) (ys:=[y.1,y.2.1,y.2.2.1,y.2.2.2]) rfl
  have e2:decide ([x.1,x.2.1,x.2.2.1,x.2.2.2]=[y.1,y.2.1,y.2.2.1,y.2.2.2])=decide (x=y):=by
    obtain ⟨a1,a2,a3,a4⟩:=x
    obtain ⟨b1,b2,b3,b4⟩:=y
    simp
  rw [e2] at e1
  rw [← e1]
  exact r1
theorem yB:cY aA 1:=by
  have inj:∀{K:PySem.W.Frag} {R:Hp} {v:V} {x y:Row},aA.R K R v x→aA.R K R v y→x=y:=by
    rintro K R v x y ⟨a,rfl,h⟩ ⟨a',e1,h'⟩
    cases e1
    rw [h] at h'
    obtain ⟨a1,a2,a3,a4⟩:=x
    obtain ⟨b1,b2,b3,b4⟩:=y
    simp at h'
    simp [h']
  refine ⟨inj,?_⟩
  intro X pins σ H s R A I sub v u vv uu x y rv ru h1 h2 hu
  have h1':=h1
  have h2':=h2
  obtain ⟨a,rfl,ha⟩:=h1
  obtain ⟨b,rfl,hb⟩:=h2
  cases rv
  cases ru
  by_cases hab:a=b
  · subst hab
    rw [decide_eq_true (inj h1' h2')]
    exact SeqAt.EqAt.same _
  · exact SeqAt.EqAt.of_refs hab (zO I sub ha hb hu)
theorem qL {r:Rep α} [DecidableEq α]{n:Nat}(e:cY r n)(hu:X.A.units + (n + 1) < cLine){xs ys:List α}:fB X .Eq (ag r) (ag r) xs ys (decide (xs=ys)):=
  ⟨fun v u H Q=>∃R,au R H∧∃xs ys,(ag r).R X.K R v xs∧(ag r).R X.K R u ys∧Q (.bl (decide (xs=ys))) H,fun pins s σ H x y v u Q I rx ry ⟨R,sub,xs,ys,h1,h2,q⟩=>by
    obtain ⟨a,vs,rfl,ha,px,_⟩:=h1
    obtain ⟨b,ws,rfl,hb,py,_⟩:=h2
    cases rx
    cases ry
    exact (lN (A:=X.A) e I sub ha hb px py hu).1 _ _ _ _ ⟨.bl _,H,I,rfl,q⟩,fun R H v u Q s h1 h2 q=>⟨R,s,xs,ys,h1,h2,q⟩⟩
theorem mH {r:Rep α} [DecidableEq α]{n:Nat}(e:cY r n)(hu:X.A.units + (n + 1) < cLine){xs ys:List α}:fB X .NotEq (ag r) (ag r) xs ys (!decide (xs=ys)):=
  ⟨fun v u H Q=>∃R,au R H∧∃xs ys,(ag r).R X.K R v xs∧(ag r).R X.K R u ys∧Q (.bl (!decide (xs=ys))) H,fun pins s σ H x y v u Q I rx ry ⟨R,sub,xs,ys,h1,h2,q⟩=>by
    obtain ⟨a,vs,rfl,ha,px,_⟩:=h1
    obtain ⟨b,ws,rfl,hb,py,_⟩:=h2
    cases rx
    cases ry
    exact (lN (A:=X.A) e I sub ha hb px py hu).2 _ _ _ _ ⟨.bl _,H,I,rfl,q⟩,fun R H v u Q s h1 h2 q=>⟨R,s,xs,ys,h1,h2,q⟩⟩
theorem lH:dk X (.type "range") (fun xs H Q=>∃n:Int,xs=[.int n]∧∀p,H p=none→Q (.ref p) (upd H p (.rng 0 n))):=by
  intro pins s σ H xs us Q I r h
  obtain ⟨n,rfl,q⟩:=h
  obtain ⟨u,rfl,t,rfl⟩:=vals1 r
  refine call_range_1 ?_
  exact ⟨.ref s.heap.objs.size,_,I.laid (o:=.rng 0 n) (fun b o e=>Heap.get?_push_of_some _ e) (Nat.le_refl _) ⟨_,_,_,Heap.get?_push_size _ rfl⟩,rfl,q _ (I.hok.fresh (Nat.le_refl _))⟩
theorem ni (hc:X.calm=true):dk X (.type "list") (fun xs H Q=>∃(p:Addr) (m n:Int),xs=[.ref p]∧H p=some (.rng m n)∧ -1000000≤m∧m≤1000000∧ -1000000≤n∧n≤1000000∧∀d,H d=none→Q (.ref d) (upd H d (.lst ((ups m (n - m).toNat).map V.int)))):=by
  intro pins s σ H xs us Q I r h
  obtain ⟨p,m,n,rfl,hp,m1,m2,n1,n2,q⟩:=h
  obtain ⟨u,rfl,rx⟩:=vals1 r
  cases rx
  obtain ⟨t,t2,t3,ho⟩:=I.hok p _ hp
  have hsz:Builtin.Range.rangeSize m n 1=(((n - m).toNat:Nat):Int):=by rw [rangeSize_one];split<;>omega
  refine call_list_range (I.ok.hd hc) ho (small_one (by omega) (by omega) (by omega) (by omega)) hsz (by omega) fun h' tk acc c' hk hS hacc=>?_
  have vals :Vals ((ups m (n - m).toNat).map V.int) acc.toList:=by
    have key:∀(k:Nat) (its:List Value) (lo:Int),its.length=k→(∀(j:Nat) v,its[j]?=some v→∃t,v= .int (lo + (j:Int) * 1) t)→Vals ((ups lo k).map V.int) its:=by
      intro k
      induction k with
      | zero=>intro its lo hl _;cases its with
        | nil=>exact .nil
        | cons _ _=>cases hl
      | succ k ih=>
        intro its lo hl hv
        cases its with
        | nil=>cases hl
        | cons v r=>
          have e:ups lo (k + 1)=lo::ups (lo + 1) k:=by
            unfold ups
            rw [List.range_succ_eq_map,List.map_cons,List.map_map]
            congr 1
            · simp
            · apply List.map_congr_left;intro a _;simp;omega
          rw [e,List.map_cons]
          obtain ⟨t,e0⟩:=hv 0 v rfl
          refine .cons ⟨t,by rw [e0];simp⟩ (ih r (lo + 1) (by simpa using hl) fun j v hj=>?_)
          obtain ⟨t,ej⟩:=hv (j + 1) v (by simpa using hj)
          exact ⟨t,by rw [ej];congr 1;push_cast;omega⟩
    refine key _ _ m (by rw [Array.length_toList];exact hacc.1) fun j v hj=>hacc.2 j v (by simpa using hj)
  exact ⟨.ref _,_,I.laid (a:=s.heap.objs.size) (o:=.lst ((ups m (n - m).toNat).map V.int)) hk (Nat.le_refl _) ⟨by rw [List.length_map,aN];exact Nat.le_trans (show (n - m).toNat≤2000000 by omega) (by decide),acc.toList,c',vals,by rw [hS]⟩,rfl,q _ (I.hok.fresh (Nat.le_refl _))⟩
end
noncomputable def lV (scope:Scope)(env:Env):List (Str×Addr):=(scope.names.filterMap fun p=>if p.2== .free then (env.cells.lookup p.1).map (fun c=>(p.1,c)) else none).reverse
theorem kz {env:Env}:∀(names:List (Str×NameKind)) (acc:List (Str×Addr)),(∀y∈names,y.2= .free→∃c,env.cells.lookup y.1=some c)→
    (forIn names acc fun (x:Str×NameKind) (r:List (Str×Addr))=>if (x.2==NameKind.free)=true then do let a ← cellOf env x.1;pure (ForInStep.yield ((x.1,a)::r)) else pure (ForInStep.yield r):Sem (List (Str×Addr)))
      =pure ((names.filterMap fun p=>if p.2== .free then (env.cells.lookup p.1).map (fun c=>(p.1,c)) else none).reverse++acc)
  | [],acc,_=>rfl
  | (n,k)::r,acc,h=>by
    have ih:=kz (env:=env) r
    rw [List.forIn_cons,List.filterMap_cons]
    cases hk:(k==NameKind.free) with
    | false=>
      simp only [hk,Bool.false_eq_true,if_false]
      rw [pure_bind]
      exact ih acc fun y hy=>h y (List.mem_cons_of_mem _ hy)
    | true=>
      obtain ⟨c,hc⟩:=h (n,k) List.mem_cons_self (eq_of_beq hk)
      have hcell:cellOf env n=pure c:=by unfold cellOf;rw [hc]
      simp only [hk,if_true,hc,Option.map_some,hcell]
      rw [pure_bind,pure_bind]
      show forIn r ((n,c)::acc) _=_
      rw [ih ((n,c)::acc) fun y hy=>h y (List.mem_cons_of_mem _ hy)]
      simp
theorem rm {X:Cx}{scope:Scope}{own fr:List Str}{ix:List Nat}(hk:scope.kind= .function)(hn:∀y∈scope.names,y.2≠ .cell)(hl:∀y∈scope.names,y.2= .local→scope.names.lookup y.1=some .local)
    (hc:∀x,X.env.scope.names.lookup x=some .cell→∃c,X.env.cells.lookup x=some c) (hf:∀y∈scope.names,y.2= .free→X.env.scope.names.lookup y.1=some .cell)
    (hfr:∀x∈fr,scope.names.lookup x=some .free) (hlen:fr.length=ix.length) (hat:∀(k i:Nat) (x:Str),ix[k]?=some i→fr[k]?=some x→X.N[i]?=some x):cO X scope (lV scope X.env) own fr ix:=by
  have free:∀y∈scope.names,y.2= .free→∃c,X.env.cells.lookup y.1=some c:=fun y hy e=>hc _ (hf y hy e)
  refine ⟨?_,fun x c e=>?_,hk,hn,hl,fun x e=>?_,hfr,hlen,fun k i x e1 e2=>⟨hat k i x e1 e2,hf (x,.free) (PySem.mem_of_lookup (hfr x (List.mem_of_getElem? e2))) rfl⟩⟩
  · have:=kz (env:=X.env) scope.names [] free
    rw [List.append_nil] at this
    have e:closureFor scope X.env=((forIn scope.names [] fun (x:Str×NameKind) (r:List (Str×Addr))=>if (x.2==NameKind.free)=true then do let a ← cellOf X.env x.1;pure (ForInStep.yield ((x.1,a)::r)) else pure (ForInStep.yield r):Sem (List (Str×Addr))) >>=fun cs=>pure cs):=rfl
    rw [e,this,pure_bind]
    rfl
  · have m:=PySem.mem_of_lookup e
    unfold lV at m
    obtain ⟨p,_,hp⟩:=List.mem_filterMap.mp (List.mem_reverse.mp m)
    split at hp
    · cases q:X.env.cells.lookup p.1 with
      | none=>rw [q] at hp;cases hp
      | some c'=>rw [q] at hp;cases hp;exact q
    · cases hp
  · have m:=PySem.mem_of_lookup e
    obtain ⟨c,hcc⟩:=free _ m rfl
    have m2:(x,c)∈lV scope X.env:=by
      unfold lV
      refine List.mem_reverse.mpr (List.mem_filterMap.mpr ⟨(x,.free),m,?_⟩)
      simp [hcc]
    cases q:(lV scope X.env).lookup x with
    | some c'=>exact ⟨c',rfl⟩
    | none=>
      rw [List.lookup_eq_none_iff] at q
      exact absurd (q _ m2) (by simp)
noncomputable def tH (scope so:Scope)(N0 fr:List Str)(ix:List Nat):Bool:=
  decide (scope.kind= .function)&&scope.names.all (fun y=>decide (y.2≠ .cell)&&(decide (y.2≠ .local) ||decide (scope.names.lookup y.1=some .local))&&(decide (y.2≠ .free) ||decide (so.names.lookup y.1=some .cell)))
    &&fr.all (fun x=>decide (scope.names.lookup x=some .free))&&decide (fr.length=ix.length)&&(List.range ix.length).all fun k=>match ix[k]?,fr[k]? with | some i,some x=>decide (N0[i]?=some x) | _,_=>true
theorem bc {X:Cx}{scope so:Scope}{N0 own fr:List Str}{ix:List Nat}(hso:X.env.scope=so)(hN0:X.N=N0)(hc:∀x,X.env.scope.names.lookup x=some .cell→∃c,X.env.cells.lookup x=some c)(h:tH scope so N0 fr ix=true):cO X scope (lV scope X.env) own fr ix:=by
  unfold tH at h
  simp only [Bool.and_eq_true,Bool.or_eq_true,decide_eq_true_eq,List.all_eq_true] at h
  obtain ⟨⟨⟨⟨h1,h2⟩,h3⟩,h4⟩,h5⟩:=h
  refine rm h1 (fun y hy=>(h2 y hy).1.1) (fun y hy e=>(h2 y hy).1.2.resolve_left fun z=>z e) hc (fun y hy e=>by rw [hso];exact (h2 y hy).2.resolve_left fun z=>z e) h3 h4 fun k i x e1 e2=>?_
  have hk:k < ix.length:=(List.getElem?_eq_some_iff.mp e1).1
  have:=h5 k (List.mem_range.mpr hk)
  rw [e1,e2] at this
  rw [hN0]
  simpa using this
section
variable {X:Cx}{Γ Γ1 Γ2 Γ3:Ga}{α β γ δ:Type}{N:Ga→Prop}{T:RT}
theorem lz (i:Nat){S:bW}{x y:Str}{k:Nat}{e:Expr}{es:List Expr}{p p1 p2 pos:Pos}{ps:List Pk}{r:Rep α}{Pd:α→Prop}(C:az X.prog X.w X.K X.mg X.base x k (aE S X.K))(hr:bt k X.A)(ha:HA X (e::es) Γ ps Γ1)(hS:S X.K ps (bC X.K r Pd))(h:∀z,Pd z→N (Γ1.set i (.im r z)))
    (hg:autoParam (Gl X x) Fc.ai) (hdb:autoParam ((x==("__debug__":Str))=false) Fc.aw) (he:autoParam (starEach (e::es) X.env=(false,eval e X.env)::starEach es X.env) Fc.ai) (hpl:autoParam ((backTo p2 (starEach es X.env)).any (·.1)=false) Fc.ai)
    (hN:autoParam (X.N.Nodup) Fc.dY) (hi:autoParam (X.N[i]?=some y) Fc.ai) (hx:autoParam (Loc X.env.scope y) Fc.dA)
    (hs:autoParam (swapsWith (.Call (.Name x p) (e::es) [] p2) (some (.Name y p1)) pos.line X.env=pure false) Fc.ai) (hf:autoParam (X.fn y=true∨X.env.scope.names.lookup y=some .local) Fc.fZ):
    W1 X (.Assign [.Name y p1] (.Call (.Name x p) (e::es) [] p2) pos) Γ N T:=fun σ H0 R0 H R E D dn dr=>
  sS (fv hN hi hx aL hs hf) (dv C hr ha hS E (fun H1 R1 v H' R' E1 s1 xx t=>by
    obtain ⟨z,e1,hz⟩:=t
    exact dn _ H' R' _ ((E1.grow xx).set i e1) (s1.trans xx.r) (h z hz)) hg hdb he hpl)
theorem AA {tg iter:Expr}{w:Row}(h:EV X iter Γ aA w Γ1):IV X tg iter Γ ae [w.1,w.2.1,w.2.2.1,w.2.2.2] Γ1:=by
  refine ⟨_,Ad aL,fun σ H0 R0 H R E Rq q=>h σ H0 R0 H R E _ fun v H1 R1 E1 s1 e1=>?_⟩
  obtain ⟨a,rfl,ha⟩:=e1
  have hq0:∀H' R':Hp,au R1 R'→au R' H'→dE X.K H' a [.int w.1,.int w.2.1,.int w.2.2.1,.int w.2.2.2]:=fun H' R' sR sH=>dE.of (sH _ _ (sR _ _ ha))
  refine ⟨a,rfl,⟨_,hq0 H1 R1 (au.refl _) E1.sub⟩,q _ H1 R1 E1 s1 (by show 4≤sizeLine;decide) fun H' R' sR sH i=>⟨fun x hx=>?_,fun hi=>⟨_,hq0 H' R' sR sH,hi⟩⟩⟩
  have e2:([.int w.1,.int w.2.1,.int w.2.2.1,.int w.2.2.2]:List V)[i]?=some (.int x):=by
    have:=congrArg (Option.map V.int) hx
    rw [← List.getElem?_map] at this
    exact this
  refine ⟨⟨_,_,hq0 H' R' sR sH,e2⟩,fun v H2 hy=>?_⟩
  obtain ⟨rfl,hy⟩:=hy
  have:=hy _ (hq0 _ R' sR sH)
  rw [e2] at this
  cases this
  exact ⟨R',Ext.refl sH,rfl⟩
theorem pE {a:Expr}{p pos:Pos}{r:Rep α}{x:α}{n:Nat}(hm:X.mg "len"=none)(ha:EV X a Γ r x Γ1)(ht:∀(R:Hp) v,r.R X.K R v x→∃q vs,v= .ref q∧R q=some (.tup vs)∧vs.length=n)(hs:autoParam (starEach [a] X.env=[(false,eval a X.env)]) Fc.ai)(hg:autoParam (Gl X "len") Fc.ai):EV X (.Call (.Name "len" p) [a] [] pos) Γ ae (n:Int) Γ1:=by
  intro σ H0 R0 H R E Q q
  refine eS (cR eu hg hm PySem.boot_len (aT aL bL hs) (by decide) (by decide) hs) (ha σ H0 R0 H R E _ fun v H1 R1 E1 s1 e1=>?_)
  obtain ⟨p,vs,rfl,hp,hl⟩:=ht R1 v e1
  refine ⟨p,vs,rfl,.inr (dE.of (E1.sub _ _ hp)),?_⟩
  rw [hl]
  exact q _ H1 R1 E1 s1 rfl
theorem xM {K:PySem.W.Frag}{r:Rep α}{r':Rep β}{x:α×β}(R:Hp)(v:V)(h:(ay r r').R K R v x):∃q vs,v= .ref q∧R q=some (.tup vs)∧vs.length=2:=by
  obtain ⟨a,v1,v2,rfl,ha,_⟩:=h
  exact ⟨a,_,rfl,ha,rfl⟩
theorem z6 {K:PySem.W.Frag}{x:Row}(R:Hp)(v:V)(h:aA.R K R v x):∃q vs,v= .ref q∧R q=some (.tup vs)∧vs.length=4:=by
  obtain ⟨a,rfl,ha⟩:=h
  exact ⟨a,_,rfl,ha,rfl⟩
end
inductive Reach (es:List (Int×Int)) (s:Int):Int→Prop
  | base:Reach es s s
  | step {a b:Int}:Reach es s a→(a,b)∈es→Reach es s b
theorem Reach.sub {es:List (Int×Int)}{s:Int}{P:Int→Prop}(h0:P s)(hc:∀a b,P a→(a,b)∈es→P b):∀{k:Int},Reach es s k→P k
  | _,.base=>h0
  | _,.step r m=>hc _ _ (Reach.sub h0 hc r) m
section
variable {X:Cx}{Γ Γ1 Γ2 Γ3:Ga}{α β γ δ:Type}{N:Ga→Prop}{T:RT}
theorem xC:dm X (binaryOp .Mult) (rI IntMulOk fun i j=>.int (i * j)):=ua fun _ _ _ _ _ _ _ hc q=>mul_int q hc
theorem iw {a b:Expr}{pos:Pos}{x y:Int}(ha:EV X a Γ ae x Γ1)(hb:EV X b Γ1 ae y Γ2)(h:IntMulOk x y):EV X (.BinOp a .Mult b pos) Γ ae (x * y) Γ2:=iX xC ha hb fun R v u H Q e1 e2 q=>⟨x,y,e1,e2,h,q _ rfl⟩
noncomputable def nI (a:Addr)(r:Rep α)(xs:List α):i5 where
  fp:=[a]
  R:=fun K H R v=>v= .ref a∧∃vs,H a=some (.lst vs)∧PySem.Paired (r.R K R) vs xs
  loc:=fun hH hR ⟨e,vs,h,p⟩=>⟨e,vs,(hH a (List.mem_singleton.mpr rfl)).trans h,Paired.map (fun _ _=>r.mono hR) p⟩
  has:=fun ⟨e,vs,h,p⟩ b hb=>by rw [List.mem_singleton.mp hb,h];exact Option.some_ne_none _
theorem wL {K:PySem.W.Frag}{H R:Hp}{a:Addr}{r:Rep α}{xs:List α}{vs:List V}(h:H a=some (.lst vs))(hR:R a=none)(p:PySem.Paired (r.R K R) vs xs):(Ent.ob (nI a r xs)).ok K H R (some (.ref a)):=
  ⟨⟨_,rfl,rfl,vs,h,p⟩,fun b hb=>by rw [List.mem_singleton.mp hb];exact hR⟩
theorem pF {K:PySem.W.Frag}{H R:Hp}{a:Addr}{r:Rep α}{xs:List α}{o:Option V}(h:(Ent.ob (nI a r xs)).ok K H R o):o=some (.ref a)∧(∃vs,H a=some (.lst vs)∧PySem.Paired (r.R K R) vs xs)∧R a=none:=by
  obtain ⟨⟨v,rfl,rfl,q⟩,n⟩:=h
  exact ⟨rfl,q,n a (List.mem_singleton.mpr rfl)⟩
theorem WS.box (i:Nat){sts:List Stmt}{r:Rep α}{xs:List α}(hΓ:Γ[i]?=some (.mu r xs))(h:∀a,WS X sts (Γ.set i (.ob (nI a r xs))) N T):WS X sts Γ N T:=fun σ H0 R0 H R E D dn dr=>by
  obtain ⟨a,vs,ea,ha,hR,pp⟩:=E.ent i _ hΓ
  exact h a σ H0 R0 H R (E.tell hΓ (by rw [ea];exact wL ha hR pp) fun b w=>by
    rw [show b=a from List.mem_singleton.mp w];exact c8.mpr ea) D dn dr
theorem aq.jv {K:PySem.W.Frag}{σ:St}{H0 R0 H R:Hp}(E:aq K σ H0 R0 H R Γ){i:Nat}{e0 en:Ent}(hi:Γ[i]?=some e0)(ho:en.ok K H R (σ[i]?).join)(hsub:∀b∈en.fp (σ[i]?).join,H0 b=none∧∀(j:Nat) (e:Ent),j≠i→Γ[j]?=some e→b∉e.fp (σ[j]?).join):aq K σ H0 R0 H R (Γ.set i en):=by
  refine ⟨E.ext,fun j e q=>?_,fun j e b q w=>?_,fun j k e e' b q q' w w'=>?_,by rw [List.length_set];exact E.len⟩
  · rcases set_at q with ⟨rfl,rfl,_⟩ | ⟨hj,q1⟩
    · exact ho
    · exact E.ent j e q1
  · rcases set_at q with ⟨rfl,rfl,_⟩ | ⟨hj,q1⟩
    · exact (hsub b w).1
    · exact E.nw j e b q1 w
  · rcases set_at q with ⟨rfl,rfl,_⟩ | ⟨hj,q1⟩
    · rcases set_at q' with ⟨rfl,rfl,_⟩ | ⟨hk,q1'⟩
      · rfl
      · exact absurd w' ((hsub b w).2 k e' hk q1')
    · rcases set_at q' with ⟨rfl,rfl,_⟩ | ⟨hk,q1'⟩
      · exact absurd w ((hsub b w').2 j e hj q1)
      · exact E.ds _ _ _ _ b q1 q1' w w'
variable {P:Program}{w:World}{K:PySem.W.Frag}{mg:Str→Option Value}{base:Heap}
end
noncomputable def cc {α:Type}(k:Nat)(y:α)(xs:List α):List α:=xs.take k++y::xs.drop k
theorem gT {α:Type}{k:Nat}{y:α}{xs:List α}:(cc k y xs).length=xs.length + 1:=by
  unfold cc;rw [List.length_append,List.length_cons,List.length_take,List.length_drop];omega
theorem rP {α:Type}{k:Nat}{y:α}{xs:List α}{z:α}:z∈cc k y xs↔z=y∨z∈xs:=by
  unfold cc
  rw [List.mem_append,List.mem_cons]
  have:z∈xs↔z∈xs.take k∨z∈xs.drop k:=by rw [← List.mem_append,List.take_append_drop]
  rw [this]
  constructor
  · rintro (h | h | h)
    · exact .inr (.inl h)
    · exact .inl h
    · exact .inr (.inr h)
  · rintro (h | h | h)
    · exact .inr (.inl h)
    · exact .inl h
    · exact .inr (.inr h)
section
variable {X:Cx}{Γ Γ1 Γ2 Γ3:Ga}{α β γ δ:Type}{N:Ga→Prop}{T:RT}
noncomputable def wZ:V→List V→Hp→VK→Prop:=fun x vs H Q=>∃l xs i y,x= .ref l∧vs=[.int i,y]∧H l=some (.lst xs)∧0≤i∧i≤(xs.length:Int)∧xs.length < sizeLine∧Q .non (upd H l (.lst (cc i.toNat y xs)))
theorem tV:wm X "list.insert" wZ:=by
  intro pins s σ H x vs v us Q I rx rv h
  obtain ⟨l,xs,i,y,rfl,rfl,hH,h0,h1,hz,q⟩:=h
  cases rx
  obtain ⟨u1,u2,rfl,⟨t,rfl⟩,r2⟩:=vals2 rv
  obtain ⟨z,its,n,r,hl,e⟩:=I.jr hH
  have hfit:Builtin.List.listFitsIndex i=true:=fitsIndex_both (by omega) (by
    have:sizeLine < 2 ^ 63:=by decide
    omega)
  refine call_meets PySem.F.slot_list_insert ⟨_,e,rfl⟩ PySem.F.entry_list_insert (PySem.F.args_list_insert_3 _ _ _) (PySem.AutoSeq1.list_insert_list_int_val_1 l _ n i t u2 (by simp [hfit]) (by rw [List.size_toArray];omega)) ⟨e,?_⟩
  refine ⟨.non,_,I.qA (its':=cc i.toNat u2 its) hH e ?_ ?_ ?_,rfl,q⟩
  · have hk:(if i < 0 then (i + ((its.toArray.size:Nat):Int)).toNat else min i.toNat its.toArray.size)=i.toNat:=by
      rw [if_neg (by omega),List.size_toArray];omega
    dsimp only
    rw [hk]
    unfold cc
    apply Array.ext'
    simp
    exact List.take_of_length_le (by rw [List.length_drop];exact Nat.le_refl _)
  · unfold cc;exact (r.take _).append (.cons r2 (r.drop _))
  · rw [gT];omega
noncomputable def iQ (r:Row):List V:=[.int r.1,.int r.2.1,.int r.2.2.1,.int r.2.2.2]
noncomputable def uq:Rep Addr:=⟨fun _ _ v a=>v= .ref a,fun _ h=>h⟩
noncomputable def gm:Rep Row:=⟨fun _ H v r=>∃b,v= .ref b∧H b=some (.lst (iQ r)),fun s ⟨b,e,h⟩=>⟨b,e,s _ _ h⟩⟩
noncomputable def bY (H:Hp)(as:List Addr)(rs:List Row):Prop:=as.length=rs.length∧∀(i:Nat) (b:Addr) (r:Row),as[i]?=some b→rs[i]?=some r→H b=some (.lst (iQ r))
theorem bY.row {H:Hp}{as:List Addr}{rs:List Row}(h:bY H as rs){b:Addr}(hb:b∈as):∃r,H b=some (.lst (iQ r)):=by
  obtain ⟨i,hi,rfl⟩:=List.mem_iff_getElem.mp hb
  exact ⟨_,h.2 i _ _ (List.getElem?_eq_getElem hi) (List.getElem?_eq_getElem (by rw [← h.1];exact hi))⟩
theorem bY.loc {H H':Hp}{as:List Addr}{rs:List Row}(h:bY H as rs)(e:∀a∈as,H' a=H a):bY H' as rs:=
  ⟨h.1,fun i b r h1 h2=>(e b (List.mem_of_getElem? h1)).trans (h.2 i b r h1 h2)⟩
theorem bY.put {H:Hp}{as:List Addr}{rs:List Row}(h:bY H as rs)(nd:as.Nodup){j:Nat}{b:Addr}{r:Row}(hb:as[j]?=some b):bY (upd H b (.lst (iQ r))) as (rs.set j r):=by
  refine ⟨by rw [List.length_set];exact h.1,fun i c q h1 h2=>?_⟩
  by_cases hij:i=j
  · subst hij
    rw [hb] at h1;cases h1
    have hl:i < rs.length:=by rw [← h.1];exact (List.getElem?_eq_some_iff.mp hb).1
    rw [List.getElem?_set_self hl] at h2;cases h2
    exact aD
  · rw [List.getElem?_set_ne (Ne.symm hij)] at h2
    have:c≠b:=fun z=>by
      subst z
      have l1:=(List.getElem?_eq_some_iff.mp h1)
      have l2:=(List.getElem?_eq_some_iff.mp hb)
      exact hij ((List.getElem_inj (h₀:=l1.1) (h₁:=l2.1) nd).mp (l1.2.trans l2.2.symm))
    rw [aJ this];exact h.2 i c q h1 h2
noncomputable def bN (a:Addr)(as:List Addr)(rs:List Row):i5 where
  fp:=a::as
  R:=fun K H R v=>v= .ref a∧H a=some (.lst (as.map .ref))∧bY H as rs∧(a::as).Nodup
  loc:=fun hH hR ⟨e,h1,h2,h3⟩=>⟨e,(hH a List.mem_cons_self).trans h1,h2.loc fun b hb=>hH b (List.mem_cons_of_mem _ hb),h3⟩
  has :=fun ⟨e,h1,h2,h3⟩ b hb=>by
    rcases List.mem_cons.mp hb with rfl | hb
    · rw [h1];exact Option.some_ne_none _
    · obtain ⟨r,hr⟩:=h2.row hb
      rw [hr];exact Option.some_ne_none _
noncomputable def oi (a:Addr)(as:List Addr)(rs:List Row):i5 where
  fp:=as
  R:=fun K H R v=>v= .ref a∧R a=some (.lst (as.map .ref))∧bY H as rs∧as.Nodup
  loc:=fun hH hR ⟨e,h1,h2,h3⟩=>⟨e,hR _ _ h1,h2.loc fun b hb=>hH b hb,h3⟩
  has:=fun ⟨e,h1,h2,h3⟩ b hb=>by
    obtain ⟨r,hr⟩:=h2.row hb
    rw [hr];exact Option.some_ne_none _
structure oG (B B':i5) (b:Addr) (r r':Row):Prop where
  mem:b∈B.fp
  fp:B'.fp=B.fp
  get:∀{K:PySem.W.Frag} {H R:Hp} {v:V},B.R K H R v→H b=some (.lst (iQ r))
  set:∀{K:PySem.W.Frag} {H R:Hp} {v:V},B.R K H R v→B'.R K (upd H b (.lst (iQ r'))) R v
theorem jE {a:Addr}{as:List Addr}{rs:List Row}{j:Nat}{b:Addr}{r r':Row}(hb:as[j]?=some b)(hr:rs[j]?=some r):oG (bN a as rs) (bN a as (rs.set j r')) b r r' where
  mem:=List.mem_cons_of_mem _ (List.mem_of_getElem? hb)
  fp:=rfl
  get:=fun h=>h.2.2.1.2 j b r hb hr
  set:=fun ⟨e,h1,h2,h3⟩=>by
    obtain ⟨n1,n2⟩:=List.nodup_cons.mp h3
    exact ⟨e,by rw [aJ (show a≠b from fun z=>n1 (z▸List.mem_of_getElem? hb))];exact h1,h2.put n2 hb,h3⟩
theorem rZ (i:Nat){o:Expr}{c:Int}{j:Nat}{p1 pos:Pos}{B B':i5}{b:Addr}{r r':Row}{y:Int}(ho:EV X o Γ uq b Γ1)(hΓ1:Γ1[i]?=some (.ob B))(hB:oG B B' b r r')(hy:cA (iQ r) c=some (.int y)):EV X (.Subscript o (.Constant (.int c) j p1) pos) Γ ae y Γ1:=by
  intro σ H0 R0 H R E Q q
  refine eS (fP eG aL dQ (fun _ _=>rfl)) (ho σ H0 R0 H R E _ fun v H1 R1 E1 s1 e1=>?_)
  cases e1
  obtain ⟨⟨v,ev,hv⟩,_⟩:=E1.ent i _ hΓ1
  exact ⟨b,_,c,_,rfl,rfl,bq.of (hB.get hv),hy,q _ H1 R1 E1 s1 rfl⟩
theorem ou (i:Nat){o e:Expr}{k:Nat}{p1 p2 pos:Pos}{B B':i5}{b:Addr}{r:Row}{y:Int}(he:EV X e Γ ae y Γ1)(ho:EV X o Γ1 uq b Γ2)(hΓ2:Γ2[i]?=some (.ob B))(hB:oG B B' b r (r.1,r.2.1,r.2.2.1,y))(h:N (Γ2.set i (.ob B')))
    (ha:autoParam (∀v,assign (.Subscript o (.Constant (.int 3) k p1) p2) X.env v=(do
      let ov ← holding [v] (eval o X.env)
      let iv ← holding [v,ov] (eval (.Constant (.int 3) k p1) X.env)
      standAt p2
      holding [v,ov,iv] (setItem ov iv v)
      release [v,ov,iv] [])) Fc.cZ)
    (hs:autoParam (swapsWithSole [.Subscript o (.Constant (.int 3) k p1) p2] e pos.line X.env=pure false) Fc.ai) (hw:autoParam (swappedStores [.Subscript o (.Constant (.int 3) k p1) p2] e X.env=pure none) Fc.ai) (h1:autoParam ((assignEach [.Subscript o (.Constant (.int 3) k p1) p2] X.env).map (·.2)=[assign (.Subscript o (.Constant (.int 3) k p1) p2) X.env]) Fc.ai):
    W1 X (.Assign [.Subscript o (.Constant (.int 3) k p1) p2] e pos) Γ N T:=fun σ H0 R0 H R E D dn dr=>by
  refine sS (gc aL (kS aL dQ set_list ha) hs hw h1) (he σ H0 R0 H R E _ fun v H1 R1 E1 s1 e1=>ho σ H0 R0 H1 R1 E1 _ fun u H2 R2 E2 s2 e2=>?_)
  cases e2
  cases e1
  obtain ⟨⟨v,ev,hv⟩,hn⟩:=E2.ent i _ hΓ2
  refine ⟨b,_,3,3,rfl,rfl,hB.get hv,rfl,?_⟩
  exact dn σ _ R2 _ (E2.nv (u:=.lst (iQ (r.1,r.2.1,r.2.2.1,y))) (en:=.ob B') hΓ2 hB.mem ⟨⟨v,ev,hB.set hv⟩,by rw [hB.fp];exact hn⟩ fun b' w=>.inl (by rw [Ent.fp,hB.fp] at w;exact w)) (s1.trans s2) h
theorem WS.wM (i:Nat){sts:List Stmt}{r:Rep α}(hΓ:Γ[i]?=some (.mu r []))(h:∀a,WS X sts (Γ.set i (.ob (bN a [] []))) N T):WS X sts Γ N T:=fun σ H0 R0 H R E D dn dr=>by
  obtain ⟨a,vs,ea,ha,hR,pp⟩:=E.ent i _ hΓ
  cases pp
  refine h a σ H0 R0 H R (E.tell hΓ ⟨⟨.ref a,ea,rfl,ha,⟨rfl,fun i b r h1=>by simp at h1⟩,by simp⟩,fun b hb=>?_⟩ fun b w=>?_) D dn dr
  · rw [show b=a by simpa [bN] using hb];exact hR
  · rw [show b=a by simpa [Ent.fp,bN] using w];exact c8.mpr ea
theorem qt (i:Nat){x:Str}{p1 p pos:Pos}{a:Addr}{as:List Addr}{rs:List Row}(hm:X.mg "len"=none)(hΓ:Γ[i]?=some (.ob (bN a as rs)))(hN:autoParam (X.N[i]?=some x) Fc.ai)(hv:autoParam (ck X.env.scope x) Fc.bO)
    (hd:autoParam ((x==("__debug__":Str))=false) Fc.aw) (hcd:autoParam ((x==("__classdict__":Str))=false) Fc.aw) (hg:autoParam (Gl X "len") Fc.ai):EV X (.Call (.Name "len" p) [.Name x p1] [] pos) Γ ae (rs.length:Int) Γ:=by
  intro σ H0 R0 H R E Q q
  obtain ⟨⟨v,ea,rfl,ha,hr,_⟩,hR⟩:=E.ent i _ hΓ
  refine eS (cR eu hg hm PySem.boot_len (aT (br hN hv hd hcd) bL rfl) (by decide) (by decide) rfl) ⟨.ref a,at_of ea,a,_,rfl,.inl (bq.of ha),?_⟩
  rw [List.length_map,hr.1]
  exact q _ H R E (au.refl _) rfl
theorem aq.rR {K:PySem.W.Frag}{σ:St}{H0 R0 H:Hp}:∀(as:List Addr) {R:Hp},aq K σ H0 R0 H R Γ→(∀b∈as,H b≠none∧H0 b=none∧Off b σ Γ)→∃R',aq K σ H0 R0 H R' Γ∧au R R'∧∀b∈as,R' b=H b
  | [],R,E,_=>⟨R,E,au.refl _,fun b hb=>by cases hb⟩
  | b ::as,R,E,h=>by
    obtain ⟨h1,h2,h3⟩:=h b List.mem_cons_self
    obtain ⟨u,hu⟩:∃u,H b=some u:=by cases q:H b with
      | none=>exact absurd q h1
      | some u=>exact ⟨u,rfl⟩
    have key:∃R1,aq K σ H0 R0 H R1 Γ∧au R R1∧R1 b=some u:=by
      cases q:R b with
      | none=>exact ⟨_,E.mL hu q h2 h3,au.fresh q _,aD⟩
      | some u'=>
        have:=E.sub b u' q
        rw [hu] at this
        cases this
        exact ⟨R,E,au.refl _,q⟩
    obtain ⟨R1,E1,s1,r1⟩:=key
    obtain ⟨R2,E2,s2,r2⟩:=aq.rR as E1 fun c hc=>h c (List.mem_cons_of_mem _ hc)
    refine ⟨R2,E2,s1.trans s2,fun c hc=>?_⟩
    rcases List.mem_cons.mp hc with rfl | hc
    · rw [s2 _ _ r1,hu]
    · exact r2 c hc
theorem WS.outer (i:Nat){sts:List Stmt}{a:Addr}{as:List Addr}{rs:List Row}(hΓ:Γ[i]?=some (.ob (bN a as rs)))(h:WS X sts (Γ.set i (.ob (oi a as rs))) N T):WS X sts Γ N T:=fun σ H0 R0 H R E D dn dr=>by
  obtain ⟨⟨v,ea,rfl,ha,hr,nd⟩,hR⟩:=E.ent i _ hΓ
  obtain ⟨n1,n2⟩:=List.nodup_cons.mp nd
  have hl:i < Γ.length:=(List.getElem?_eq_some_iff.mp hΓ).1
  have apart:∀(j:Nat) (e:Ent),j≠i→Γ[j]?=some e→∀b∈a::as,b∉e.fp (σ[j]?).join:=fun j e hj qj b hb w=>hj (E.ds j i e _ b qj hΓ w hb)
  have E1:aq X.K σ H0 R0 H R (Γ.set i .no):=E.tell hΓ trivial fun b w=>by cases w
  have E2:=E1.mL ha (hR a List.mem_cons_self) (E.nw i _ a hΓ List.mem_cons_self) fun j e qj w=>by
    rcases set_at qj with ⟨rfl,rfl,_⟩ | ⟨hj,q1⟩
    · cases w
    · exact apart j e hj q1 a List.mem_cons_self w
  have s2:au R (upd R a (.lst (as.map .ref))):=au.fresh (hR a List.mem_cons_self) _
  have E3:=E2.jv (i:=i) (e0:=.no) (en:=.ob (oi a as rs)) (List.getElem?_set_self hl) ⟨⟨.ref a,ea,rfl,aD,hr,n2⟩,fun b hb=>by
    rw [aJ (show b≠a from fun z=>n1 (z▸hb))];exact hR b (List.mem_cons_of_mem _ hb)⟩ fun b w=>⟨E.nw i _ b hΓ (List.mem_cons_of_mem _ w),fun j e hj qj=>apart j e hj (by rwa [List.getElem?_set_ne (Ne.symm hj)] at qj) b (List.mem_cons_of_mem _ w)⟩
  rw [List.set_set] at E3
  exact h σ H0 R0 H _ E3 D (fun σ2 H2 R2 Γ2 E2 s2'=>dn σ2 H2 R2 Γ2 E2 (s2.trans s2')) dr
theorem ia {K:PySem.W.Frag}{H:Hp}:∀{as:List Addr} {rs:List Row},bY H as rs→PySem.Paired (gm.R K H) (as.map .ref) rs
  | [],[],_=>.nil
  | [],_::_,h=>absurd h.1 (by simp)
  | _::_,[],h=>absurd h.1 (by simp)
  | a::as,r::rs,h=>.cons ⟨a,rfl,h.2 0 a r rfl rfl⟩ (ia ⟨by simpa using h.1,fun i b q h1 h2=>h.2 (i + 1) b q (by simpa using h1) (by simpa using h2)⟩)
theorem WS.xP (i:Nat){sts:List Stmt}{a:Addr}{as:List Addr}{rs:List Row}(hΓ:Γ[i]?=some (.ob (oi a as rs)))(hz:rs.length≤sizeLine)(h:WS X sts (Γ.set i (.im (ag gm) rs)) N T):WS X sts Γ N T:=fun σ H0 R0 H R E D dn dr=>by
  obtain ⟨⟨v,ea,rfl,ha,hr,nd⟩,hR⟩:=E.ent i _ hΓ
  have hl:i < Γ.length:=(List.getElem?_eq_some_iff.mp hΓ).1
  have E1:aq X.K σ H0 R0 H R (Γ.set i .no):=E.tell hΓ trivial fun b w=>by cases w
  obtain ⟨R',E2,s',rr⟩:=E1.rR as fun b hb=>⟨(Ent.cX (E.ent i _ hΓ) hb).1,E.nw i _ b hΓ hb,fun j e qj w=>by
    rcases set_at qj with ⟨rfl,rfl,_⟩ | ⟨hj,q1⟩
    · cases w
    · exact hj (E.ds j i e _ b q1 hΓ w hb)⟩
  have hr':bY R' as rs:=hr.loc rr
  have E3:=E2.jv (i:=i) (e0:=.no) (en:=.im (ag gm) rs) (List.getElem?_set_self hl) ⟨.ref a,ea,a,_,rfl,s' _ _ ha,ia hr',hz⟩ fun b w=>by cases w
  rw [List.set_set] at E3
  exact h σ H0 R0 H _ E3 D (fun σ2 H2 R2 Γ2 E2 s2'=>dn σ2 H2 R2 Γ2 E2 (s'.trans s2')) dr
noncomputable def kM:Ent→Ent
  | .im r x=>.im r x
  | _=>.no
theorem aq.frz {K:PySem.W.Frag}{σ:St}{H0 R0 H R:Hp}(E:aq K σ H0 R0 H R Γ):aq K σ H H H H (Γ.map kM):=by
  have noown:∀(i:Nat) (e:Ent) (o:Option V),(Γ.map kM)[i]?=some e→e.fp o=[]:=fun i e o q=>by
    rw [List.getElem?_map] at q
    cases h:Γ[i]? with
    | none=>rw [h] at q;cases q
    | some e'=>rw [h] at q;cases q;cases e'<;>rfl
  refine ⟨Ext.refl (au.refl _),fun i e q=>?_,fun i e a q w=>absurd w (by rw [noown i e _ q];exact List.not_mem_nil),fun i j e e' a q _ w=>absurd w (by rw [noown i e _ q];exact List.not_mem_nil),by rw [List.length_map];exact E.len⟩
  rw [List.getElem?_map] at q
  cases h:Γ[i]? with
  | none=>rw [h] at q;cases q
  | some e'=>
    rw [h] at q;cases q
    have:=E.ent i e' h
    cases e' with
    | im r x=>obtain ⟨v,e,hr⟩:=this;exact ⟨v,e,r.mono E.sub hr⟩
    | no=>trivial
    | mu r x=>trivial
    | di x=>trivial
    | ob x=>trivial
theorem xF (i:Nat){Γf:Ga}(hF:∀(σ:St) (H0 R0 H R:Hp),aq X.K σ H0 R0 H R Γ→aq X.K σ H H H H Γf){y:Str}{py spos:Pos}{tg elt iter:Expr}{ifs:List Expr}{scope:Scope}{pos:Pos}{cl:List (Str×Addr)}{own fr:List Str}{ix:List Nat}{ra:Rep α}{rb:Rep β}{xs:List α}{p:α→Bool}{f:α→β}{bf:α→Ga→Ga}
    (flat:∀(K:PySem.W.Frag) (H H':Hp) v y,rb.R K H v y→rb.R K H' v y)
    (S:cO X scope cl own fr ix) (hit:IV X tg iter Γf ra xs Γf)
    (hb:∀(C:Addr) (s:Shared) (H:Hp) (ex:List Addr),BG (aG X scope cl C (own++fr) s H ex) tg ra bf) (hw:∀x,Wk (bf x (bQ own ix Γf)) (bQ own ix Γf))
    (ht:∀(C:Addr) (s:Shared) (H:Hp) (ex:List Addr) x,x∈xs→TF (aG X scope cl C (own++fr) s H ex) ifs (bf x (bQ own ix Γf)) (p x) (bf x (bQ own ix Γf)))
    (he:∀(C:Addr) (s:Shared) (H:Hp) (ex:List Addr) x,x∈xs→p x=true→EV (aG X scope cl C (own++fr) s H ex) elt (bf x (bQ own ix Γf)) rb (f x) (bf x (bQ own ix Γf)))
    (h:N (Γ.set i (.mu rb ((xs.filter p).map f))))
    (hsw:autoParam (swapsWith (.ListComp elt [⟨tg,iter,ifs,0⟩] scope pos) (some (.Name y py)) spos.line X.env=pure true) Fc.ai)
    (hN:autoParam (X.N.Nodup) Fc.dY) (hi':X.N[i]?=some y:=by rfl) (hx:autoParam (Loc X.env.scope y) Fc.dA)
    (hc:autoParam (X.calm=true) Fc.ai) (hs:autoParam (∀x,foldedSetIterable iter X.env x=pure x) Fc.cZ) (hf:autoParam (X.fn y=true∨X.env.scope.names.lookup y=some .local) Fc.fZ):
    W1 X (.Assign [.Name y py] (.ListComp elt [⟨tg,iter,ifs,0⟩] scope pos) spos) Γ N T:=fun σ H0 R0 H R E D dn dr=>by
  obtain ⟨wi,hi,hit⟩:=hit
  refine sS (iK (i:=i) (g:=fun v σ H Q=>∀C s Hh ex,gU (aG X scope cl C (own++fr) s Hh ex) tg v σ H Q) (tc:=fun σ H Q=>∀C s Hh ex,ic (aG X scope cl C (own++fr) s Hh ex) ifs σ H Q) (te:=fun σ H Q=>∀C s Hh ex,dG (aG X scope cl C (own++fr) s Hh ex) elt σ H Q) hsw hN hi' hx hc S hi
    (fun C s H ex=>⟨fun pins s1 σ H v u Q I r h=>h C s _ ex pins s1 u I r,fun pins s1 σ H Q I h=>h C s _ ex pins s1 I,fun pins s1 σ H Q I h=>h C s _ ex pins s1 I⟩) hs hf) ?_
  refine hit σ H H H H (hF σ H0 R0 H R E) _ fun J H1 R1 E1 s1 hz src=>i9 (Q:=fun v H'=>D.nx (σ.set i (some v)) H') E1 src hz hb hw ht he fun a vs H' R' xx ha pp=>?_
  have sH:au H H':=E1.ext.h.trans xx.h
  have E2:=E.grow (H':=H') (R':=R) ⟨sH,au.refl _,E.sub.trans sH,fun _ _=>rfl⟩
  exact dn _ _ R _ ((E2.grow (Ext.cV E2.sub ha _)).qr (u:=.lst vs) (en:=.mu rb ((xs.filter p).map f)) i ⟨a,vs,rfl,aD,E2.sub.free ha,Paired.map (fun _ _=>flat X.K R' R _ _) pp⟩ (E2.ext.h.free ha) fun j e _ q w=>E2.off ha j e q w) (au.refl _) h
theorem l8 {a:Expr}{p pos:Pos}{r:Row}(hm:X.mg "tuple"=none)(ha:EV X a Γ gm r Γ1)(hs:autoParam (starEach [a] X.env=[(false,eval a X.env)]) Fc.ai)(hg:autoParam (Gl X "tuple") Fc.ai):EV X (.Call (.Name "tuple" p) [a] [] pos) Γ aA r Γ1:=by
  intro σ H0 R0 H R E Q q
  refine eS (gd mB hg hm PyProof.Rows.boot_tuple (aT aL bL hs) (by decide) (by decide) hs) (ha σ H0 R0 H R E _ fun v H1 R1 E1 s1 e1=>?_)
  obtain ⟨b,rfl,hb⟩:=e1
  refine ⟨b,_,rfl,.inl ⟨bq.of (E1.sub _ _ hb),fun l hl=>?_⟩⟩
  exact q _ _ (upd R1 l _) (E1.grow (Ext.fresh E1.sub hl _)) (s1.trans (au.fresh (E1.sub.free hl) _)) ⟨l,rfl,aD⟩
end
variable {P:Program}{w:World}{K:PySem.W.Frag}{mg:Str→Option Value}{base:Heap}
theorem tX {S:bW}{x qual:Str}{st:Stmt}{f:Addr}{fd:FuncData}{N ps:List Str}{k:Nat}(F:bh K x qual st f fd)(Sc:ax N ps (ah st))(len:∀qs T,S K qs T→qs.length=ps.length)
    (hbody:∀(cdv:Value) (A:Around) (outer:List Env) (s:Shared) (H:Hp) (E:XK) (qs:List Pk) (T:RT),bt k (A.deeper (envOfC qual (ah st) s.heap.objs.size f cdv))→S K qs T→
      WS (bF df P w K mg base N qual (ah st) f cdv A outer s H E).bR (bo st) (dc qs N.length) (fun _=>False) T):et P w K mg base df (k + 1) f fd ps (aE S K):=by
  refine F.ok Sc (fun vs H Q E h=>?_) (fun cdv A outer s H vs Q E hr h=>?_)
  · obtain ⟨R,qs,T,_,p,hS,_⟩:=h
    rw [p.length];exact len qs T hS
  · obtain ⟨R,qs,T,sR,p,hS,q⟩:=h
    have hl:qs.length≤N.length:=by
      rw [len qs T hS]
      have:=congrArg List.length Sc.pre
      rw [List.length_take] at this
      omega
    exact ⟨_,dB,hbody cdv A outer s H E qs T hr hS (L2.start N vs) H R H R (dq sR p hl) {nx:=fun _ H'=>Q .non H',rt:=Q} (fun _ _ _ _ _ _ f=>f.elim) fun v H' R' xx t=>q v H' R' xx t⟩
noncomputable def Def (K:PySem.W.Frag)(mg:Str→Option Value)(x:Str)(st:Stmt)(ps:List Str):Prop:=∃f fd,bh K x x st f fd∧mg x=some (.ref f)∧Binds K fd ps []
theorem aX {h:Heap}{x:Str}{st:Stmt}{ps:List Str}{f:Addr}{oc:Value}{od an:Option Addr}{osl:Array (Option Value)}{kV doc pm cdv ct:Value}(KX:K.In h)(G:h.Ns mainGlobals mg)
    (a:PySem.W.nsIn K mainGlobals x=some (some (.ref f))) (l:K.lookup f=some ⟨oc,od,.func (PySem.W.fnOf x x (e9 st) (bo st) (ah st) .none kV doc pm an cdv ct),osl⟩) (c:PySem.W.codeIn K cdv x=true) (k:PySem.W.keepIn K (.ref f)=true)
    (b:∀(kV doc pm:Value) (an:Option Addr) (cdv ct:Value) (us:List Value),us.length=ps.length→bindArgs (PySem.W.fnOf x x (e9 st) (bo st) (ah st) .none kV doc pm an cdv ct) ⟨us,[]⟩=pure (ps.zip us)):Def K mg x st ps:=
  ⟨f,_,n5 l c k,PySem.W.mg_of KX G a,(n5 l c k).binds b⟩
open PySem.Builtin.Int (intBits)
theorem oX {ns:List Int}(h:PySem.W.WData.layableAll [.list (ns.map .int)]=true):∀n∈ns,intBits n≤2 ^ 20:=fun n hn=>by
  have h1:=PySem.W.layableW_arg h _ (List.mem_singleton.mpr rfl)
  have h2:=PySem.W.layableW_item h1 (.int n) (List.mem_map.mpr ⟨n,hn,rfl⟩)
  exact PySem.PyData.bits_of_layable h2
end Fc
namespace Att
open PySem PySem.W PySem.Calls PyProof.Rows
open PySem.Builtin.Int (intBits)
theorem oa {l:OpenLaw}{n:Nat}{q:Program}{loose:List Str}{XP:(Str→Option Value)→Heap→Prop}{YP:World→Heap→Prop}{d:DefRec}
    (hn:l.most=some n) (hdf:d.params.defaults=[])
    (call:∀(w:World) (s₀ s₁:Shared) (mg mb:Str→Option Value) (fa:Addr) (o:Obj) (pm cd doc:Value) (a:Addr) (vs:List Value) (ns:List Int),
      Ground q loose [] XP w s₀ mg mb s₁.heap→YP w s₁.heap→
      s₁.heap.get? fa=some o→o.data= .func (docDef d.name d.params d.body d.scope pm cd doc)→s₁.heap.CodeRec cd d.name→mg d.name=some (.ref fa)→
      s₁.heap.get? a=some {cls:=.type "list",data:=.seq vs.toArray}→IntsAre vs ns→ns.length≤n→(∀m∈ns,intBits m≤2 ^ 20)→s₁.gens= #[]→
      codeAny (model l.prog w) callerA (.call (.ref fa) ⟨[.ref a],[]⟩) (fun r s'=>r= .ok (.ret (.bool true))∧OldK s₁.heap s'.heap∧s'.os=s₁.os∧AllBare s'.gens) s₁):
    WalkO q loose XP YP l.row.toRowW d [] (fun f vs=>PySem.call f vs):=by
  intro w s₀ s₁ mg mb G Y fa o pm cd doc dV kV ho hd hcd hD hmg hg args vals as hpre hlay hrd hwl hlo
  obtain rfl:dV= .none:=Dflts.none hD hdf
  obtain rfl:kV= .none:=Dflts.noKw hD
  obtain ⟨a,vs,ns,rfl,rfl,hobj,hints,hlen⟩:=ud hn hpre hwl
  refine enter_call (codeAny_mono (call w s₀ s₁ mg mb fa o pm cd doc a vs ns G Y ho (fd_plain hd) hcd hmg hobj hints hlen (Fc.oX hlay) hg) fun r s' hq=>?_)
  obtain ⟨rfl,h2,h3,h4⟩:=hq
  exact ⟨.inl ⟨.bool true,.bool true,[],rfl,fun _=>rfl,.bool true,tZ l _,fun _=>⟨List.Pairwise.nil,fun _ hm=>(nomatch hm)⟩⟩,h2,h3,h4⟩
end Att
namespace L2
open PySem PySem.Spec PyProof.Rows
open PySem.Builtin.Int (intBits)
theorem ur {l:PySem.W.OpenLaw}{n k:Nat}{q:Program}{loose:List Str}{XP:(Str→Option Value)→Heap→Prop}{YP:World→Heap→Prop}{d:DefRec}{K:Params→PySem.W.Frag}{CX:World→iH}{sp:World→Sp}{x:Str}
    (hn:l.most=some n) (hn2:n≤sizeLine) (hdf:d.params.defaults=[]) (hr:bt k callerA)
    (hY:∀(w:World) (h:Heap),YP w h→(K w.params).In h)
    (F:∀(w:World) (mg:Str→Option Value) (fa:Addr) (h:Heap),(K w.params).In h→h.Ns mainGlobals mg→mg d.name=some (.ref fa)→
      ∃ fd:FuncData,(∀(s:Shared) (u:Value),BindsTo s fd ⟨[u],[]⟩ [(x,u)])∧
        ∀base:Heap,(K w.params).In base→base.Ns mainGlobals mg→et l.prog w (K w.params) mg base (CX w) k fa fd [x] (sp w))
    (hsp:∀(w:World) (H:Hp) (a:Addr) (ns:List Int),ns.length≤n→(∀m∈ns,intBits m≤2 ^ 20)→uR H→bq (K w.params) H a (ns.map V.int)→sp w [.ref a] H (fun v _=>v= .bl true) fun _ _ _=>False)
    (hCX:∀(w:World) (H:Hp) (s:Shared) (e:Value) (s':Shared),CX w [] H s (fun _ _ _=>False) e s'→False):
    PySem.W.WalkO q loose XP YP l.row.toRowW d [] (fun f vs=>PySem.call f vs):=by
  refine Att.oa hn hdf fun w s₀ s₁ mg mb fa o pm cd doc a vs ns G Y ho hd hcd hmg hobj hints hlen hbits hg=>?_
  have KX:=hY w _ Y
  obtain ⟨fd,hb,hF⟩:=F w mg fa _ KX G.T.g hmg
  exact uD KX G.T.g G.T.b G.T.builtins G.T.nolimit hg hobj hints (Nat.le_trans hlen hn2) hr hF hb (fun H hO hS=>hsp w H a ns hlen hbits hO hS) fun H e s'=>hCX w H s₁ e s'
end L2
namespace Fc
open PySem PySem.Spec L2
open PyProof.Rows hiding St
structure rQ (h0 h:Heap) (H:Hp) (e T:Addr) (cls:Value):Prop where
  ex:∃oe vs oT ts a0,h.get? e=some oe∧(oe.cls=cls∧vs[0]?=some a0)∧oe.data= .fields vs∧vs[1]?=some (.ref T)∧T≠e∧h.get? T=some oT∧oT.data= .fields ts∧ts[3]?=some .none
  ne:h0.get? e=none
  nT:h0.get? T=none
  fe:H e=none
  fT:H T=none
noncomputable def eB (P:Program)(w:World):iH:=fun outer H s E ev s'=>∃e T cls H',ev= .ref e∧s'.os=s.os∧AllBare s'.gens∧Un (bV outer) [] H H' s.heap s'.heap∧cg P w H' s'.heap∧rQ s.heap s'.heap H' e T cls∧E cls none H'
theorem iA {h b0 h0:Heap}{fs:List Addr}:∀{l:List Env},h.FunFrames b0 l→(∀b∈bV l,b∈fs)→h.FunFrames (PySem.W.hideAll h0 fs) l
  | [],_,_=>trivial
  | env::rest,hl,hs=>by
    obtain ⟨hk,⟨L,o,hf,hn,ho,hd⟩,hr⟩:=hl
    refine ⟨hk,⟨L,o,hf,PySem.W.hideAll_none fs (hs L ?_),ho,hd⟩,iA hr fun b hb=>hs b ?_⟩
    · show L∈(env::rest).filterMap (·.frame)
      rw [List.filterMap_cons,hf];exact List.mem_cons_self
    · show b∈(env::rest).filterMap (·.frame)
      rw [List.filterMap_cons,hf];exact List.mem_cons_of_mem _ hb
theorem Un.shrink {fs fs' ex:List Addr}{H H':Hp}{h h':Heap}(u:Un fs ex H H' h h')(hs:∀b o,h.get? b=some o→b∈fs→b∈fs'):Un fs' ex H H' h h':=
  ⟨fun b o q n hb he=>u.keep b o q n (fun z=>hb (hs b o q z)) he,fun b o q n _ he=>u.any q n he,u.free,u.there,u.tups,u.frzs,u.tbls⟩
theorem bK.there {P:Program}{w:World}{H:Hp}{h:Heap}{a:Addr}{o:HO}(x:bK P w H h a o):∃ob,h.get? a=some ob:=by
  cases o with
  | lst xs=>obtain ⟨_,_,_,_,e⟩:=x;exact ⟨_,e⟩
  | tup xs=>obtain ⟨_,_,_,p⟩:=x;obtain ⟨o,e,_⟩:=p;exact ⟨o,e⟩
  | dK kvs=>obtain ⟨_,_,_,_,o,_,_,e,_⟩:=x;exact ⟨_,e⟩
  | dT kvs=>obtain ⟨_,_,_,_,o,_,_,e,_⟩:=x;exact ⟨_,e⟩
  | set S n=>obtain ⟨o,_,_,_,e,_⟩:=x;exact ⟨_,e⟩
  | ins C dx fs=>obtain ⟨_,_,_,e,_⟩:=x;exact ⟨_,e⟩
  | own y=>obtain ⟨_,e⟩:=x;exact ⟨_,e⟩
  | xd fs=>obtain ⟨_,⟨_,_,_,e,_⟩,_⟩:=x;exact ⟨_,e⟩
  | rng lo hi=>obtain ⟨_,_,_,e⟩:=x;exact ⟨_,e⟩
  | frz ob u=>obtain ⟨e,_⟩:=x;exact ⟨_,e⟩
  | tbl ps=>exact ⟨_,show h.get? a=some _ from x⟩
  | met f y=>exact ⟨_,show h.get? a=some _ from x⟩
  | ext φ=>obtain ⟨_,⟨_,e⟩,_⟩:=x;exact ⟨_,e⟩
theorem cg.none_of {P:Program}{w:World}{H:Hp}{h:Heap}(x:cg P w H h){a:Addr}(e:h.get? a=none):H a=none:=by
  cases q:H a with
  | none=>rfl
  | some u=>
    obtain ⟨ob,r⟩:=bK.there (x a u q)
    rw [e] at r;cases r
theorem vj {P:Program}{w:World}{fs:List Addr}{H:Hp}{h h':Heap}(hok:cg P w H h)(hf:∀b∈fs,H b=none)(st:(PySem.W.hideAll h fs).StaysIn h')(up:∀b o,h.get? b=some o→b∈fs→∃sl,h'.get? b=some {o with slots:=sl}):
    Un fs [] H H h h'∧cg P w H h':=by
  have keep:∀b o,h.get? b=some o→b∉fs→h'.get? b=some o:=fun b o q hb=>st b o (PySem.W.hideAll_get fs q hb)
  refine ⟨⟨fun b o q _ hb _=>keep b o q hb,fun b o q _ hb _=>up b o q hb,fun _ _ _ n _=>n,fun b o q _=>?_,fun _ _ q=>q,fun _ _ _ q=>q,fun _ ps q=>⟨#[],by rw [q];simp⟩⟩,fun b u q=>?_⟩
  · by_cases hb:b∈fs
    · obtain ⟨sl,e⟩:=up b o q hb;exact ⟨_,e⟩
    · exact ⟨o,keep b o q hb⟩
  · refine (hok b u q).gC (fun c v hc r=>keep c v r fun z=>?_) (fun _ r=>r) fun _ _ r=>r
    have n:=hf c z
    rcases hc with rfl | hc
    · rw [q] at n;cases n
    · rw [hc] at n;cases n
theorem eI {fs:List Addr}{H H':Hp}{h h':Heap}(u:Un fs [] H H' h h'){b:Addr}(e:h'.get? b=none):h.get? b=none:=by
  cases q:h.get? b with
  | none=>rfl
  | some o=>
    obtain ⟨o',r⟩:=u.there b o q List.not_mem_nil
    rw [e] at r;cases r
theorem mY {P:Program}{w:World}{K:PySem.W.Frag}{mg:Str→Option Value}{base:Heap}{N:List Str}{qual:Str}{scope:Scope}{f:Addr}{cd:Value}{A:Around}{outer:List Env}{s:Shared}{H:Hp}{E:XK}
    {pins:List (Addr×Obj)} {σ:St} {H1:Hp} {s1:Shared} {h2:Heap} {e:Addr} {cls:Value} {args:List Value} (I:Inv (bF (eB P w) P w K mg base N qual scope f cd A outer s H E) pins σ H1 s1)
    (m:Heap.MadeExcOf s1.heap h2 e cls args) (q:E cls none H1):(bF (eB P w) P w K mg base N qual scope f cd A outer s H E).xe (.ref e) {s1 with heap:=h2}:=by
  have hst:s1.heap.FunFrames base (envOfC qual scope s.heap.objs.size f cd::outer):=I.stack
  have hfree:∀b∈bV (envOfC qual scope s.heap.objs.size f cd::outer),H1 b=none:=I.fE
  show wpAny (model P w) (A.deeper (envOfC qual scope s.heap.objs.size f cd)) (leaving (envOfC qual scope s.heap.objs.size f cd) (.ref e)) _ _ _
  refine wpAny_leaves_madeW (h:=s1.heap) (base:=PySem.W.hideAll s1.heap (bV (envOfC qual scope s.heap.objs.size f cd::outer))) I.ok.frames rfl (fun b o z=>PySem.W.of_hideAll _ z) (iA hst fun _ z=>z) m fun h' t fl _ _ up=>?_
  obtain ⟨st,hen,hfr,oe,vs,T,oT,ts,he,hc,hd,h1,hnT,hTe,hT,hdT,h3⟩:=fl
  have up2:∀b o,s1.heap.get? b=some o→b∈bV (envOfC qual scope s.heap.objs.size f cd::outer)→∃sl,h'.get? b=some {o with slots:=sl}:=fun b o r z=>by
    obtain ⟨_,o2,r2,nf⟩:=hst.mem z
    rw [r] at r2;cases r2
    exact up b o (m.keeps b o r) nf
  obtain ⟨un,hok⟩:=vj (P:=P) (w:=w) I.hok hfree st up2
  have nT:s1.heap.get? T=none:=by
    cases r:s1.heap.get? T with
    | none=>rfl
    | some o=>
      exfalso
      by_cases z:T∈bV (envOfC qual scope s.heap.objs.size f cd::outer)
      · obtain ⟨_,o2,r2,nf⟩:=hst.mem z
        rw [r] at r2;cases r2
        obtain ⟨sl,r3⟩:=up2 T o r z
        rw [hT] at r3;cases r3
        exact nf ts hdT
      · rw [PySem.W.hideAll_get _ r z] at hnT;cases hnT
  have base0:Un (bV outer) [] H H1 s.heap s1.heap:=I.base
  have un2:Un (bV outer) [] H H1 s.heap h':=by
    refine Un.shrink ((base0.mono (fs':=bV (envOfC qual scope s.heap.objs.size f cd::outer)) (fun b z=>?_) fun _ z=>z).trans un) fun b o r z=>?_
    · show b∈(envOfC qual scope s.heap.objs.size f cd::outer).filterMap (·.frame)
      rw [List.filterMap_cons]
      exact List.mem_cons_of_mem _ z
    · have z':b∈(envOfC qual scope s.heap.objs.size f cd::outer).filterMap (·.frame):=z
      rw [List.filterMap_cons] at z'
      rcases List.mem_cons.mp z' with y | y
      · have:=Heap.lt_size r
        rw [y] at this
        exact absurd this (Nat.lt_irrefl _)
      · exact y
  exact ⟨e,T,cls,H1,rfl,I.os,I.bare,un2,hok,⟨⟨oe,vs,oT,ts,_,he,hc,hd,h1,hTe,hT,hdT,h3⟩,eI base0 m.new,eI base0 nT,cg.none_of I.hok m.new,cg.none_of I.hok nT⟩,q⟩
abbrev Ar:List Value:=[.type "ValueError",.type "Exception",.type "BaseException",.type "object"]
structure iY (K:PySem.W.Frag) (mg:Str→Option Value) (x:Str) (C:Addr):Prop where
  bound:mg x=some (.ref C)
  here:PySem.W.excIn K C Ar "ValueError.__new__"=true
theorem iY.own {K:PySem.W.Frag}{mg:Str→Option Value}{x:Str}{C:Addr}(c:iY K mg x C){h:Heap}(X:K.In h):OwnCls x C Ar "ValueError.__new__" mg h:=by
  refine ⟨c.bound,?_⟩
  have q:=c.here
  unfold PySem.W.excIn at q
  split at q
  · rename_i dd cd sl ho
    split at q
    · rename_i C' bm k0 k1 k2 k3 n k5 hm hs
      simp only [Bool.and_eq_true,beq_iff_eq,Bool.not_eq_true'] at q
      obtain ⟨⟨⟨⟨⟨rfl,rfl⟩,hdel⟩,ht⟩,hok⟩,hni⟩:=q
      obtain ⟨nm,bs,mro,ns,qn,hd,sn,sub,ab,col,del⟩:=cd
      dsimp only at hm hdel hok hni
      subst hm hdel
      have hsl:sl= #[k0,k1,k2,k3,some (.builtin "ValueError.__new__"),k5]:=by
        obtain ⟨l⟩:=sl
        simp only at hs
        rw [hs]
      subst hsl
      exact ⟨bm,ns,nm,qn,bs,hd,sn,sub,ab,col,dd,k0,k1,k2,k3,k5,_,X _ _ ho,.of_isNs (PySem.W.isNs_of_in X hok),PySem.W.nsMap_none_of_in X hok hni,PySem.W.tail_of_in X ht⟩
    · cases q
  · cases q
section
variable {X:Cx}{Γ Γ1:Ga}
noncomputable def RS (X:Cx)(H0 R0:Hp)(sts:List Stmt)(Γ:Ga):Prop:=∀(σ:St) (H R:Hp),aq X.K σ H0 R0 H R Γ→∀D:Ends,gq X sts D σ H
theorem j6.bR {st:Stmt}{D:Ends}{σ:St}{H:Hp}(h:j6 X.bR st D σ H):j6 X st D σ H:=fun pins s I=>
  wpAny_mono (h pins s (I.fD _)) (fun _ _ q=>q.d7) fun _ _ z=>False.elim z
theorem j5.bR {e:Expr}{Q:Bool→Hp→Prop}{σ:St}{H:Hp}(h:j5 X.bR e σ H Q):j5 X e σ H Q:=fun pins s I=>
  wpAny_mono (h pins s (I.fD _)) (fun _ _ ⟨H',I',q⟩=>⟨H',I'.d7,q⟩) fun _ _ z=>False.elim z
theorem gz {H0 R0:Hp}{st:Stmt}{rest:List Stmt}{N1:Ga→Prop}(h1:W1 X.bR st Γ N1 (fun _ _ _ _=>False))(h2:∀Γ',N1 Γ'→RS X H0 R0 rest Γ'):RS X H0 R0 (st::rest) Γ:=fun σ H R E D=>by
  refine fun pins s I=>wpAny_execs_cons (aR (j6.bR (h1 σ H0 R0 H R E {nx:=fun σ' H'=>gq X rest D σ' H',rt:=fun _ _=>False,bk:=fun _ _=>False,ct:=fun _ _=>False} (fun σ' H' R' Γ' E' _ n=>h2 Γ' n σ' H' R' E' D) fun _ _ _ _ z=>z) pins s I) fun f s1 q=>?_)
  cases f with
  | next=>
    obtain ⟨σ',H',I',q⟩:=q
    exact q pins s1 I'
  | brk=>obtain ⟨_,_,_,q⟩:=q;exact q.elim
  | cont=>obtain ⟨_,_,_,q⟩:=q;exact q.elim
  | ret u=>obtain ⟨_,_,_,_,_,q⟩:=q;exact q.elim
theorem jw {H0 R0:Hp}{c:Expr}{a b rest:List Stmt}{pos:Pos}(hc:TV X.bR c Γ true Γ1)(h:RS X H0 R0 a Γ1):RS X H0 R0 (.If c a b pos::rest) Γ:=fun σ H R E D=>by
  refine fun pins s I=>wpAny_execs_cons ?_
  have:=j5.bR (hc σ H0 R0 H R E (fun b H'=>b=true∧∀D,gq X a D σ H') fun H' R' E' _=>⟨rfl,fun D=>h σ H' R' E' D⟩) pins s I
  refine PySem.wpAny_If (aR this fun b s1 ⟨H',I',hb,q⟩=>?_)
  subst hb
  rw [if_pos rfl]
  refine aR (q {nx:=fun _ _=>False,rt:=fun _ _=>False} pins s1 I') fun f s2 z=>?_
  cases f with
  | next=>obtain ⟨_,_,_,z⟩:=z;exact z.elim
  | brk=>obtain ⟨_,_,_,z⟩:=z;exact z.elim
  | cont=>obtain ⟨_,_,_,z⟩:=z;exact z.elim
  | ret u=>obtain ⟨_,_,_,_,_,z⟩:=z;exact z.elim
end
theorem gJ {P:Program}{w:World}{K:PySem.W.Frag}{mg:Str→Option Value}{base:Heap}{N:List Str}{qual:Str}{scope:Scope}{f:Addr}{cd:Value}{A:Around}{outer:List Env}{s:Shared}{H R:Hp}{E:XK}{Γ:Ga}
    {x:Str} {C:Addr} {np cp pos sp:Pos} {txt:Str} {j:Nat} {rest:List Stmt} (hC:iY K mg x C) (q:∀H' R',Ext H R H' R'→E (.ref C) none H')
    (hg:autoParam (Gl (bF (eB P w) P w K mg base N qual scope f cd A outer s H E) x) Fc.ai) (hdb:autoParam ((x==("__debug__":Str))=false) Fc.aw):
    RS (bF (eB P w) P w K mg base N qual scope f cd A outer s H E) H R (.Raise (some (.Call (.Name x np) [.Constant (.str txt) j sp] [] cp)) none pos::rest) Γ:=fun σ H1 R1 EO D pins s1 I=>by
  refine wpAny_execs_cons ?_
  obtain ⟨bm,Nn,nm,qn,bs,hdct,sn,sub,ab,col,dd,k0,k1,k2,k3,k5,mN,hCo,hN,hni,TL⟩:=(hC.own I.dj).obj
  refine wpAny_Raise_call_subT (C:=C) (nm:=nm) (q:=qn) (N:=Nn) (bs:=bs) (bm:=bm) (hdct:=hdct) (sn:=sn) (sub:=sub) (ab:=ab) (col:=col) (dd:=dd) (k0:=k0) (k1:=k1) (k2:=k2) (k3:=k3) (k5:=k5) (mN:=mN) PySem.F.excBase_ValueError (TL.hasType PySem.F.excBase_ValueError.hasBase) (I.ok.hd rfl) rfl hni (fb I hg hC.bound ⟨rfl,?_⟩ hdb)
  refine Calls.evalArgs_plain (Calls.spliced_cons (Calls.Constant_str (k:=j) (pos:=sp) (Calls.spliced_nil ⟨rfl,by show 1≤sizeLine;decide,hCo,hN,TL,fun h' e m=>?_⟩)))
  exact mY (I.tok _) m (q H1 R1 EO.ext)
inductive Out
  | ret (T:RT)
  | exc (cls:Value)
noncomputable abbrev fh:=PySem.W.Frag→List Pk→Out→Prop
noncomputable def Out.meets (H R:Hp)(Q:VK)(E:XK):Out→Prop
  | .ret T=>∀v H' R',Ext H R H' R'→T H v H' R'→Q v H'
  | .exc c=>∀H' R',Ext H R H' R'→E c none H'
noncomputable def bS (S:fh)(K:PySem.W.Frag):Sp:=fun vs H Q E=>∃R ps o,au R H∧ff K R vs ps∧S K ps o∧o.meets H R Q E
structure bz (P:Program) (w:World) (K:PySem.W.Frag) (mg:Str→Option Value) (base:Heap) (x:Str) (k:Nat) (sp:Sp):Prop where
  ex:∃f fd ps,et P w K mg base (eB P w) k f fd ps sp∧mg x=some (.ref f)∧PySem.W.keepIn K (.ref f)=true∧Binds K fd ps []
theorem bz.mono {P:Program}{w:World}{K:PySem.W.Frag}{mg:Str→Option Value}{base:Heap}{x:Str}{j k:Nat}{sp:Sp}(c:bz P w K mg base x j sp)(h:j≤k):bz P w K mg base x k sp:=by
  obtain ⟨f,fd,ps,F,a,b,c⟩:=c.ex
  exact ⟨f,fd,ps,F.mono h,a,b,c⟩
section
variable {P:Program}{w:World}{K:PySem.W.Frag}{mg:Str→Option Value}{base:Heap}
theorem kG {S:fh}{x qual:Str}{st:Stmt}{f:Addr}{fd:FuncData}{N ps:List Str}{k:Nat}(F:bh K x qual st f fd)(Sc:ax N ps (ah st))(hm:mg x=some (.ref f))(hb:Binds K fd ps [])(len:∀qs o,S K qs o→qs.length=ps.length)
    (hret:∀(cdv:Value) (A:Around) (outer:List Env) (s:Shared) (H:Hp) (E:XK) (qs:List Pk) (T:RT),bt k (A.deeper (envOfC qual (ah st) s.heap.objs.size f cdv))→S K qs (.ret T)→
      WS (bF df P w K mg base N qual (ah st) f cdv A outer s H E).bR (bo st) (dc qs N.length) (fun _=>False) T)
    (hexc:∀(cdv:Value) (A:Around) (outer:List Env) (s:Shared) (H R:Hp) (E:XK) (qs:List Pk) (c:Value),bt k (A.deeper (envOfC qual (ah st) s.heap.objs.size f cdv))→S K qs (.exc c)→(∀H' R',Ext H R H' R'→E c none H')→
      RS (bF (eB P w) P w K mg base N qual (ah st) f cdv A outer s H E) H R (bo st) (dc qs N.length)):bz P w K mg base x (k + 1) (bS S K):=by
  obtain ⟨oc,od,kV,doc,pm,an,cdv,ct,osl,rfl,lk,hcd⟩:=F.ex
  refine ⟨f,_,ps,?_,hm,F.kp,hb⟩
  refine qp lk hcd Sc (fun vs H Q E h=>?_) (fun A outer s H vs Q E hr h=>?_)
  · obtain ⟨R,qs,o,_,p,hS,_⟩:=h
    rw [p.length];exact len qs o hS
  · obtain ⟨R,qs,o,sR,p,hS,q⟩:=h
    have hl:qs.length≤N.length:=by
      rw [len qs o hS]
      have:=congrArg List.length Sc.pre
      rw [List.length_take] at this
      omega
    cases o with
    | ret T=>
      have hw:=hret cdv A outer s H E qs T hr hS (L2.start N vs) H R H R (dq sR p hl) {nx:=fun _ H'=>Q .non H',rt:=Q} (fun _ _ _ _ _ _ f=>f.elim) fun v H' R' xx t=>q v H' R' xx t
      have hp:f9 (bF (eB P w) P w K mg base N qual (ah st) f cdv A outer s H E).bR (bo st) (gq (bF (eB P w) P w K mg base N qual (ah st) f cdv A outer s H E).bR (bo st)):=dB
      exact ⟨_,hp.bR,hw⟩
    | exc c=>exact ⟨_,dB,hexc cdv A outer s H R E qs c hr hS q (L2.start N vs) H R (dq sR p hl) _⟩
end
noncomputable abbrev gH (X:Cx)(e:Addr)(o:Obj):Cx:={X with pn:=(e,o)::X.pn}
theorem Ok.pin {X:Cx}(ok:X.Ok)(e:Addr)(o:Obj):(gH X e o).Ok:=
  ⟨ok.mod,ok.kind,ok.glob,ok.blt,ok.above,ok.inj,ok.has,ok.cab,ok.hd,ok.frames,ok.stk,ok.exf,ok.bs,ok.bsz,ok.noex,ok.exfs,ok.funs,ok.frf⟩
theorem Ok.ql {X:Cx}{e:Addr}{o:Obj}(ok:(gH X e o).Ok):X.Ok:=
  ⟨ok.mod,ok.kind,ok.glob,ok.blt,ok.above,ok.inj,ok.has,ok.cab,ok.hd,ok.frames,ok.stk,ok.exf,ok.bs,ok.bsz,ok.noex,ok.exfs,ok.funs,ok.frf⟩
section
variable {X:Cx}{pins:List (Addr×Obj)}{σ:St}{H:Hp}{s:Shared}{e:Addr}{o:Obj}
theorem Inv.pinned (I:Inv X pins σ H s)(h:s.heap.get? e=some o∧H e=none∧e≠X.env.locals∧e∉X.fs∧∀v,o.data≠ .cell v):Inv (gH X e o) pins σ H s:=
  ⟨Ok.pin I.ok e o,I.os,I.bare,I.base,I.loc,I.cell,I.free,I.freeC,fun p hp=>by
    rcases List.mem_cons.mp hp with rfl | hp
    · exact h
    · exact I.pin p hp,I.hok,I.len⟩
theorem Inv.eo (I:Inv (gH X e o) pins σ H s):Inv X pins σ H s:=
  ⟨Ok.ql I.ok,I.os,I.bare,I.base,I.loc,I.cell,I.free,I.freeC,fun p hp=>I.pin p (List.mem_cons_of_mem _ hp),I.hok,I.len⟩
theorem SP.ql {D:Ends}{f:Flow}{s':Shared}(h:SP (gH X e o) pins D f s'):SP X pins D f s':=by
  cases f with
  | next=>obtain ⟨σ',H',I,q⟩:=h;exact ⟨σ',H',Inv.eo I,q⟩
  | brk=>obtain ⟨σ',H',I,q⟩:=h;exact ⟨σ',H',Inv.eo I,q⟩
  | cont=>obtain ⟨σ',H',I,q⟩:=h;exact ⟨σ',H',Inv.eo I,q⟩
  | ret u=>obtain ⟨v,σ',H',I,r,q⟩:=h;exact ⟨v,σ',H',Inv.eo I,r,q⟩
noncomputable abbrev markX (X:Cx)(v:Value):Cx:={X with A:=X.A.mark (some v),calm:=false,xe:=fun _ _=>False}
theorem Inv.marked (I:Inv X pins σ H s)(v:Value):Inv (markX X v) pins σ H s:=
  ⟨⟨I.ok.mod,I.ok.kind,I.ok.glob,I.ok.blt,I.ok.above,I.ok.inj,I.ok.has,I.ok.cab,(fun z=>by cases z),I.ok.frames,I.ok.stk,I.ok.exf,I.ok.bs,I.ok.bsz,I.ok.noex,I.ok.exfs,I.ok.funs,I.ok.frf⟩,
    I.os,I.bare,I.base,I.loc,I.cell,I.free,I.freeC,I.pin,I.hok,I.len⟩
theorem Inv.unmarked {v:Value}(c:X.calm=true→X.A.handled=none)(I:Inv (markX X v) pins σ H s):Inv X pins σ H s:=
  ⟨⟨I.ok.mod,I.ok.kind,I.ok.glob,I.ok.blt,I.ok.above,I.ok.inj,I.ok.has,I.ok.cab,c,I.ok.frames,I.ok.stk,I.ok.exf,I.ok.bs,I.ok.bsz,I.ok.noex,I.ok.exfs,I.ok.funs,I.ok.frf⟩,
    I.os,I.bare,I.base,I.loc,I.cell,I.free,I.freeC,I.pin,I.hok,I.len⟩
theorem su {M:Model}{A:Around}{E:Value→Shared→Prop}{i:Nat}{x:Str}{pos:Pos}{Q:Unit→Shared→Prop}(I:Inv X pins σ H s)(hN:X.N.Nodup)(hi:X.N[i]?=some x)(hk:X.env.scope.names.lookup x=some .local)
    (h:∀s',Inv X pins (σ.set i none) H s'→Q () s'):wpAny M A (do bindName X.env x .none;unbindBehindTheSuite X.env x pos) Q E s:=by
  obtain ⟨m,hn,hl⟩:=id I.loc
  have hcls:(X.env.scope.kind== .class ||(X.env.scope.kind== .module&&X.env.locals != X.env.globals))=false:=by rw [I.ok.kind];rfl
  have cne:=I.cne
  refine wpAny_nameGoes_keeps hk hn hcls fun h' v hn' hs=>?_
  obtain ⟨oL,_,_,hoL,_⟩:=id hn
  have tracked:cg X.prog X.w H h':=fun b ob e=>by
    refine (I.hok b ob e).gC (fun c w' hc q=>(hs.2 c ?_).trans q) (fun _ q=>q) fun _ _ q=>q
    rintro rfl
    rcases hc with rfl | hc
    · rw [I.free] at e;cases e
    · rw [I.free] at hc;cases hc
  refine h _ ⟨I.ok,I.os,I.bare,⟨fun b o e n hb hx=>?_,fun b o e n hb hx=>?_,I.base.free,fun b o e hx=>?_,I.base.tups,I.base.frzs,I.base.tbls⟩,⟨_,hn',fun j y v' e1 e2 e3=>?_⟩,fun y c e=>?_,I.free,I.freeC,fun p hp=>?_,tracked,by simpa using I.len⟩
  · exact (hs.2 b (Nat.ne_of_lt (Nat.lt_of_lt_of_le (Heap.lt_size e) I.ok.above))).trans (I.base.keep b o e n hb hx)
  · obtain ⟨sl,e1⟩:=I.base.slot b o e n hb hx
    exact ⟨sl,(hs.2 b (Nat.ne_of_lt (Nat.lt_of_lt_of_le (Heap.lt_size e) I.ok.above))).trans e1⟩
  · obtain ⟨o',e1⟩:=I.base.there b o e hx
    exact ⟨o',(hs.2 b (Nat.ne_of_lt (Nat.lt_of_lt_of_le (Heap.lt_size e) I.ok.above))).trans e1⟩
  · by_cases hj:j=i
    · subst hj
      rw [List.getElem?_set] at e2
      split at e2
      · split at e2<;>cases e2
      · rename_i z;exact absurd rfl z
    · rw [List.getElem?_set_ne (Ne.symm hj)] at e2
      obtain ⟨u',r',q⟩:=hl j y v' e1 e2 e3
      refine ⟨u',r',?_⟩
      rcases q with ⟨k,e⟩ | ⟨k,c,e,z⟩
      · refine .inl ⟨k,?_⟩
        have:y≠x:=fun e=>hj (kn hN e1 (e▸hi))
        simp [this,e]
      · exact .inr ⟨k,c,e,z.sameBut hs (cne y c e)⟩
  · obtain ⟨w',z⟩:=I.cell y c e
    exact ⟨w',z.sameBut hs (cne y c e)⟩
  · obtain ⟨e,n,ne,nf,d⟩:=I.pin p hp
    exact ⟨(hs.2 p.1 ne).trans e,n,ne,nf,d⟩
end
theorem h9.bR {X:Cx}{es:List Expr}{Q:List V→Hp→Prop}{σ:St}{H:Hp}(h:h9 X.bR es σ H Q)(E:Value→Shared→Prop):∀(pos:Pos) (pins:List (Addr×Obj)) (s:Shared),Inv X pins σ H s→wpAny (model X.prog X.w) X.A (spliced (backTo pos (starEach es X.env))) (AP X pins σ Q) E s:=fun pos pins s I=>
  wpAny_mono (h pos pins s (I.fD _)) (fun _ _ ⟨vs,H',I',r,q⟩=>⟨vs,H',I'.d7,r,q⟩) fun _ _ z=>False.elim z
theorem ng {X:Cx}{S:fh}{x:Str}{k:Nat}{e:Expr}{es:List Expr}{p pos:Pos}{ps:List Pk}{cls:Value}{σ:St}{H0 R0 H R:Hp}{Γ Γ1:Ga}{pins:List (Addr×Obj)}{s:Shared}{Q:Value→Shared→Prop}{Ex:Value→Shared→Prop}
    (C:bz X.prog X.w X.K X.mg X.base x k (bS S X.K)) (hr:bt k X.A) (ha:HA X.bR (e::es) Γ ps Γ1) (hS:S X.K ps (.exc cls)) (E:aq X.K σ H0 R0 H R Γ) (I:Inv X pins σ H s)
    (q:∀s1 H1 ea T H' R' s',Inv X pins σ H1 s1→s'.os=s1.os→AllBare s'.gens→Un (bV X.stack) [] H1 H' s1.heap s'.heap→cg X.prog X.w H' s'.heap→rQ s1.heap s'.heap H' ea T cls→aq X.K σ H0 R0 H' R' Γ1→au R R'→Ex (.ref ea) s')
    (hg:Gl X x) (hdb:(x==("__debug__":Str))=false) (he:starEach (e::es) X.env=(false,eval e X.env)::starEach es X.env) (hpl:(backTo pos (starEach es X.env)).any (·.1)=false):
    wpAny (model X.prog X.w) X.A (eval (.Call (.Name x p) (e::es) [] pos) X.env) Q Ex s:=by
  obtain ⟨f,fd,pn,F,hm,hk,hb⟩:=C.ex
  refine wpAny_Call_Name_kw (fb I hg hm ?_ hdb)
  refine PySem.W.callWith_K (h₀:=X.base) I.ok.mod.kin hk (aR (h9.bR (ha σ H0 R0 H R E (fun vs H1=>∃R1,aq X.K σ H0 R0 H1 R1 Γ1∧au R R1∧ff X.K R1 vs ps) fun vs H1 R1 E1 s1 p1=>⟨R1,E1,s1,p1⟩) Ex pos pins s I) fun us s1 ⟨vs,H1,I1,r,R1,E1,sR,p1⟩=>⟨I1.dj,?_⟩) he hpl
  have r2:Vals (vs++[]) (us++[]):=by rw [List.append_nil,List.append_nil];exact r
  have sp:bS S X.K (vs++[]) H1 (fun _ _=>False) (fun c _ H'=>c=cls∧∃R',Ext H1 R1 H' R'):=⟨R1,ps,.exc cls,E1.sub,by rw [List.append_nil];exact p1,hS,fun H' R' xx=>⟨rfl,R',xx⟩⟩
  have hl:(us++[]).length=pn.length:=by rw [← r2.length];exact F.len _ _ _ _ sp
  refine wpAny_call (codeAny_mono (F.run X.A X.stack s1 H1 ⟨us,[]⟩ (us++[]) (vs++[]) _ _ hr I1.qF (hb s1 us I1.dj hl) r2 sp) fun r s' hq=>?_)
  cases r with
  | error ev=>
    obtain ⟨ea,T,c,H',rfl,ho,bare,un,hok,fly,rfl,R',xx⟩:=hq
    exact q s1 H1 ea T H' R' s' I1 ho bare un hok fly (E1.grow xx) (sR.trans xx.r)
  | ok fl=>
    cases fl with
    | ret u=>obtain ⟨_,_,_,_,_,_,_,z⟩:=hq;exact z.elim
    | next=>exact False.elim hq
    | brk=>exact False.elim hq
    | cont=>exact False.elim hq
theorem nG {P:Program}{w:World}{fs:List Addr}{H1 H':Hp}{h1 h' h2:Heap}{e T:Addr}{cls:Value}(u:Un fs [] H1 H' h1 h')(hok:cg P w H' h')(fly:rQ h1 h' H' e T cls)(hf:∀b∈fs,H' b=none)
    (st:(PySem.W.hideAll h' (e::T::fs)).StaysIn h2) (up:∀b o,h'.get? b=some o→b∈fs→∃sl,h2.get? b=some {o with slots:=sl}):Un fs [] H1 H' h1 h2∧cg P w H' h2:=by
  have keep:∀b o,h'.get? b=some o→b∉fs→b≠e→b≠T→h2.get? b=some o:=fun b o q hb n1 n2=>st b o (PySem.W.hideAll_get _ q fun z=>by
    rcases List.mem_cons.mp z with z | z
    · exact n1 z
    · rcases List.mem_cons.mp z with z | z
      · exact n2 z
      · exact hb z)
  have n1:∀b o,h1.get? b=some o→b≠e:=fun b o q z=>by rw [z,fly.ne] at q;cases q
  have n2:∀b o,h1.get? b=some o→b≠T:=fun b o q z=>by rw [z,fly.nT] at q;cases q
  refine ⟨⟨fun b o q n hb hx=>keep b o (u.keep b o q n hb hx) hb (n1 b o q) (n2 b o q),fun b o q n hb hx=>?_,u.free,fun b o q hx=>?_,u.tups,u.frzs,u.tbls⟩,fun b x q=>?_⟩
  · obtain ⟨sl,r⟩:=u.slot b o q n hb hx
    obtain ⟨sl',r'⟩:=up b _ r hb
    exact ⟨sl',r'⟩
  · obtain ⟨o',r⟩:=u.there b o q hx
    by_cases hb:b∈fs
    · obtain ⟨sl',r'⟩:=up b _ r hb;exact ⟨_,r'⟩
    · exact ⟨_,keep b o' r hb (n1 b o q) (n2 b o q)⟩
  · refine (hok b x q).gC (fun c v hc r=>?_) (fun _ r=>r) fun _ _ r=>r
    have hc':H' c≠none:=by
      rcases hc with rfl | hc
      · rw [q];exact Option.some_ne_none _
      · rw [hc];exact Option.some_ne_none _
    exact keep c v r (fun z=>hc' (hf c z)) (fun z=>hc' (z▸fly.fe)) fun z=>hc' (z▸fly.fT)
theorem fo {h h' b0 h0:Heap}{fs:List Addr}:∀{l:List Env},h.FunFrames b0 l→(∀b∈bV l,∀o,h.get? b=some o→∃sl,h'.get? b=some {o with slots:=sl})→(∀b∈bV l,b∈fs)→h'.FunFrames (PySem.W.hideAll h0 fs) l
  | [],_,_,_=>trivial
  | env::rest,hl,hk',hs=>by
    obtain ⟨hk,⟨L,o,hf,hn,ho,hd⟩,hr⟩:=hl
    have hL:L∈bV (env::rest):=by
      show L∈(env::rest).filterMap (·.frame)
      rw [List.filterMap_cons,hf];exact List.mem_cons_self
    have hT:∀b∈bV rest,b∈bV (env::rest):=fun b hb=>by
      show b∈(env::rest).filterMap (·.frame)
      rw [List.filterMap_cons,hf];exact List.mem_cons_of_mem _ hb
    obtain ⟨sl,e⟩:=hk' L hL o ho
    exact ⟨hk,⟨L,_,hf,PySem.W.hideAll_none fs (hs L hL),e,hd⟩,fo hr (fun b hb=>hk' b (hT b hb)) fun b hb=>hs b (hT b hb)⟩
theorem zl {X:Cx}{cls:Value}{σ:St}{H1 H':Hp}{pins:List (Addr×Obj)}{s1 s':Shared}{e T:Addr}{Q:Flow→Shared→Prop}{ce n y:Str}{CE:Addr}{np p1 p2 p3 hp:Pos}{i j:Nat}
    (I1:Inv X pins σ H1 s1) (ho:s'.os=s1.os) (bare:AllBare s'.gens) (un:Un (bV X.stack) [] H1 H' s1.heap s'.heap) (hok:cg X.prog X.w H' s'.heap) (fly:rQ s1.heap s'.heap H' e T cls)
    (hst:X.stack=X.env::X.outer) (hef:X.env.frame=some X.env.locals) (hm:X.mg ce=some (.ref CE)) (hx:PySem.W.exmOne X.K cls (.ref CE)=some true) (hg:Gl X ce) (hdb:(ce==("__debug__":Str))=false)
    (hN:X.N.Nodup) (hi:X.N[i]?=some n) (hj:X.N[j]?=some y) (hin:X.env.scope.names.lookup n=some .local) (hjy:X.env.scope.names.lookup y=some .local)
    (hs:swapsWith (.Name n p2) (some (.Name y p1)) p3.line X.env=pure false) (hnd:(n==("__debug__":Str))=false) (hnc:(n==("__classdict__":Str))=false)
    (q:∀oe s6,oe.cls=cls→Inv (gH X e oe) pins (((σ.set i (some (.ref e))).set j (some (.ref e))).set i none) H' s6→Q .next s6):
    wpAny (model X.prog X.w) X.A (noteFrame (.ref e) X.env) (fun _ s₂=>wpAny (model X.prog X.w) X.A (setFlight (.ref e) none) (fun _ s₃=>
      wpAny (model X.prog X.w) X.A (handleBy (.ref e) X.env [.ExceptHandler (some (.Name ce np)) (some n) [.Assign [.Name y p1] (.Name n p2) p3] hp]) Q X.xe s₃) X.xe s₂) X.xe s':=by
  have hA:X.A.frames=some (X.env::X.outer):=by rw [← hst];exact I1.ok.frames
  have hfs:∀b∈bV X.stack,H' b=none:=fun b hb=>by
    obtain ⟨_,o,r,_⟩:=I1.stack.mem hb
    exact un.free b o r (I1.fE b hb) List.not_mem_nil
  have hsl:∀b∈bV X.stack,∀o,s1.heap.get? b=some o→∃sl,s'.heap.get? b=some {o with slots:=sl}:=fun b hb o r=>un.slot b o r (I1.fE b hb) hb List.not_mem_nil
  have hff:s'.heap.FunFrames (PySem.W.hideAll s'.heap (e::T::bV X.stack)) (X.env::X.outer):=by
    have:=fo (h0:=s'.heap) (fs:=e::T::bV X.stack) I1.stack hsl fun b hb=>List.mem_cons_of_mem _ (List.mem_cons_of_mem _ hb)
    rw [hst] at this ⊢;exact this
  obtain ⟨oe,vs,oT,ts,a0,he,hc,hd,h1,hTe,hT,hdT,h3⟩:=fly.ex
  have hfl:Heap.FlyingW (PySem.W.hideAll s'.heap (e::T::bV X.stack)) (X.env::X.outer) e cls a0 s'.heap:=
    ⟨fun b o z=>PySem.W.of_hideAll _ z,PySem.W.hideAll_none _ List.mem_cons_self,hff,oe,vs,T,oT,ts,he,hc,hd,h1,PySem.W.hideAll_none _ (List.mem_cons_of_mem _ List.mem_cons_self),hTe,hT,hdT,h3⟩
  have upF:∀{h2:Heap},s'.heap.UpToSlots h2→∀b o,s'.heap.get? b=some o→b∈bV X.stack→∃sl,h2.get? b=some {o with slots:=sl}:=fun {h2} up b o r hb=>by
    have hb':b∈(X.env::X.outer).filterMap (·.frame):=by rw [← hst];exact hb
    obtain ⟨_,o2,r2,nf⟩:=hff.mem hb'
    rw [r] at r2;cases r2
    exact up b o r nf
  have nL:e≠X.env.locals:=fun z=>by
    obtain ⟨m,⟨o,_,_,r,_⟩,_⟩:=id I1.loc
    rw [← z,fly.ne] at r;cases r
  have nF:e∉X.fs:=fun z=>by
    have z':e∈bV X.stack:=by
      rw [hst]
      show e∈(X.env::X.outer).filterMap (·.frame)
      rw [List.filterMap_cons,hef];exact List.mem_cons_of_mem _ z
    obtain ⟨_,o,r,_⟩:=I1.stack.mem z'
    rw [fly.ne] at r;cases r
  refine wpAny_looks_onW hA hef hfl fun h4 held4 up4=>?_
  refine wpAny_landsW held4 fun h5 fl5 up5=>?_
  obtain ⟨u5,ok5⟩:=nG un hok fly hfs fl5.1 (upF (up4.trans up5))
  have I5:Inv X pins σ H' {s' with heap:=h5}:=Inv.qv (ch:=[]) (s':={s' with heap:=h5}) I1 ho u5 ok5 bare fun b z=>absurd z List.not_mem_nil
  refine wpAny_handleBy_cons (codeAny_handlers_test (fb (Inv.marked I5 (.ref e)) hg hm ?_ hdb)) (by intro q;cases q)
  obtain ⟨oe5,vs5,he5,hc5,hd5,_⟩:=fl5.first
  have LT:PySem.W.Looks (model X.prog X.w) h5 (typeOf (.ref e)) cls:=hc5▸(PySem.W.Looks.ld he5).andThen .now
  refine (PySem.W.exm_one (M:=model X.prog X.w) (show X.K.In h5 from I5.dj) LT hx).here ?_
  refine codeAny_handlers_suite_as (lands_againW fl5 fun h6 fl6 up6=>?_)
  obtain ⟨u6,ok6⟩:=nG un hok fly hfs fl6.1 (upF ((up4.trans up5).trans up6))
  have I6:Inv X pins σ H' {s' with heap:=h6}:=Inv.qv (ch:=[]) (s':={s' with heap:=h6}) I1 ho u6 ok6 bare fun b z=>absurd z List.not_mem_nil
  obtain ⟨oe6,vs6,he6,hc6,hd6,_⟩:=fl6.first
  have I6p:Inv (gH X e oe6) pins σ H' {s' with heap:=h6}:=Inv.pinned I6 ⟨he6,fly.fe,nL,nF,fun v z=>by rw [hd6] at z;cases z⟩
  refine iM (X:=gH X e oe6) I6p hN hi (.inl hin) (v:=.ref e) rfl (fun s7 I7=>?_) (.inr hin)
  have P7:=(fv (X:=markX (gH X e oe6) (.ref e)) (i:=j) (pos:=p3) hN hj (.inl hjy) (br (i:=i) (pos:=p2) hi (.inl hin) hnd hnc) hs (.inr hjy)) pins s7 _ H' {nx:=fun σ' H2=>σ'=(σ.set i (some (.ref e))).set j (some (.ref e))∧H2=H',rt:=fun _ _=>False} (Inv.marked I7 (.ref e))
    ⟨.ref e,List.getElem?_set_self (by rw [I1.len];exact (List.getElem?_eq_some_iff.mp hi).1),rfl,rfl⟩
  refine wpAny_execs_cons (wpAny_mono P7 (fun f s8 z=>?_) fun _ _ z=>False.elim z)
  cases f with
  | next=>
    obtain ⟨σ',H2,I8,rfl,rfl⟩:=z
    refine wpAny_execs_nil ?_
    exact su (X:=gH X e oe6) (Inv.unmarked (fun _=>I6p.ok.hd (by assumption)) I8) hN hi hin fun s9 I9=>q oe6 s9 hc6 I9
  | brk=>obtain ⟨_,_,_,z⟩:=z;exact z.elim
  | cont=>obtain ⟨_,_,_,z⟩:=z;exact z.elim
  | ret u=>obtain ⟨_,_,_,_,_,z⟩:=z;exact z.elim
end Fc
namespace Fc
open PySem PySem.Spec PySem.W PySem.Calls PySem.Builtin.ObjectAttr PySem.Builtin.Getset_descriptor L2
open PyProof.Rows hiding St
noncomputable def jF (x D:Addr)(h:Heap):Prop:=∃ox,h.get? x=some ox∧ox.cls= .ref D
theorem jF.ty {M:Model}{h:Heap}{x D:Addr}(p:jF x D h):Looks M h (typeOf (.ref x)) (.ref D):=by
  obtain ⟨ox,h1,h2⟩:=p
  exact h2▸(Looks.ld h1).andThen .now
noncomputable def dg (K:Frag)(D:Addr):Bool:=(findIn K (.ref D) "__getattribute__"==some (some (.builtin "BaseException.__getattribute__")))&&(findIn K (.ref D) "__getattr__"==some none)&&(findIn K (.ref D) "__class__"==some (some (.builtin "object.__class__")))&&(specialIn K (.builtin "object.__class__") "__get__"==some (some (.builtin "getset_descriptor.__get__")))
  &&(takesIn K (.builtin "object.__class__")==some true)&&(mroIn K D (.type "object")==some true)&&(subIn K (.ref D) (.type "BaseException")==some true)&&(clsIn K D).isSome
section
variable {K:Frag}{D x:Addr}{prog:Program}{w:World}{A:Around}{E:Value→Shared→Prop}{s:Shared}
theorem tK {Q:Option Value→Shared→Prop}(e:dg K D=true)(X:K.In s.heap)(p:jF x D s.heap)(h:Q (some (.ref D)) {s with toks:=s.toks + 1}):wpAny (model prog w) A (getAttr? (.ref x) "__class__") Q E s:=by
  unfold dg at e
  simp only [Bool.and_eq_true,beq_iff_eq] at e
  obtain ⟨⟨⟨⟨⟨⟨⟨hga,hgk⟩,ha⟩,hn⟩,htk⟩,hm⟩,hsb⟩,hc⟩:=e
  obtain ⟨hh,g,d,t,os⟩:=s
  have X:K.In hh:=X
  have p:jF x D hh:=p
  have L0:=p.ty (M:=model prog w)
  have L1:=looks_findIn (M:=model prog w) X hga
  have L2:=looks_findIn (M:=model prog w) X hgk
  have LB:Looks (model prog w) hh (isSubtype (.ref D) (.type "BaseException")) true:=looks_subIn X hsb
  have F1:Looks (model prog w) hh (find (.ref x) (.ref D) "__class__") (.bind (.builtin "getset_descriptor.__get__") (.builtin "object.__class__")):=by
    refine (looks_findIn X ha).andThen ((show Looks _ hh (getOf (some (.builtin "object.__class__"))) (some (.builtin "getset_descriptor.__get__")) from looks_specialIn X hn).andThen ?_)
    exact (show Looks _ hh (dataDescriptor? (some (.builtin "object.__class__")) (some (.builtin "getset_descriptor.__get__"))) (some (.builtin "getset_descriptor.__get__",.builtin "object.__class__")) from (looks_takesIn X htk).andThen .now).andThen (Looks.tag .now)
  have M1:=looks_mroIn (M:=model prog w) X hm
  have hx2:(Value.builtin "BaseException.__getattribute__"==Value.builtin "object.__getattribute__")=false:=by decide +kernel
  have hx1:(onTheHeap (Value.ref D)&&Value.builtin "BaseException.__getattribute__"==Value.builtin "object.__getattribute__")=false:=by rw [hx2];rfl
  unfold getAttr? getAttrBy? getAttrBy
  refine wpAny_bind (wpAny_mkText (wpAny_bind (wpAny_attempt (wpAny_holding (wpAny_bind (L0.at (wpAny_bind (L1.at ?_))))))))
  dsimp only
  rw [hx1]
  simp only [Bool.false_eq_true,if_false]
  unfold getAttrByItsOwn hookBefore
  have f3:=PySem.F.attr_ValueError.ga.bind (.ref x)
  refine wpAny_bind (L2.at ?_)
  refine wpAny_bind (wpAny_attempt (wpAny_holding ?_))
  show wpAny _ _ (boundAndCalled _ _ _) _ _ _
  unfold boundAndCalled
  refine wpAny_bind (wpAny_of_eq f3 ?_)
  have hkd:builtinKind "BaseException.__getattribute__"=some .slot:=by decide +kernel
  have hsplit:splitId "BaseException.__getattribute__"=some ("BaseException","__getattribute__"):=by decide +kernel
  have hargs:=PySem.F.args_bexc_ga (.ref x) (.str "__class__" t)
  refine wpAny_call (codeAny_call_builtin PySem.F.attr_ValueError.ga.plain PySem.F.entry_bexc_ga ?_)
  show wpAny _ _ (checkBuiltinCall "BaseException.__getattribute__" ⟨[.ref x,.str "__class__" t],[]⟩) _ _ _
  simp only [checkBuiltinCall,hkd,hsplit]
  refine wpAny_bind ?_
  unfold isInstance
  repeat lk
  refine wpAny_run ?_
  refine codeAny_call_builtin KF.slot_gs.plain KF.entry_gs (KF.slot_gs.check _ _ _ _ _ _ _ _ KF.type_class (KF.args_gs _ _ _) ?_)
  unfold Builtin.«getset_descriptor.__get__» descrGet
  rw [dga_obj]
  refine wpAny_bind (wpAny_pure ?_)
  unfold descrGetter descrCheckInstance descrNameAndClass isInstance
  simp only [KF.owner_class]
  repeat lk
  refine ⟨Code.quiet_builtin _ (by decide +kernel),codeAny_builtin KF.entry_class ?_⟩
  unfold Builtin.«object.__class__» shownTypeOf
  repeat lk
  exact h
theorem oI (e:dg K D=true):KitX K (.ref x) (.ref D) (jF x D) where
  ty:=fun _ _ _ p=>p.ty
  it:=fun _ _ X _=>by
    unfold dg at e
    rw [Bool.and_eq_true] at e
    have hc:=e.2
    unfold clsIn at hc
    split at hc
    · rename_i c' d' cd' sl' ho
      intro A' Q' E' s' k q
      unfold isType loadHead
      exact wpAny_bind (wpAny_loadPart (k _ _ (X _ _ ho)) (wpAny_pure q))
    · cases hc
  ne:=fun h tp dd its n sl X htp=>by
    unfold dg at e
    rw [Bool.and_eq_true] at e
    have hc:=e.2
    refine Bool.eq_false_iff.mpr fun q=>?_
    have z:D=tp:=Value.ref.inj (beq_iff_eq.mp q)
    subst z
    unfold clsIn at hc
    split at hc
    · rename_i c' d' cd' sl' ho
      have z:=(X _ _ ho).symm.trans htp
      cases z
    · cases hc
  ca:=fun X p k=>tK e X p k
end
section
variable {X:Cx}{Γ Γ1:Ga}{ea D:Addr}{oe:Obj}
noncomputable def ft (ea:Addr):Rep Unit:=⟨fun _ _ v _=>v= .ref ea,fun _ h=>h⟩
end
theorem aq.gone {K:PySem.W.Frag}{σ:St}{H0 R0 H R:Hp}{Γ:Ga}(E:aq K σ H0 R0 H R Γ)(i:Nat):aq K (σ.set i none) H0 R0 H R (Γ.set i .no):=by
  have key:∀(j:Nat) (e:Ent),(Γ.set i Ent.no)[j]?=some e→e= .no∨(Γ[j]?=some e∧(σ.set i none)[j]?=σ[j]?):=fun j e q=>by
    by_cases hj:j=i
    · subst hj
      rw [List.getElem?_set] at q
      split at q
      · split at q
        · cases q;exact .inl rfl
        · cases q
      · rename_i z;exact absurd rfl z
    · rw [List.getElem?_set_ne (Ne.symm hj)] at q
      exact .inr ⟨q,List.getElem?_set_ne (Ne.symm hj)⟩
  refine ⟨E.ext,fun j e q=>?_,fun j e a q z=>?_,fun j k e e' a q q' z z'=>?_,by rw [List.length_set,List.length_set];exact E.len⟩
  · rcases key j e q with rfl | ⟨q,h⟩
    · trivial
    · rw [h];exact E.ent j e q
  · rcases key j e q with rfl | ⟨q,h⟩
    · cases z
    · rw [h] at z;exact E.nw j e a q z
  · rcases key j e q with rfl | ⟨q,h⟩
    · cases z
    · rcases key k e' q' with rfl | ⟨q',h'⟩
      · cases z'
      · rw [h] at z;rw [h'] at z';exact E.ds j k e e' a q q' z z'
theorem zN {X:Cx}{Γ Γ1:Ga}{N:Ga→Prop}{T:RT}{S:fh}{f ce n y:Str}{k:Nat}{e0:Expr}{es:List Expr}{p pos ep np p1 p2 p3 hp tp:Pos}{ps:List Pk}{D CE:Addr}{rest:List Stmt}(i j:Nat)
    (C:bz X.prog X.w X.K X.mg X.base f k (bS S X.K)) (hr:bt k X.A) (ha:HA X.bR (e0::es) Γ ps Γ1) (hS:S X.K ps (.exc (.ref D))) (hm:X.mg ce=some (.ref CE)) (hx:exmOne X.K (.ref D) (.ref CE)=some true)
    (hrest:∀ea oe,oe.cls= .ref D→WS (gH X ea oe) rest (((Γ1.set i (.im (ft ea) ())).set j (.im (ft ea) ())).set i .no) N T)
    (hst:autoParam (X.stack=X.env::X.outer) Fc.ai) (hef:autoParam (X.env.frame=some X.env.locals) Fc.ai) (hN:autoParam (X.N.Nodup) Fc.dY) (hi:autoParam (X.N[i]?=some n) Fc.ai) (hj:autoParam (X.N[j]?=some y) Fc.ai)
    (hin:autoParam (X.env.scope.names.lookup n=some .local) Fc.ai) (hjy:autoParam (X.env.scope.names.lookup y=some .local) Fc.ai) (hg:autoParam (Gl X ce) Fc.ai) (hgf:autoParam (Gl X f) Fc.ai)
    (hs:autoParam (swapsWith (.Name n p2) (some (.Name y p1)) p3.line X.env=pure false) Fc.ai) (hsc:autoParam (swapsWith (.Call (.Name f p) (e0::es) [] pos) none ep.line X.env=pure false) Fc.ai)
    (he:autoParam (starEach (e0::es) X.env=(false,eval e0 X.env)::starEach es X.env) Fc.ai) (hpl:autoParam ((backTo pos (starEach es X.env)).any (·.1)=false) Fc.ai)
    (d1:autoParam ((ce==("__debug__":Str))=false) Fc.aw) (d2:autoParam ((f==("__debug__":Str))=false) Fc.aw) (d3:autoParam ((n==("__debug__":Str))=false) Fc.aw) (d4:autoParam ((n==("__classdict__":Str))=false) Fc.aw):
    WS X (.Try [.Expr (.Call (.Name f p) (e0::es) [] pos) ep] [.ExceptHandler (some (.Name ce np)) (some n) [.Assign [.Name y p1] (.Name n p2) p3] hp] [] [] tp::rest) Γ N T:=by
  intro σ H0 R0 H R E D dn dr pins s I
  refine wpAny_execs_cons (wpAny_Try_except (wpAny_execs_cons (wpAny_Expr_any ?_ I.quiet hsc)))
  refine ng C hr ha hS E I (fun s1 H1 ea T H' R' s' I1 ho bare un hok fly E' sR=>?_) hgf d2 he hpl
  refine zl I1 ho bare un hok fly hst hef hm hx hg d1 hN hi hj hin hjy hs d3 d4 fun oe s6 hc I6=>?_
  have E3:=aq.gone ((E'.set i (r:=ft ea) (v:=.ref ea) (x:=()) rfl).set j (r:=ft ea) (v:=.ref ea) (x:=()) rfl) i
  exact aR (hrest ea oe hc _ H0 R0 H' R' E3 D (fun σ2 H2 R2 Γ2 E2 s2=>dn σ2 H2 R2 Γ2 E2 (sR.trans s2)) dr pins s6 I6) fun f s7 z=>SP.ql z
end Fc
namespace Fc
open PySem PySem.Spec L2
open PyProof.Rows hiding St
theorem oZ {P:Program}{w:World}{K:PySem.W.Frag}{mg:Str→Option Value}{base:Heap}{N:List Str}{qual:Str}{scope:Scope}{f:Addr}{cd:Value}{A:Around}{outer:List Env}{s:Shared}{H:Hp}{E:XK}
    {pins:List (Addr×Obj)} {σ:St} {H1 H':Hp} {s1 s':Shared} {e T:Addr} {cls:Value} (I1:Inv (bF (eB P w) P w K mg base N qual scope f cd A outer s H E) pins σ H1 s1)
    (ho:s'.os=s1.os) (bare:AllBare s'.gens) (un:Un (bV (bF (eB P w) P w K mg base N qual scope f cd A outer s H E).stack) [] H1 H' s1.heap s'.heap) (hok:cg P w H' s'.heap) (fly:rQ s1.heap s'.heap H' e T cls) (q:E cls none H'):
    (bF (eB P w) P w K mg base N qual scope f cd A outer s H E).xe (.ref e) s':=by
  have hst:s1.heap.FunFrames base (envOfC qual scope s.heap.objs.size f cd::outer):=I1.stack
  have hfree:∀b∈bV (envOfC qual scope s.heap.objs.size f cd::outer),H1 b=none:=I1.fE
  have un:Un (bV (envOfC qual scope s.heap.objs.size f cd::outer)) [] H1 H' s1.heap s'.heap:=un
  have hfs:∀b∈bV (envOfC qual scope s.heap.objs.size f cd::outer),H' b=none:=fun b hb=>by
    obtain ⟨_,o,r,_⟩:=hst.mem hb
    exact un.free b o r (hfree b hb) List.not_mem_nil
  have hsl:∀b∈bV (envOfC qual scope s.heap.objs.size f cd::outer),∀o,s1.heap.get? b=some o→∃sl,s'.heap.get? b=some {o with slots:=sl}:=fun b hb o r=>un.slot b o r (hfree b hb) hb List.not_mem_nil
  have hff:s'.heap.FunFrames (PySem.W.hideAll s'.heap (e::T::bV (envOfC qual scope s.heap.objs.size f cd::outer))) (envOfC qual scope s.heap.objs.size f cd::outer):=
    fo (h0:=s'.heap) (fs:=e::T::bV (envOfC qual scope s.heap.objs.size f cd::outer)) hst hsl fun b hb=>List.mem_cons_of_mem _ (List.mem_cons_of_mem _ hb)
  obtain ⟨oe,vs,oT,ts,a0,he,hc,hd,h1,hTe,hT,hdT,h3⟩:=fly.ex
  have hfl:Heap.FlyingW (PySem.W.hideAll s'.heap (e::T::bV (envOfC qual scope s.heap.objs.size f cd::outer))) (envOfC qual scope s.heap.objs.size f cd::outer) e cls a0 s'.heap:=
    ⟨fun b o z=>PySem.W.of_hideAll _ z,PySem.W.hideAll_none _ List.mem_cons_self,hff,oe,vs,T,oT,ts,he,hc,hd,h1,PySem.W.hideAll_none _ (List.mem_cons_of_mem _ List.mem_cons_self),hTe,hT,hdT,h3⟩
  show wpAny (model P w) (A.deeper (envOfC qual scope s.heap.objs.size f cd)) (leaving (envOfC qual scope s.heap.objs.size f cd) (.ref e)) _ _ _
  refine wpAny_leaves_onW I1.ok.frames rfl hfl fun h' fl up=>?_
  obtain ⟨st,hen,hfr,oe2,vs2,T2,oT2,ts2,he2,hc2,hd2,h12,hnT2,hTe2,hT2,hdT2,h32⟩:=fl
  have upF:∀b o,s'.heap.get? b=some o→b∈bV (envOfC qual scope s.heap.objs.size f cd::outer)→∃sl,h'.get? b=some {o with slots:=sl}:=fun b o r hb=>by
    obtain ⟨_,o2,r2,nf⟩:=hff.mem hb
    rw [r] at r2;cases r2
    exact up b o r nf
  obtain ⟨u2,ok2⟩:=nG un hok fly hfs st upF
  have base0:Un (bV outer) [] H H1 s.heap s1.heap:=I1.base
  have un2:Un (bV outer) [] H H' s.heap h':=by
    refine Un.shrink ((base0.mono (fs':=bV (envOfC qual scope s.heap.objs.size f cd::outer)) (fun b z=>?_) fun _ z=>z).trans u2) fun b o r z=>?_
    · show b∈(envOfC qual scope s.heap.objs.size f cd::outer).filterMap (·.frame)
      rw [List.filterMap_cons]
      exact List.mem_cons_of_mem _ z
    · have z':b∈(envOfC qual scope s.heap.objs.size f cd::outer).filterMap (·.frame):=z
      rw [List.filterMap_cons] at z'
      rcases List.mem_cons.mp z' with y | y
      · have:=Heap.lt_size r
        rw [y] at this
        exact absurd this (Nat.lt_irrefl _)
      · exact y
  -- the new trace was not there
  have tc : T2=T∨s'.heap.get? T2=none:=by
    cases r:s'.heap.get? T2 with
    | none=>exact .inr rfl
    | some o=>
      left
      by_cases z:T2∈e::T::bV (envOfC qual scope s.heap.objs.size f cd::outer)
      · rcases List.mem_cons.mp z with z | z
        · exact absurd z hTe2
        · rcases List.mem_cons.mp z with z | z
          · exact z
          · exfalso
            obtain ⟨_,o2,r2,nf⟩:=hff.mem z
            rw [r] at r2;cases r2
            obtain ⟨sl,r3⟩:=upF T2 o r z
            rw [hT2] at r3;cases r3
            exact nf ts2 hdT2
      · rw [PySem.W.hideAll_get _ r z] at hnT2;cases hnT2
  have nT2:s.heap.get? T2=none:=by
    rcases tc with z | z
    · rw [z];exact eI base0 fly.nT
    · exact eI base0 (eI un z)
  have fT2:H' T2=none:=by
    rcases tc with z | z
    · rw [z];exact fly.fT
    · exact cg.none_of hok z
  exact ⟨e,T2,cls,H',rfl,ho.trans I1.os,bare,un2,ok2,⟨⟨oe2,vs2,oT2,ts2,a0,he2,hc2,hd2,h12,hTe2,hT2,hdT2,h32⟩,eI base0 fly.ne,nT2,fly.fe,fT2⟩,q⟩
section
variable {X:Cx}{Γ Γ1:Ga}{H0 R0:Hp}
noncomputable def RX (X:Cx)(H0 R0:Hp)(e:Expr)(Γ:Ga):Prop:=∀(σ:St) (H R:Hp),aq X.K σ H0 R0 H R Γ→∀Q:VK,dG X e σ H Q
theorem c9 {e:Expr}{pos:Pos}{rest:List Stmt}(h:RX X H0 R0 e Γ)(hsw:autoParam (swapsWith e none pos.line X.env=pure false) Fc.ai):RS X H0 R0 (.Expr e pos::rest) Γ:=fun σ H R E D=>
  nA (gI pB dB) (sS (fc aL hsw) (h σ H R E _))
theorem xR (i:Nat){x:Str}{p1 pos:Pos}{e:Expr}{rest:List Stmt}(h:RX X H0 R0 e Γ)(hN:autoParam (X.N.Nodup) Fc.dY)(hi:autoParam (X.N[i]?=some x) Fc.ai)(hx:autoParam (Loc X.env.scope x) Fc.dA)
    (hs:autoParam (swapsWith e (some (.Name x p1)) pos.line X.env=pure false) Fc.ai) (hf:autoParam (X.fn x=true∨X.env.scope.names.lookup x=some .local) Fc.fZ):RS X H0 R0 (.Assign [.Name x p1] e pos::rest) Γ:=fun σ H R E D=>
  nA (gI pB dB) (sS (fv hN hi hx aL hs hf) (h σ H R E _))
theorem r9 {e:Expr}{pos:Pos}{rest:List Stmt}(h:RX X H0 R0 e Γ):RS X H0 R0 (.Return (some e) pos::rest) Γ:=fun σ H R E D=>
  nA (gI pB dB) (sS (dO aL) (h σ H R E _))
theorem zY {e:Expr}{p pos:Pos}{a b rest:List Stmt}(h:RX X H0 R0 e Γ)(he:autoParam (∀whole,isTrue e X.env whole=(do let v ← whole;standAt e.pos;holding [v] (truthy v))) Fc.cZ):RS X H0 R0 (.If (.UnaryOp .Not e p) a b pos::rest) Γ:=fun σ H R E D=>
  nA (gI pB dB) (sS (vz (se (tu aL he)) dB dB) (h σ H R E _))
theorem dM {c:Expr}{a rest:List Stmt}{pos:Pos}{k:Bool}(hc:TV X.bR c Γ k Γ1)(h1:k=true→RS X H0 R0 a Γ1)(h2:k=false→RS X H0 R0 rest Γ1):RS X H0 R0 (.If c a [] pos::rest) Γ:=by
  cases k with
  | true=>exact jw hc (h1 rfl)
  | false=>exact gz (N1:=fun Γ'=>Γ'=Γ1) (bu hc (fun h=>absurd h (by decide)) (fun _=>aU rfl)) fun Γ' e=>by subst e;exact h2 rfl
theorem RX.sub {e:Expr}{c:Int}{j:Nat}{p1 pos:Pos}(h:RX X H0 R0 e Γ):RX X H0 R0 (.Subscript e (.Constant (.int c) j p1) pos) Γ:=fun σ H R E Q=>eS (fP eG aL dQ (fun _ _=>rfl)) (h σ H R E _)
end
section
variable {P:Program}{w:World}{K:PySem.W.Frag}{mg:Str→Option Value}{base:Heap}{N:List Str}{qual:Str}{scope:Scope}{f:Addr}{cd:Value}{A:Around}{outer:List Env}{s:Shared}{H R:Hp}{E:XK}{Γ Γ1:Ga}
theorem cy {S:fh}{x:Str}{k:Nat}{e:Expr}{es:List Expr}{p pos:Pos}{ps:List Pk}{cls:Value}(C:bz P w K mg base x k (bS S K))(hr:bt k (A.deeper (envOfC qual scope s.heap.objs.size f cd)))(ha:HA (bF (eB P w) P w K mg base N qual scope f cd A outer s H E).bR (e::es) Γ ps Γ1)(hS:S K ps (.exc cls))(q:∀H' R',Ext H R H' R'→E cls none H')
    (hg:autoParam (Gl (bF (eB P w) P w K mg base N qual scope f cd A outer s H E) x) Fc.ai) (hdb:autoParam ((x==("__debug__":Str))=false) Fc.aw) (he:autoParam (starEach (e::es) (bF (eB P w) P w K mg base N qual scope f cd A outer s H E).env=(false,eval e (bF (eB P w) P w K mg base N qual scope f cd A outer s H E).env)::starEach es (bF (eB P w) P w K mg base N qual scope f cd A outer s H E).env) Fc.ai)
    (hpl:autoParam ((backTo pos (starEach es (bF (eB P w) P w K mg base N qual scope f cd A outer s H E).env)).any (·.1)=false) Fc.ai):RX (bF (eB P w) P w K mg base N qual scope f cd A outer s H E) H R (.Call (.Name x p) (e::es) [] pos) Γ:=fun σ H1 R1 EO Q pins s1 I=>by
  exact ng (X:=bF (eB P w) P w K mg base N qual scope f cd A outer s H E) C hr ha hS EO I (fun s2 H2 ea T H' R' s' I2 ho bare un hok fly E' sR=>oZ I2 ho bare un hok fly (q H' R' E'.ext)) hg hdb he hpl
theorem dC {S:fh}{x qual:Str}{st:Stmt}{f:Addr}{fd:FuncData}{N ps:List Str}{k:Nat}(F:bh K x qual st f fd)(Sc:ax N ps (ah st))(hm:mg x=some (.ref f))(hb:Binds K fd ps [])(len:∀qs o,S K qs o→qs.length=ps.length)(hno:∀qs T,¬S K qs (.ret T))
    (hexc:∀(cdv:Value) (A:Around) (outer:List Env) (s:Shared) (H R:Hp) (E:XK) (qs:List Pk) (c:Value),bt k (A.deeper (envOfC qual (ah st) s.heap.objs.size f cdv))→S K qs (.exc c)→(∀H' R',Ext H R H' R'→E c none H')→
      RS (bF (eB P w) P w K mg base N qual (ah st) f cdv A outer s H E) H R (bo st) (dc qs N.length)):bz P w K mg base x (k + 1) (bS S K):=
  kG F Sc hm hb len (fun _ _ _ _ _ _ qs T _ hS=>absurd hS (hno qs T)) hexc
end
end Fc
namespace Fc
open PySem PySem.Spec PySem.W PySem.Calls L2
open PyProof.Rows hiding St
noncomputable def iF (h base:Heap)(ea:Addr):Heap:=hideAll h ((List.range h.objs.size).filter fun b=>(base.get? b).isNone&&(b != ea))
structure iT (P:Program) (w:World) (K:PySem.W.Frag) (mg:Str→Option Value) (ok:Heap→Prop) (x:Str) (k:Nat) (sp:Sp):Prop where
  ex:∃f fd ps,(∀base,ok base→et P w K mg base df k f fd ps sp)∧mg x=some (.ref f)∧PySem.W.keepIn K (.ref f)=true∧Binds K fd ps []
theorem iT.mono {P:Program}{w:World}{K:PySem.W.Frag}{mg:Str→Option Value}{ok:Heap→Prop}{x:Str}{j k:Nat}{sp:Sp}(c:iT P w K mg ok x j sp)(h:j≤k):iT P w K mg ok x k sp:=by
  obtain ⟨f,fd,ps,F,a,b,c⟩:=c.ex
  exact ⟨f,fd,ps,fun base hb=>(F base hb).mono h,a,b,c⟩
section
variable {X:Cx}{Γ Γ1:Ga}{ea D:Addr}{oe:Obj}{pins:List (Addr×Obj)}{σ:St}{H:Hp}{s:Shared}
theorem qy {I:Inv X pins σ H s}(hp:(ea,oe)∈X.pn):(iF s.heap X.base ea).get? ea=some oe:=
  hideAll_get _ (I.pin _ (List.mem_append_left _ hp)).1 fun z=>by simp at z
theorem Inv.BU (I:Inv X pins σ H s)(hp:(ea,oe)∈X.pn):og X.prog X.w X.K X.mg (iF s.heap X.base ea) X.A X.stack s H:=by
  have pin:=I.pin _ (List.mem_append_left _ hp)
  have sub:∀b o,X.base.get? b=some o→(iF s.heap X.base ea).get? b=some o:=fun b o e=>hideAll_get _ (I.bk b o e) fun z=>by
    have:=(List.mem_filter.mp z).2
    rw [e] at this;simp at this
  have fne:∀b∈bV X.stack,b≠ea:=fun b hb=>by
    rintro rfl
    rcases List.mem_cons.mp (I.lh b hb) with e | hb
    · exact pin.2.2.1 e
    · exact pin.2.2.2.1 hb
  refine ⟨I.ok.frames,?_,fun b o e=>⟨of_hideAll _ e,?_⟩,Nat.le_of_eq (hideAll_size _ _),?_,I.fE,I.hok,I.bare⟩
  · have M:=I.ok.mod
    obtain ⟨mb,hmb,hb⟩:=M.blt
    exact ⟨M.kin.keeps sub,M.glob.at fun o e=>sub _ o e,⟨mb,hmb.at fun o e=>sub _ o e,hb⟩,M.nolimit.keeps sub⟩
  · cases h:X.base.get? b with
    | some o'=>exact (I.bs b o' h).2
    | none=>
      by_cases z:b=ea
      · rw [z];exact pin.2.1
      · have hs:s.heap.get? b=some o:=of_hideAll _ e
        have:(iF s.heap X.base ea).get? b=none:=hideAll_none _ (List.mem_filter.mpr ⟨List.mem_range.mpr (Heap.lt_size hs),by rw [h];simpa using z⟩)
        rw [this] at e;cases e
  · refine fo (h:=s.heap) (h0:=s.heap) I.stack (fun b hb o e=>⟨o.slots,e⟩) fun b hb=>?_
    obtain ⟨hn,o,ho,_⟩:=I.stack.mem hb
    exact List.mem_filter.mpr ⟨List.mem_range.mpr (Heap.lt_size ho),by rw [hn];simpa using fne b hb⟩
theorem uH {α:Type}{S:bW}{ok:Heap→Prop}{x:Str}{k:Nat}{e:Expr}{es:List Expr}{p pos:Pos}{ps:List Pk}{r:Rep α}{y:α}(C:iT X.prog X.w X.K X.mg ok x k (aE S X.K))(hp:(ea,oe)∈X.pn)(hok:∀base:Heap,base.get? ea=some oe→ok base)(hr:bt k X.A)(ha:HA X (e::es) Γ ps Γ1)(hS:S X.K ps (bC X.K r (· =y)))
    (hg:autoParam (Gl X x) Fc.ai) (hdb:autoParam ((x==("__debug__":Str))=false) Fc.aw) (he:autoParam (starEach (e::es) X.env=(false,eval e X.env)::starEach es X.env) Fc.ai) (hpl:autoParam ((backTo pos (starEach es X.env)).any (·.1)=false) Fc.ai):EV X (.Call (.Name x p) (e::es) [] pos) Γ r y Γ1:=fun σ H0 R0 H R E Q q pins s I=>by
  obtain ⟨f,fd,pn,F,hm,hk,hb⟩:=C.ex
  refine wpAny_Call_Name_kw (fb I hg hm ?_ hdb)
  refine PySem.W.callWith_K (h₀:=X.base) I.ok.mod.kin hk (aR (ha σ H0 R0 H R E (fun vs H1=>∃R1,aq X.K σ H0 R0 H1 R1 Γ1∧au R R1∧ff X.K R1 vs ps) (fun vs H1 R1 E1 s1 p1=>⟨R1,E1,s1,p1⟩) pos pins s I) fun us s1 ⟨vs,H1,I1,r1,R1,E1,s1',p1⟩=>⟨I1.dj,?_⟩) he hpl
  have F':=F (iF s1.heap X.base ea) (hok _ (qy (I:=I1) hp))
  have h:aE S X.K vs H1 Q (fun _ _ _=>False):=⟨R1,ps,_,E1.sub,p1,hS,fun v H' R' xx t=>by
    obtain ⟨z,e1,rfl⟩:=t
    exact q v H' R' (E1.grow xx) (s1'.trans xx.r) e1⟩
  have hl:us.length=pn.length:=by rw [← r1.length];exact F'.len _ _ _ _ h
  have hb':=hb s1 us I1.dj (by rw [List.append_nil];exact hl)
  rw [List.append_nil] at hb'
  refine wpAny_call (codeAny_mono (F'.run X.A X.stack s1 H1 ⟨us,[]⟩ us vs Q (fun _ _ _=>False) hr (Inv.BU I1 hp) hb' r1 h) fun r s' hq=>?_)
  cases r with
  | error e=>exact False.elim hq
  | ok fl=>
    cases fl with
    | ret u=>exact I1.after hq
    | next=>exact False.elim hq
    | brk=>exact False.elim hq
    | cont=>exact False.elim hq
noncomputable def gX (X:Cx)(ea D:Addr):Prop:=∃oe,X.base.get? ea=some oe∧oe.cls= .ref D
theorem gX.at (z:gX X ea D)(I:Inv X pins σ H s):jF ea D s.heap:=by
  obtain ⟨oe,h,hc⟩:=z
  exact ⟨oe,I.bk _ _ h,hc⟩
theorem kA (hz:gX X ea D)(el:dg X.K D=true):dk X (.builtin "isinstance") (fun xs H Q=>∃c cv b,xs=[.ref ea,c]∧RelV c cv∧(∀u,RelV c u→u=cv)∧kitOne X.K (.ref D) cv=some b∧Q (.bl b) H):=by
  intro pins s σ H xs us Q I r h
  obtain ⟨c,cv,b,rfl,_,hu,e,q⟩:=h
  obtain ⟨u,u2,rfl,r1,r2⟩:=vals2 r
  cases (show u=Value.ref ea from r1)
  cases hu u2 r2
  exact kia_one (oI el) I.dj (hz.at I) e (fun z=>nomatch z) fun tk=>⟨.bl b,H,I.tok tk,rfl,q⟩
theorem qz (hz:gX X ea D)(el:dg X.K D=true):dk X (.builtin "isinstance") (fun xs H Q=>∃(a:Addr) (cs:List Addr) (b:Bool),xs=[.ref ea,.ref a]∧H a=some (.tup (cs.map V.ref))∧kitAny X.K (.ref D) (cs.map Value.ref)=some b∧Q (.bl b) H):=by
  intro pins s σ H xs us Q I r h
  obtain ⟨a,cs,b,rfl,ha,e,q⟩:=h
  obtain ⟨u,u2,rfl,r1,r2⟩:=vals2 r
  cases (show u=Value.ref ea from r1)
  cases (show u2=Value.ref a from r2)
  obtain ⟨_,its,vs,tp⟩:=(show bK X.prog X.w H s.heap a (.tup (cs.map V.ref)) from I.hok a _ ha)
  have hi:its=cs.map Value.ref:=by
    have key:∀{cs:List Addr} {its:List Value},Vals (cs.map V.ref) its→its=cs.map Value.ref:=by
      intro cs
      induction cs with
      | nil=>intro its v;cases v;rfl
      | cons c cs ih=>
        intro its v
        cases v with
        | cons h t=>rw [ih t];cases (show _=Value.ref c from h);rfl
    exact key vs
  subst hi
  obtain ⟨o,h1,h2,n,h3⟩:=tp
  obtain ⟨oc,od,odt,osl⟩:=o
  dsimp only at h2 h3
  subst h2 h3
  exact kia_tup (oI el) I.dj (hz.at I) h1 e (fun z=>nomatch z) fun tk=>⟨.bl b,H,I.tok tk,rfl,q⟩
theorem gK {i:Nat}{x y:Str}{p p1 p2 pos:Pos}{C:Addr}{b:Bool}(hz:gX X ea D)(el:dg X.K D=true)(hm:X.mg "isinstance"=none)(hΓ:Γ[i]?=some (.im (ft ea) ()))(hmy:X.mg y=some (.ref C))(ht:kitOne X.K (.ref D) (.ref C)=some b)
    (hN:autoParam (X.N[i]?=some x) Fc.ai) (hv:autoParam (ck X.env.scope x) Fc.bO) (hd:autoParam ((x==("__debug__":Str))=false) Fc.aw) (hcd:autoParam ((x==("__classdict__":Str))=false) Fc.aw)
    (hs:autoParam (starEach [.Name x p1,.Name y p2] X.env=(false,eval (.Name x p1) X.env)::starEach [.Name y p2] X.env) Fc.ai) (hg:autoParam (Gl X "isinstance") Fc.ai) (hgy:autoParam (Gl X y) Fc.ai) (hdy:autoParam ((y==("__debug__":Str))=false) Fc.aw):
    EV X (.Call (.Name "isinstance" p) [.Name x p1,.Name y p2] [] pos) Γ aO b Γ:=by
  intro σ H0 R0 H R E Q q
  refine eS (cR (kA hz el) hg hm PyProof.Rows.boot_isinstance (aT aL (aT (gA (v:=.ref C) hgy hmy rfl hdy) bL rfl) hs) (by decide) (by decide) hs rfl) (aa i hΓ hN hv hd hcd σ H0 R0 H R E _ fun v H1 R1 E1 s1 e1=>?_)
  cases (show v=V.ref ea from e1)
  exact ⟨.ref C,.ref C,b,rfl,rfl,fun u h=>h,ht,q _ H1 R1 E1 s1 rfl⟩
theorem uN {i:Nat}{x y:Str}{p p1 p2 pos:Pos}{c:String}{b:Bool}(hz:gX X ea D)(el:dg X.K D=true)(hm:X.mg "isinstance"=none)(hΓ:Γ[i]?=some (.im (ft ea) ()))(hmy:X.mg y=none)(hvy:bootBuiltins y=some (.type c))(ht:kitOne X.K (.ref D) (.type c)=some b)
    (hN:autoParam (X.N[i]?=some x) Fc.ai) (hv:autoParam (ck X.env.scope x) Fc.bO) (hd:autoParam ((x==("__debug__":Str))=false) Fc.aw) (hcd:autoParam ((x==("__classdict__":Str))=false) Fc.aw)
    (hs:autoParam (starEach [.Name x p1,.Name y p2] X.env=(false,eval (.Name x p1) X.env)::starEach [.Name y p2] X.env) Fc.ai) (hg:autoParam (Gl X "isinstance") Fc.ai) (hgy:autoParam (Gl X y) Fc.ai) (hny:autoParam (y≠"__name__") Fc.aw) (hdy:autoParam ((y==("__debug__":Str))=false) Fc.aw):
    EV X (.Call (.Name "isinstance" p) [.Name x p1,.Name y p2] [] pos) Γ aO b Γ:=by
  intro σ H0 R0 H R E Q q
  refine eS (cR (kA hz el) hg hm PyProof.Rows.boot_isinstance (aT aL (aT (pA (v:=.ty c) hgy hmy hvy rfl hny hdy) bL rfl) hs) (by decide) (by decide) hs rfl) (aa i hΓ hN hv hd hcd σ H0 R0 H R E _ fun v H1 R1 E1 s1 e1=>?_)
  cases (show v=V.ref ea from e1)
  exact ⟨.ty c,.type c,b,rfl,rfl,fun u h=>h,ht,q _ H1 R1 E1 s1 rfl⟩
theorem iS {i:Nat}{x y1 y2 y3:Str}{p p1 p2 p3 p4 pos tp:Pos}{k:Nat}{C1 C2 C3:Addr}{b:Bool}(hz:gX X ea D)(el:dg X.K D=true)(hm:X.mg "isinstance"=none)(hΓ:Γ[i]?=some (.im (ft ea) ()))
    (h1:X.mg y1=some (.ref C1)) (h2:X.mg y2=some (.ref C2)) (h3:X.mg y3=some (.ref C3)) (ht:kitAny X.K (.ref D) [.ref C1,.ref C2,.ref C3]=some b)
    (hN:autoParam (X.N[i]?=some x) Fc.ai) (hv:autoParam (ck X.env.scope x) Fc.bO) (hd:autoParam ((x==("__debug__":Str))=false) Fc.aw) (hcd:autoParam ((x==("__classdict__":Str))=false) Fc.aw)
    (hs:autoParam (starEach [.Name x p1,.Tuple [.Name y1 p2,.Name y2 p3,.Name y3 p4] k tp] X.env=(false,eval (.Name x p1) X.env)::starEach [.Tuple [.Name y1 p2,.Name y2 p3,.Name y3 p4] k tp] X.env) Fc.ai) (hg:autoParam (Gl X "isinstance") Fc.ai)
    (g1:autoParam (Gl X y1) Fc.ai) (g2:autoParam (Gl X y2) Fc.ai) (g3:autoParam (Gl X y3) Fc.ai) (d1:autoParam ((y1==("__debug__":Str))=false) Fc.aw) (d2:autoParam ((y2==("__debug__":Str))=false) Fc.aw) (d3:autoParam ((y3==("__debug__":Str))=false) Fc.aw):
    EV X (.Call (.Name "isinstance" p) [.Name x p1,.Tuple [.Name y1 p2,.Name y2 p3,.Name y3 p4] k tp] [] pos) Γ aO b Γ:=by
  intro σ H0 R0 H R E Q q
  refine eS (cR (qz hz el) hg hm PyProof.Rows.boot_isinstance (aT aL (aT (oB (aT (gA (v:=.ref C1) g1 h1 rfl d1) (aT (gA (v:=.ref C2) g2 h2 rfl d2) (aT (gA (v:=.ref C3) g3 h3 rfl d3) bL rfl) rfl) rfl)) bL rfl) hs) (by decide) (by decide) hs rfl) (aa i hΓ hN hv hd hcd σ H0 R0 H R E _ fun v H1 R1 E1 s1 e1=>?_)
  cases (show v=V.ref ea from e1)
  refine ⟨by show 3≤sizeLine;decide,fun a ha=>⟨a,[C1,C2,C3],b,rfl,aD,ht,?_⟩⟩
  exact q _ _ (upd R1 a (.tup [.ref C1,.ref C2,.ref C3])) (E1.grow (Ext.fresh E1.sub ha _)) (s1.trans (au.fresh (E1.sub.free ha) _)) rfl
end
noncomputable def c6:Rep Str:=⟨fun _ _ v x=>v= .str x,fun _ h=>h⟩
theorem gL {X:Cx}{Γ:Ga}{x:Str}{j:Nat}{pos:Pos}:EV X (.Constant (.str x) j pos) Γ c6 x Γ:=fun _ _ _ _ _ E _ q=>eS xW (q _ _ _ E (au.refl _) rfl)
theorem eq_str:cY c6 0:=by
  refine ⟨by rintro K R v x y h1 h2;cases h1;cases h2;rfl,?_⟩
  intro X pins σ H s R A I sub v u vv uu x y rv ru h1 h2 hu
  cases h1
  cases h2
  obtain ⟨t,rfl⟩:=rv
  obtain ⟨t',rfl⟩:=ru
  intro prog w E Q hq
  exact wpAny_eqBool_str hq
theorem m9 {X:Cx}{S:fh}{x:Str}{k:Nat}{e:Expr}{es:List Expr}{p pos:Pos}{ps:List Pk}{T0:RT}{σ:St}{H0 R0 H R:Hp}{Γ Γ1:Ga}{pins:List (Addr×Obj)}{s:Shared}{Q:Value→Shared→Prop}{Ex:Value→Shared→Prop}
    (C:bz X.prog X.w X.K X.mg X.base x k (bS S X.K)) (hr:bt k X.A) (ha:HA X.bR (e::es) Γ ps Γ1) (hS:S X.K ps (.ret T0)) (E:aq X.K σ H0 R0 H R Γ) (I:Inv X pins σ H s)
    (q:∀u s' H' R',Inv X pins σ H' s'→aq X.K σ H0 R0 H' R' Γ1→au R R'→Q u s')
    (hg:Gl X x) (hdb:(x==("__debug__":Str))=false) (he:starEach (e::es) X.env=(false,eval e X.env)::starEach es X.env) (hpl:(backTo pos (starEach es X.env)).any (·.1)=false):
    wpAny (model X.prog X.w) X.A (eval (.Call (.Name x p) (e::es) [] pos) X.env) Q Ex s:=by
  obtain ⟨f,fd,pn,F,hm,hk,hb⟩:=C.ex
  refine wpAny_Call_Name_kw (fb I hg hm ?_ hdb)
  refine PySem.W.callWith_K (h₀:=X.base) I.ok.mod.kin hk (aR (h9.bR (ha σ H0 R0 H R E (fun vs H1=>∃R1,aq X.K σ H0 R0 H1 R1 Γ1∧au R R1∧ff X.K R1 vs ps) fun vs H1 R1 E1 s1 p1=>⟨R1,E1,s1,p1⟩) Ex pos pins s I) fun us s1 ⟨vs,H1,I1,r,R1,E1,sR,p1⟩=>⟨I1.dj,?_⟩) he hpl
  have r2:Vals (vs++[]) (us++[]):=by rw [List.append_nil,List.append_nil];exact r
  have sp:bS S X.K (vs++[]) H1 (fun _ H'=>∃R',Ext H1 R1 H' R') (fun _ _ _=>False):=⟨R1,ps,.ret T0,E1.sub,by rw [List.append_nil];exact p1,hS,fun v H' R' xx _=>⟨R',xx⟩⟩
  have hl:(us++[]).length=pn.length:=by rw [← r2.length];exact F.len _ _ _ _ sp
  refine wpAny_call (codeAny_mono (F.run X.A X.stack s1 H1 ⟨us,[]⟩ (us++[]) (vs++[]) _ _ hr I1.qF (hb s1 us I1.dj hl) r2 sp) fun r s' hq=>?_)
  cases r with
  | error ev=>
    obtain ⟨ea,T,c,H',rfl,ho,bare,un,hok,fly,z⟩:=hq
    exact z.elim
  | ok fl=>
    cases fl with
    | ret u=>
      obtain ⟨v,H',I',_,R',xx⟩:=I1.after hq
      exact q u s' H' R' I' (E1.grow xx) (sR.trans xx.r)
    | next=>exact False.elim hq
    | brk=>exact False.elim hq
    | cont=>exact False.elim hq
theorem sI {X:Cx}{Γ Γ1:Ga}{N:Ga→Prop}{T T0:RT}{S:fh}{f:Str}{k:Nat}{e0:Expr}{es:List Expr}{p pos ep tp:Pos}{ps:List Pk}{rest:List Stmt}{hd:ExceptHandler}
    (C:bz X.prog X.w X.K X.mg X.base f k (bS S X.K)) (hr:bt k X.A) (ha:HA X.bR (e0::es) Γ ps Γ1) (hS:S X.K ps (.ret T0))
    (hrest:WS X rest Γ1 N T) (hgf:autoParam (Gl X f) Fc.ai) (hsc:autoParam (swapsWith (.Call (.Name f p) (e0::es) [] pos) none ep.line X.env=pure false) Fc.ai)
    (he:autoParam (starEach (e0::es) X.env=(false,eval e0 X.env)::starEach es X.env) Fc.ai) (hpl:autoParam ((backTo pos (starEach es X.env)).any (·.1)=false) Fc.ai) (d2:autoParam ((f==("__debug__":Str))=false) Fc.aw):
    WS X (.Try [.Expr (.Call (.Name f p) (e0::es) [] pos) ep] [hd] [] [] tp::rest) Γ N T:=by
  intro σ H0 R0 H R E D dn dr pins s I
  refine wpAny_execs_cons (wpAny_Try_except (wpAny_execs_cons (wpAny_Expr_any ?_ I.quiet hsc)))
  refine m9 C hr ha hS E I (fun u s' H' R' I' E' sR=>?_) hgf d2 he hpl
  refine wpAny_execs_nil ?_
  refine wpAny_execs_nil ?_
  exact hrest σ H0 R0 H' R' E' D (fun σ2 H2 R2 Γ2 E2 s2=>dn σ2 H2 R2 Γ2 E2 (sR.trans s2)) dr pins s' I'
end Fc
namespace Fc
open PySem PySem.Spec L2
open PyProof.Rows hiding St
section
variable {prog:Program}{w:World}{A:Around}{E:Value→Shared→Prop}{s:Shared}
end
section
variable {X:Cx}{Γ Γ1 Γ2 Γ3:Ga}{α β γ δ:Type}{N:Ga→Prop}{T:RT}
end
end Fc
namespace K1
open PySem
noncomputable abbrev top (i:Nat):Stmt:=PySem.Challenge.pw_fewcounters_k44_ways_refused.main.body.getD i (.Pass ⟨0,0,0,0⟩)
noncomputable abbrev oW:Nat:=28
noncomputable abbrev oh:Nat:=29
noncomputable abbrev sV:Nat:=30
noncomputable abbrev k9:Nat:=31
noncomputable abbrev kK:Nat:=32
noncomputable abbrev j7:Nat:=33
noncomputable abbrev kF:Nat:=34
noncomputable abbrev nh:Nat:=35
noncomputable abbrev kE:Nat:=36
noncomputable abbrev qq:Nat:=37
noncomputable abbrev jV:Nat:=38
noncomputable abbrev qN:Nat:=39
noncomputable abbrev rC:Nat:=40
noncomputable abbrev kN:Nat:=41
noncomputable abbrev sd:Nat:=42
noncomputable abbrev jM:Nat:=44
noncomputable abbrev n8:Nat:=45
noncomputable abbrev i3:Nat:=46
noncomputable abbrev pC:Nat:=47
noncomputable abbrev qi:Nat:=48
noncomputable abbrev l9:Nat:=49
noncomputable abbrev nR:Nat:=50
noncomputable abbrev mZ:Nat:=51
noncomputable abbrev ja:Nat:=52
noncomputable abbrev kc:Nat:=53
noncomputable abbrev rX:Nat:=54
noncomputable abbrev qI:Nat:=55
noncomputable abbrev uc:Nat:=56
noncomputable abbrev mE:Nat:=58
noncomputable abbrev nN:Nat:=59
noncomputable abbrev mG:Nat:=60
noncomputable abbrev oD:Nat:=61
noncomputable abbrev lU:Nat:=62
noncomputable abbrev o8:Nat:=63
noncomputable abbrev m8:Nat:=64
noncomputable abbrev oF:Nat:=65
noncomputable abbrev kg:Nat:=66
noncomputable abbrev qM:Nat:=67
noncomputable abbrev nP:Nat:=69
noncomputable abbrev lQ:Nat:=70
noncomputable abbrev mC:Nat:=71
noncomputable abbrev mD:Nat:=72
noncomputable abbrev kC:Nat:=73
noncomputable abbrev ko:Nat:=74
noncomputable abbrev mT:Nat:=75
noncomputable abbrev pd:Nat:=76
noncomputable abbrev zr:Nat:=77
end K1
namespace K1
open PySem L2 Fc
open PySem.Spec hiding Row
open PyProof.Rows hiding St
structure bU (mg:Str→Option Value):Prop where
  mostParts:∃t,mg "MOST_PARTS"=some (.int 4 t)
  leastPlaces:∃t,mg "LEAST_PLACES"=some (.int 2 t)
  mostPlaces:∃t,mg "MOST_PLACES"=some (.int 16 t)
  mostRows:∃t,mg "MOST_ROWS"=some (.int 60 t)
  firstPart:∃t,mg "FIRST_PART"=some (.int 0 t)
  begin_:∃t,mg "BEGIN"=some (.int 0 t)
  end_:∃t,mg "END"=some (.int 1 t)
  noCall:∃t,mg "NO_CALL"=some (.int (-1) t)
  len:mg "len"=none
  all:mg "all"=none
  any:mg "any"=none
  range:mg "range"=none
  enumerate:mg "enumerate"=none
  isinstance:mg "isinstance"=none
  int:mg "int"=none
  bool:mg "bool"=none
  list:mg "list"=none
  tuple:mg "tuple"=none
  min:mg "min"=none
  max:mg "max"=none
  sorted:mg "sorted"=none
  sum:mg "sum"=none
  zip:mg "zip"=none
  reversed:mg "reversed"=none
theorem boot_bool:bootBuiltins "bool"=some (.type "bool"):=by decide +kernel
section
variable {P:Program}{w:World}{K:PySem.W.Frag}{mg:Str→Option Value}{base:Heap}{f:Addr}{fd:FuncData}
theorem cD {xs:List Int}{i:Int}(h0:0≤i)(h1:i < xs.length):cA xs i=some (xs.getD i.toNat 0):=by
  rw [eO h0 h1,List.getElem?_eq_getElem (by omega),List.getD_eq_getElem?_getD,List.getElem?_eq_getElem (by omega)];rfl
noncomputable abbrev vA:Stmt:=top oW
theorem zE:ax ["value"] ["value"] (ah vA):=⟨rfl,rfl,rfl,by decide +kernel,rfl,by decide +kernel,by decide +kernel⟩
noncomputable def qa:bW:=fun K ps T=>∃x:Int,ps=[⟨ae,x⟩]∧T=bC K aO (· =true)
theorem AR (M:bU mg)(F:bh K "is_whole" "is_whole" vA f fd)(hm:mg "is_whole"=some (.ref f))(hb:Binds K fd ["value"] []):az P w K mg base "is_whole" 1 (aE qa K):=by
  have nd:=zE.nd
  refine bM F zE hm hb (fun qs T ⟨x,e,_⟩=>by rw [e];rfl) (fun cdv A outer s H E qs T hr hS=>?_)
  obtain ⟨x,rfl,rfl⟩:=hS
  exact ar (bA (ei (eC M.isinstance M.int PyProof.Rows.boot_int (aa 0 rfl) ty_int) (fun _=>ef (sG (eC M.isinstance M.bool boot_bool (aa 0 rfl) ty_int)))) rfl)
noncomputable abbrev pD:Stmt:=top oh
theorem zV:ax ["values"] ["values"] (ah pD):=⟨rfl,rfl,rfl,by decide +kernel,rfl,by decide +kernel,by decide +kernel⟩
noncomputable def AF:bW:=fun K ps T=>((∃ns:List Int,ps=[⟨ag ae,ns⟩])∨(∃r:Row,ps=[⟨aA,r⟩]))∧T=bC K aO (· =true)
theorem all_true {α:Type}(xs:List α):((xs.filter fun _=>true).map fun _=>true).all id=true:=by
  rw [List.all_eq_true];intro b hb
  obtain ⟨_,_,rfl⟩:=List.mem_map.mp hb;rfl
theorem Bj (M:bU mg)(CI:az P w K mg base "is_whole" 1 (aE qa K))(F:bh K "are_whole" "are_whole" pD f fd)(hm:mg "are_whole"=some (.ref f))(hb:Binds K fd ["values"] []):az P w K mg base "are_whole" 2 (aE AF K):=by
  have nd:=zV.nd
  have ndc:List.Nodup [("value":Str)]:=by decide
  refine bM F zV hm hb (fun qs T ⟨e,_⟩=>by rcases e with ⟨_,e⟩ | ⟨_,e⟩<;>(rw [e];rfl)) (fun cdv A outer s H E qs T hr hS=>?_)
  obtain ⟨⟨ns,rfl⟩ | ⟨r,rfl⟩,rfl⟩:=hS
  · exact ar (bA (ee M.all (aC.im (bj (own:=["value"]) (fr:=[]) (ix:=[]) (p:=fun _=>true) (f:=fun _=>true) (bc (so:=ah pD) (N0:=["values"]) rfl rfl (fun x h=>aV h) (by decide +kernel)) (ba (aa 0 rfl))
      (fun C s H ex=>aM 0) (fun x=>⟨.inr rfl,trivial⟩) (fun C s H ex x hx=>bP) (fun C s H ex x hx _=>aW CI hr (af (aa 0 rfl) ao) ⟨_,rfl,rfl⟩)))) (all_true ns))
  · exact ar (bA (ee M.all (aC.im (bj (own:=["value"]) (fr:=[]) (ix:=[]) (p:=fun _=>true) (f:=fun _=>true) (bc (so:=ah pD) (N0:=["values"]) rfl rfl (fun x h=>aV h) (by decide +kernel)) (AA (aa 0 rfl))
      (fun C s H ex=>aM 0) (fun x=>⟨.inr rfl,trivial⟩) (fun C s H ex x hx=>bP) (fun C s H ex x hx _=>aW CI hr (af (aa 0 rfl) ao) ⟨_,rfl,rfl⟩)))) (all_true _))
end
section
variable {P:Program}{w:World}{K:PySem.W.Frag}{mg:Str→Option Value}{base:Heap}{f:Addr}{fd:FuncData}
noncomputable abbrev vK:Stmt:=top kK
theorem zw:ax ["row"] ["row"] (ah vK):=⟨rfl,rfl,rfl,by decide +kernel,rfl,by decide +kernel,by decide +kernel⟩
noncomputable def Dh:bW:=fun K ps T=>∃r:Row,ps=[⟨aA,r⟩]∧T=bC K aO (· =true)
theorem BR (M:bU mg)(CA:az P w K mg base "are_whole" 2 (aE AF K))(F:bh K "has_row_form" "has_row_form" vK f fd)(hm:mg "has_row_form"=some (.ref f))(hb:Binds K fd ["row"] []):az P w K mg base "has_row_form" 3 (aE Dh K):=by
  have nd:=zw.nd
  refine bM F zw hm hb (fun qs T ⟨x,e,_⟩=>by rw [e];rfl) (fun cdv A outer s H E qs T hr hS=>?_)
  obtain ⟨r,rfl,rfl⟩:=hS
  exact ar (bA (ei (eC M.isinstance M.tuple PyProof.Rows.boot_tuple (aa 0 rfl) yc) (fun _=>ei (dz bT (pE M.len (aa 0 rfl) z6) ak) (fun _=>ef (aW CA hr (af (aa 0 rfl) ao) ⟨.inr ⟨_,rfl⟩,rfl⟩)))) rfl)
noncomputable abbrev rA:Stmt:=top k9
theorem yT:ax ["web","places","rows"] ["web"] (ah rA):=⟨rfl,rfl,rfl,by decide +kernel,rfl,by decide +kernel,by decide +kernel⟩
noncomputable def C0:bW:=fun K ps T=>∃v:aH,ps=[⟨bg,v⟩]∧T=bC K aO (· =true)
theorem Bs (M:bU mg)(CA:az P w K mg base "are_whole" 2 (aE AF K))(CR:az P w K mg base "has_row_form" 3 (aE Dh K))(F:bh K "has_web_form" "has_web_form" rA f fd)(hm:mg "has_web_form"=some (.ref f))(hb:Binds K fd ["web"] []):az P w K mg base "has_web_form" 4 (aE C0 K):=by
  have nd:=yT.nd
  have ndc:List.Nodup [("row":Str)]:=by decide
  refine bM F yT hm hb (fun qs T ⟨x,e,_⟩=>by rw [e];rfl) (fun cdv A outer s H E qs T hr hS=>?_)
  obtain ⟨v,rfl,rfl⟩:=hS
  refine aj (bu (TW.tv (fU (bH (aZ (eC M.isinstance M.tuple PyProof.Rows.boot_tuple (aa 0 rfl) (wJ (r:=ag ae) (r':=ag aA))))) (fun _=>eT (aI nV (pE M.len (aa 0 rfl) (xM (r:=ag ae) (r':=ag aA))) ak)))) (fun h=>absurd h (by decide)) (fun _=>aU ?_))
  refine aj (aK 1 (cU (r:=ag ae) (r':=ag aA) (aa 0 rfl)) (aj (aK 2 (bI (r:=ag ae) (r':=ag aA) (aa 0 rfl)) ?_)))
  refine aj (bu (TW.tv (fU (bH (aZ (eC M.isinstance M.list PyProof.Rows.boot_list (aa 1 rfl) ty_list))) (fun _=>eT (bH (aZ (eC M.isinstance M.list PyProof.Rows.boot_list (aa 2 rfl) ty_list)))))) (fun h=>absurd h (by decide)) (fun _=>aU ?_))
  exact ar (bA (ei (aW (CA.mono (by decide:2≤3)) hr (af (aa 1 rfl) ao) ⟨.inl ⟨_,rfl⟩,rfl⟩) (fun _=>ef (ee M.all (aC.im (bj (own:=["row"]) (fr:=[]) (ix:=[]) (p:=fun _=>true) (f:=fun _=>true) (bc (so:=ah rA) (N0:=["web","places","rows"]) rfl rfl (fun x h=>aV h) (by decide +kernel)) (ba (aa 2 rfl))
      (fun C s H ex=>aM 0) (fun x=>⟨.inr rfl,trivial⟩) (fun C s H ex x hx=>bP) (fun C s H ex x hx _=>aW CR hr (af (aa 0 rfl) ao) ⟨_,rfl,rfl⟩)))))) (by rw [all_true];rfl))
noncomputable abbrev sF:Stmt:=top j7
theorem yy:ax ["web","places","rows"] ["web"] (ah sF):=⟨rfl,rfl,rfl,by decide +kernel,rfl,by decide +kernel,by decide +kernel⟩
noncomputable def eV (v:aH):Bool:=
  if !(decide ((1:Int)≤(v.1.length:Int))&&decide ((v.1.length:Int)≤4)) || !(decide ((1:Int)≤(v.2.length:Int))&&decide ((v.2.length:Int)≤60)) then false
  else ((v.1.filter fun _=>true).map fun n=>decide ((2:Int)≤n)&&decide (n≤16)).all id
noncomputable def Cv:bW:=fun K ps T=>∃v:aH,ps=[⟨bg,v⟩]∧T=bC K aO (· =eV v)
theorem Bv (M:bU mg)(F:bh K "has_web_sizes" "has_web_sizes" sF f fd)(hm:mg "has_web_sizes"=some (.ref f))(hb:Binds K fd ["web"] []):az P w K mg base "has_web_sizes" 1 (aE Cv K):=by
  have nd:=yy.nd
  have ndc:List.Nodup [("size":Str)]:=by decide
  obtain ⟨t1,h1⟩:=M.mostParts
  obtain ⟨t2,h2⟩:=M.mostRows
  obtain ⟨t3,h3⟩:=M.leastPlaces
  obtain ⟨t4,h4⟩:=M.mostPlaces
  refine bM F yy hm hb (fun qs T ⟨x,e,_⟩=>by rw [e];rfl) (fun cdv A outer s H E qs T hr hS=>?_)
  obtain ⟨v,rfl,rfl⟩:=hS
  refine aj (aK 1 (cU (r:=ag ae) (r':=ag aA) (aa 0 rfl)) (aj (aK 2 (bI (r:=ag ae) (r':=ag aA) (aa 0 rfl)) ?_)))
  refine aj (bu (TW.tv (fU (bH (gG eW eW ak (cj M.len (aa 1 rfl)) (cF h1))) (fun _=>eT (bH (gG eW eW ak (cj M.len (aa 2 rfl)) (cF h2)))))) (fun h=>?_) (fun h=>aU ?_))
  · exact ar (bA eK (by rw [eV,if_pos h]))
  · exact ar (bA (ee M.all (aC.im (bj (own:=["size"]) (fr:=[]) (ix:=[]) (p:=fun _=>true) (f:=fun n=>decide ((2:Int)≤n)&&decide (n≤16)) (bc (so:=ah sF) (N0:=["web","places","rows"]) rfl rfl (fun x h=>aV h) (by decide +kernel)) (ba (aa 1 rfl))
      (fun C s H ex=>aM 0) (fun x=>⟨.inr rfl,trivial⟩) (fun C s H ex x hx=>bP) (fun C s H ex x hx _=>eY eW eW (cF h3) (aa 0 rfl) (cF h4))))) (by rw [eV,if_neg (by rw [h];decide)]))
noncomputable abbrev wz:Stmt:=top kF
theorem Ag:ax ["places","row","part"] ["places","row"] (ah wz):=⟨rfl,rfl,rfl,by decide +kernel,rfl,by decide +kernel,by decide +kernel⟩
noncomputable def cw (ns:List Int)(r:Row):Bool:=
  if !(decide (0≤r.1)&&decide (r.1 < (ns.length:Int))) then false
  else if !(decide (0≤r.2.1)&&decide (r.2.1 < ns.getD r.1.toNat 0)) || !(decide (0≤r.2.2.1)&&decide (r.2.2.1 < ns.getD r.1.toNat 0)) then false
  else (!decide (r.2.1=1))&&(decide (r.2.2.2= -1) ||(decide (r.1 < r.2.2.2)&&decide (r.2.2.2 < (ns.length:Int))))
noncomputable def CQ:bW:=fun K ps T=>∃ns r,ps=[⟨ag ae,ns⟩,⟨aA,r⟩]∧T=bC K aO (· =cw ns r)
theorem Bo (M:bU mg)(F:bh K "leads_within" "leads_within" wz f fd)(hm:mg "leads_within"=some (.ref f))(hb:Binds K fd ["places","row"] []):az P w K mg base "leads_within" 1 (aE CQ K):=by
  have nd:=Ag.nd
  obtain ⟨t1,hEND⟩:=M.end_
  obtain ⟨t2,hNC⟩:=M.noCall
  refine bM F Ag hm hb (fun qs T ⟨ns,r,e,_⟩=>by rw [e];rfl) (fun cdv A outer s H E qs T hr hS=>?_)
  obtain ⟨ns,r,rfl,rfl⟩:=hS
  refine aj (aK 2 (gy (aa 1 rfl)) ?_)
  refine aj (bu (bH (gG eW dH ak (aa 2 rfl) (cj M.len (aa 0 rfl)))) (fun h=>?_) (fun h=>?_))
  · exact ar (bA eK (by rw [cw,if_pos h]))
  refine aU ?_
  have h':0≤r.1∧r.1 < (ns.length:Int):=by simpa using h
  have hix:cA ns r.1=some (ns.getD r.1.toNat 0):=cD h'.1 h'.2
  refine aj (bu (TW.tv (fU (bH (gG eW dH ak (fH (aa 1 rfl)) (bB (aa 0 rfl) (aa 2 rfl) hix))) (fun _=>eT (bH (gG eW dH ak (dh (aa 1 rfl)) (bB (aa 0 rfl) (aa 2 rfl) hix)))))) (fun h2=>?_) (fun h2=>?_))
  · exact ar (bA eK (by rw [cw,if_neg (by rw [h];decide),if_pos h2]))
  refine aU (ar (bA (ei (dz nV (fH (aa 1 rfl)) (cF hEND)) (fun _=>ef (Cb (dz bT (lP (aa 1 rfl)) (cF hNC)) (fun _=>ef (eY dH dH (aa 2 rfl) (lP (aa 1 rfl)) (cj M.len (aa 0 rfl))))))) ?_))
  rw [cw,if_neg (by rw [h];decide),if_neg (by rw [h2];decide)]
noncomputable abbrev rE:Stmt:=top nh
theorem zc:ax ["rows","part"] ["rows","part"] (ah rE):=⟨rfl,rfl,rfl,by decide +kernel,rfl,by decide +kernel,by decide +kernel⟩
noncomputable def called (rs:List Row)(p:Int):Bool:=((rs.filter fun _=>true).map fun r=>decide (r.2.2.2=p)).any id
noncomputable def Cn:bW:=fun K ps T=>∃(rs:List Row) (p:Int),ps=[⟨ag aA,rs⟩,⟨ae,p⟩]∧T=bC K aO (· =called rs p)
theorem AX (M:bU mg)(F:bh K "is_called" "is_called" rE f fd)(hm:mg "is_called"=some (.ref f))(hb:Binds K fd ["rows","part"] []):az P w K mg base "is_called" 1 (aE Cn K):=by
  have nd:=zc.nd
  have ndc:List.Nodup [("row":Str),"part"]:=by decide
  refine bM F zc hm hb (fun qs T ⟨_,_,e,_⟩=>by rw [e];rfl) (fun cdv A outer s H E qs T hr hS=>?_)
  obtain ⟨rs,p,rfl,rfl⟩:=hS
  exact ar (bA (mU M.any (aC.im (bj (own:=["row"]) (fr:=["part"]) (ix:=[1]) (p:=fun _=>true) (f:=fun r=>decide (r.2.2.2=p)) (bc (so:=ah rE) (N0:=["rows","part"]) rfl rfl (fun x h=>aV h) (by decide +kernel)) (ba (aa 0 rfl))
      (fun C s H ex=>aM 0) (fun x=>⟨.inr rfl,.inl rfl,trivial⟩) (fun C s H ex x hx=>bP) (fun C s H ex x hx _=>dz bT (lP (aa 0 rfl)) (aa 1 rfl))))) rfl)
end
end K1
namespace Fc
open PySem PySem.Spec L2
open PyProof.Rows hiding St
section
variable {X:Cx}{Γ Γ1 Γ2 Γ3:Ga}{α β γ δ:Type}{N:Ga→Prop}{T:RT}
theorem EV.rep {e:Expr}{r:Rep α}{x:α}{r':Rep β}{y:β}(h:EV X e Γ r x Γ1)(c:∀(R:Hp) v,r.R X.K R v x→r'.R X.K R v y):EV X e Γ r' y Γ1:=fun σ H0 R0 H R E Q q=>h σ H0 R0 H R E Q fun v H' R' E' s' e'=>q v H' R' E' s' (c R' v e')
end
section
variable {X:Cx}{Γ Γ1 Γ2 Γ3:Ga}{α β γ δ:Type}{N:Ga→Prop}{T:RT}
theorem paired_ints {K:PySem.W.Frag}{R:Hp}:∀ys:List Int,PySem.Paired (ae.R K R) (ys.map V.int) ys
  | []=>.nil
  | _::r=>.cons rfl (paired_ints r)
theorem i4 {a:Expr}{p1 p2 pos pos2:Pos}{n:Int}(hml:X.mg "list"=none)(hmr:X.mg "range"=none)(ha:EV X a Γ ae n Γ1)(hn: -1000000≤n∧n≤1000000)(hs:autoParam (starEach [a] X.env=[(false,eval a X.env)]) Fc.ai)
    (hs2:autoParam (starEach [.Call (.Name "range" p2) [a] [] pos2] X.env=[(false,eval (.Call (.Name "range" p2) [a] [] pos2) X.env)]) Fc.ai) (hc:autoParam (X.calm=true) Fc.ai) (hg:autoParam (Gl X "list") Fc.ai) (hgr:autoParam (Gl X "range") Fc.ai):aC X (.Call (.Name "list" p1) [.Call (.Name "range" p2) [a] [] pos2] [] pos) Γ ae (ups 0 n.toNat) Γ1:=by
  intro σ H0 R0 H R E Q q
  refine eS (gd (ni hc) hg hml PyProof.Rows.boot_list (aT (gd lH hgr hmr boot_range (aT aL bL hs) (by decide) (by decide) hs) bL hs2) (by decide) (by decide) hs2) (ha σ H0 R0 H R E _ fun v H1 R1 E1 s1 e1=>⟨n,by rw [show v=V.int n from e1],fun p hp=>?_⟩)
  refine ⟨p,0,n,rfl,aD,by decide,by decide,hn.1,hn.2,fun d hd=>?_⟩
  have E2:=E1.grow (Ext.cV E1.sub hp (.rng 0 n))
  rw [Int.sub_zero]
  exact q d _ _ R1 (E2.grow (Ext.cV E2.sub hd _)) s1 aD (E2.sub.free hd) (E2.ext.h.free hd) (E2.off hd) (paired_ints _) (by rw [aN];exact Nat.le_trans (show n.toNat≤1000000 by omega) (by decide))
end
end Fc
namespace K1
open PySem L2 Fc
open PySem.Spec hiding Row
open PyProof.Rows hiding St
open PySem.Builtin.Int (intBits)
theorem mj {a b:Int}{m:Nat}(hb:0 < b)(ha:intBits a≤m):intBits (a / b)≤m:=by
  rw [← Int.fdiv_eq_ediv_of_nonneg a (Int.le_of_lt hb)];exact bits_fdiv ha
theorem jo {x y:Int}(h0:0≤x)(h1:x < 4294967296):IntMulOk x y:=.of_left (intBits_le_64 (by omega) (by omega))
theorem fi {n:Nat}{i:Int}(h0:0≤i)(h1:i < n):f6 n i=some i.toNat:=by unfold f6;rw [if_pos h0,if_pos h1]
noncomputable abbrev kd:Rep (Int×Int):=ay ae ae
theorem bE {n:Nat}{k:Int}:k∈ups 0 n↔0≤k∧k < n:=by
  unfold ups
  rw [List.mem_map]
  constructor
  · rintro ⟨j,hj,rfl⟩
    have:=List.mem_range.mp hj
    omega
  · rintro ⟨h0,h1⟩
    exact ⟨k.toNat,List.mem_range.mpr (by omega),by omega⟩
theorem nM (n:Nat):(ups 0 n).Pairwise (· < ·):=by
  unfold ups
  rw [List.pairwise_map]
  exact List.pairwise_lt_range.imp fun h=>by omega
theorem gY (n:Nat):(ups 0 n).Nodup:=(nM n).imp fun h=>by omega
theorem aP {n:Nat}(h:n≤1000000):n≤sizeLine:=Nat.le_trans h (by decide)
theorem cH {α:Type}{xs:List α}{i:Int}(d:α)(h0:0≤i)(h1:i < xs.length):cA xs i=some (xs.getD i.toNat d):=by
  rw [eO h0 h1,List.getElem?_eq_getElem (by omega),List.getD_eq_getElem?_getD,List.getElem?_eq_getElem (by omega)];rfl
theorem uK {α:Type}{xs:List α}{y:α}(h:xs[xs.length - 1]?=some y):cA xs (-1)=some y:=by
  have hl:0 < xs.length:=by
    have:=(List.getElem?_eq_some_iff.mp h).1
    omega
  unfold cA f6
  rw [if_neg (by omega),if_pos (by omega)]
  show xs[((-1:Int) + (xs.length:Int)).toNat]?=_
  rw [show ((-1:Int) + (xs.length:Int)).toNat=xs.length - 1 by omega];exact h
theorem rep0 (n:Nat):(List.replicate n [(0:Int)]).flatten=List.replicate n 0:=by
  induction n with
  | zero=>rfl
  | succ n ih=>rw [List.replicate_succ,List.flatten_cons,ih,List.replicate_succ];rfl
end K1
namespace Fc
open PySem PySem.Spec L2
open PyProof.Rows hiding St
section
variable {X:Cx}{Γ Γ1 Γ2 Γ3:Ga}{α β γ δ:Type}{N:Ga→Prop}{T:RT}
theorem jR (xs:Array (Int×Tok)):∀n:Nat,preSum (numAt xs) n=((xs.toList.map (·.1)).take n).sum
  | 0=>rfl
  | n + 1=>by
    have e:preSum (numAt xs) (n + 1)=preSum (numAt xs) n + numAt xs n:=rfl
    rw [e,jR xs n,PySem.sum_take_succ,numAt_eq]
theorem sP (hc:X.calm=true):dk X (.builtin "sum") (fun xs H Q=>∃(p:Addr) (ns:List Int),xs=[.ref p]∧bq X.K H p (ns.map V.int)∧Q (.int ns.sum) H):=by
  intro pins s σ H xs us Q I r h
  obtain ⟨p,ns,rfl,hq,q⟩:=h
  obtain ⟨u,rfl,rx⟩:=vals1 r
  cases rx
  obtain ⟨its,r',pl,hz⟩:=I.list hq
  have hi:=intsAre_of r'
  have hl:=pl.isList
  obtain ⟨xs,e⟩:=hi.allInts.items
  have hns:ns=xs.toList.map (·.1):=by rw [← hi.numsOf,← nums_intItems,← e]
  rw [e] at hl
  refine call_sum_walkG (iter_intList hl fun s₂ e st hfp hlI=>?_)
  subst e
  refine ⟨_,_,_,_,_,_,numAt xs,rfl,Walks.list (A:=X.A.in1) (I.ok.hd hc) _ p hlI (intItems xs),st,hfp,(fun _ _=>intItems_at),fun h' tk t' hk=>?_⟩
  have es:preSum (numAt xs) (intItems xs).size=ns.sum:=by
    rw [jR,hns,List.take_of_length_le]
    simp [intItems]
  rw [es]
  exact ⟨.int _,H,I.kept (old_kept hk),⟨t',rfl⟩,q⟩
theorem oj {a:Expr}{p pos:Pos}{ns:List Int}(hm:X.mg "sum"=none)(ha:EV X a Γ (ag ae) ns Γ1)(hs:autoParam (starEach [a] X.env=[(false,eval a X.env)]) Fc.ai)(hc:autoParam (X.calm=true) Fc.ai)(hg:autoParam (Gl X "sum") Fc.ai):EV X (.Call (.Name "sum" p) [a] [] pos) Γ ae ns.sum Γ1:=
  mO (sP hc) hm PyProof.Rows.boot_sum ha (fun R H v Q s ⟨p,vs,e,hp,pp,_⟩ q=>⟨p,ns,by rw [e],by rw [← dW pp];exact bq.of (s _ _ hp),q _ rfl⟩) hs hg
theorem pG {r:Rep α}{r':Rep β} [DecidableEq α] [DecidableEq β]{n m:Nat}(e:cY r n)(e':cY r' m){X:Cx}{pins:List (Addr×Obj)}{σ:St}{H:Hp}{s:Shared}{R:Hp}{A:Around}(I:Inv X pins σ H s)(sub:au R H){a b:Addr}{v1 v2 w1 w2:V}{x y:α×β}(ha:R a=some (.tup [v1,v2]))(hb:R b=some (.tup [w1,w2]))
    (p1:r.R X.K R v1 x.1) (p2:r'.R X.K R v2 x.2) (q1:r.R X.K R w1 y.1) (q2:r'.R X.K R w2 y.2) (hu:A.units + (n + 1) < cLine) (hu':A.units + (m + 1) < cLine):
    SeqAt.RcAt A s (.ref a) (.ref b) (decide (x=y))∧SeqAt.RcNeAt A s (.ref a) (.ref b) (!decide (x=y)):=by
  have key:=sy (A:=A) (k:=fun j=>if j=0 then decide (x.1=y.1) else decide (x.2=y.2)) I sub ha hb rfl (by omega) fun us us' hv hw j h1 h2=>by
    cases hv with
    | cons a1 t=>cases t with
      | cons a2 t=>cases t;cases hw with
        | cons b1 t=>cases t with
          | cons b2 t=>
            cases t
            match j,h1 with
            | 0,_=>exact e.eq (A:=A.in1) I sub a1 b1 p1 q1 (by rw [in1_units];omega)
            | 1,_=>exact e'.eq (A:=A.in1) I sub a2 b2 p2 q2 (by rw [in1_units];omega)
            | j + 2,h=>exact absurd h (by simp)
  have d:(List.range [v1,v2].length).all (fun j=>if j=0 then decide (x.1=y.1) else decide (x.2=y.2))=decide (x=y):=by
    obtain ⟨x1,x2⟩:=x
    obtain ⟨y1,y2⟩:=y
    simp [List.range_succ,Bool.eq_iff_iff]
  rw [d] at key
  exact key
theorem wV {r:Rep α}{r':Rep β} [DecidableEq α] [DecidableEq β]{n m k:Nat}(e:cY r n)(e':cY r' m)(hn:n < k)(hm:m < k):cY (ay r r') k:=by
  have inj:∀{K:PySem.W.Frag} {R:Hp} {v:V} {x y:α×β},(ay r r').R K R v x→(ay r r').R K R v y→x=y:=by
    rintro K R v ⟨x1,x2⟩ ⟨y1,y2⟩ ⟨a,v1,v2,rfl,h,p1,p2⟩ ⟨a',w1,w2,e1,h',q1,q2⟩
    cases e1
    rw [h] at h'
    cases h'
    exact Prod.ext (e.inj p1 q1) (e'.inj p2 q2)
  refine ⟨inj,?_⟩
  intro X pins σ H s R A I sub v u vv uu x y rv ru h1 h2 hu
  have h1':=h1
  have h2':=h2
  obtain ⟨a,v1,v2,rfl,ha,p1,p2⟩:=h1
  obtain ⟨b,w1,w2,rfl,hb,q1,q2⟩:=h2
  cases rv
  cases ru
  by_cases hab:a=b
  · subst hab
    rw [decide_eq_true (inj h1' h2')]
    exact SeqAt.EqAt.same _
  · exact SeqAt.EqAt.of_refs hab (pG e e' I sub ha hb p1 p2 q1 q2 (by omega) (by omega)).1
theorem wC {r:Rep α}{r':Rep β} [DecidableEq α] [DecidableEq β]{n m:Nat}(e:cY r n)(e':cY r' m)(hu:X.A.units + (n + 1) < cLine)(hu':X.A.units + (m + 1) < cLine){x y:α×β}:fB X .Eq (ay r r') (ay r r') x y (decide (x=y)):=
  ⟨fun v u H Q=>∃R,au R H∧(ay r r').R X.K R v x∧(ay r r').R X.K R u y∧Q (.bl (decide (x=y))) H,fun pins s σ H v1 u1 v u Q I rx ry ⟨R,sub,h1,h2,q⟩=>by
    obtain ⟨a,v1,v2,rfl,ha,p1,p2⟩:=h1
    obtain ⟨b,w1,w2,rfl,hb,q1,q2⟩:=h2
    cases rx
    cases ry
    exact (pG (A:=X.A) e e' I sub ha hb p1 p2 q1 q2 hu hu').1 _ _ _ _ ⟨.bl _,H,I,rfl,q⟩,fun R H v u Q s h1 h2 q=>⟨R,s,h1,h2,q⟩⟩
theorem vh {a:Expr}{p2 pos p4:Pos}{k:Nat}{w:Row}(ha:EV X a Γ aA w Γ):EV X (.Subscript a (.Slice none (some (.Constant (.int 2) k p4)) none p2) pos) Γ (ay ae ae) (w.1,w.2.1) Γ:=by
  intro σ H0 R0 H R E Q q
  refine eS (kj Au aL p8 (pv dQ)) (ha σ H0 R0 H R E _ fun v H1 R1 E1 s1 e1=>?_)
  obtain ⟨p,rfl,hp⟩:=e1
  refine ⟨_,rfl,p,_,rfl,dE.of (E1.sub _ _ hp),?_,fun d hd=>?_⟩
  · exact fun z=>absurd z.2 (by show¬(HT.sIx 4 4 (some 2)=4);decide)
  · have s2:au R1 (upd R1 d (.tup [V.int w.1,V.int w.2.1])):=au.fresh (E1.sub.free hd) _
    exact q _ _ (upd R1 d (.tup [V.int w.1,V.int w.2.1])) (E1.grow (Ext.fresh E1.sub hd _)) (s1.trans s2) ⟨d,_,_,rfl,aD,rfl,rfl⟩
noncomputable def da (F:List (Int×Int)):List (Int×V):=F.map fun p=>(p.1,.int p.2)
noncomputable def bX (F:List (Int×Int))(k:Int):Option Int:=(F.find? fun p=>decide (p.1=k)).map (·.2)
noncomputable def h8 (F:List (Int×Int))(k v:Int):List (Int×Int):=if (bX F k).isSome then F.map (fun p=>if p.1=k then (p.1,v) else p) else F++[(k,v)]
theorem gE:∀(F:List (Int×Int)) (k:Int),cJ (cM (da F)) (Sum.inl k:Key)=(bX F k).map V.int
  | [],_=>rfl
  | p ::r,k=>by
    have ih:=gE r k
    by_cases e:p.1=k
    · have e':(Sum.inl p.1:Key)=Sum.inl k:=by rw [e]
      have h1:cJ (cM (da (p::r))) (Sum.inl k:Key)=some (.int p.2):=cT (p:=((Sum.inl p.1:Key),V.int p.2)) e'
      rw [h1]
      unfold bX
      rw [List.find?_cons,decide_eq_true e];rfl
    · have e':¬(Sum.inl p.1:Key)=Sum.inl k:=fun z=>e (Sum.inl.inj z)
      have h1:cJ (cM (da (p::r))) (Sum.inl k:Key)=cJ (cM (da r)) (Sum.inl k:Key):=cS (p:=((Sum.inl p.1:Key),V.int p.2)) e'
      rw [h1,ih]
      unfold bX
      rw [List.find?_cons,decide_eq_false e]
theorem tI (F:List (Int×Int))(k v:Int):putK (cM (da F)) (Sum.inl k:Key) (.int v)=cM (da (h8 F k v)):=by
  unfold putK h8
  rw [e8,gE]
  have e:((bX F k).map V.int).isSome=(bX F k).isSome:=by cases bX F k<;>rfl
  rw [e]
  split
  · unfold cM da
    simp only [List.map_map]
    apply List.map_congr_left
    intro p _
    simp only [Function.comp]
    by_cases h:p.1=k
    · rw [if_pos (by rw [h]),if_pos h]
    · rw [if_neg (fun z=>h (Sum.inl.inj z)),if_neg h]
  · unfold cM da
    rw [List.map_append,List.map_append];rfl
theorem ig (F:List (Int×Int))(k:Int):fm (da F) k=(bX F k).isSome:=by
  rw [← iB,gE];cases bX F k<;>rfl
noncomputable def jk:Rep (List (Int×Int)):=⟨fun _ H v F=>∃a,v= .ref a∧H a=some (.dK (cM (da F))),fun s ⟨a,e,q⟩=>⟨a,e,s _ _ q⟩⟩
theorem nU {a b:Expr}{pos:Pos}{F:List (Int×Int)}{k y:Int}(hu:X.A.units + 1 < cLine)(ha:EV X a Γ jk F Γ1)(hb:EV X b Γ1 ae k Γ2)(h:bX F k=some y)(hs:autoParam (qC b) Fc.nr):EV X (.Subscript a b pos) Γ ae y Γ2:=by
  intro σ H0 R0 H R E Q q
  refine eS (pM hu aL aL hs) (ha σ H0 R0 H R E _ fun v H1 R1 E1 s1 e1=>hb σ H0 R0 H1 R1 E1 _ fun u H2 R2 E2 s2 e2=>?_)
  obtain ⟨p,rfl,hp⟩:=jk.mono s2 e1
  cases e2
  have g:=eZ.k (k:=Sum.inl k) (E2.sub _ _ hp)
  rw [gE,h] at g
  exact ⟨p,_,rfl,g,q _ H2 R2 E2 (s1.trans s2) rfl⟩
theorem rK (i:Nat){x:Str}{ke ve:Expr}{p1 p2 pos:Pos}{k v:Int}{F:List (Int×Int)}(hu:X.A.units + 1 < cLine)(hk:EV X ke Γ ae k Γ)(hv':EV X ve Γ ae v Γ)(hΓ:Γ[i]?=some (.di (da F)))(hz:F.length < sizeLine)(h:N (Γ.set i (.di (da (h8 F k v)))))
    (hN:autoParam (X.N[i]?=some x) Fc.ai) (hvi:autoParam (ck X.env.scope x) Fc.bO)
    (hd:autoParam ((x==("__debug__":Str))=false) Fc.aw) (hcd:autoParam ((x==("__classdict__":Str))=false) Fc.aw)
    (hs:autoParam (swapsWith ve (some (.Subscript (.Name x p1) ke p2)) pos.line X.env=pure false) Fc.ai):W1 X (.Assign [.Subscript (.Name x p1) ke p2] ve pos) Γ N T:=fun σ H0 R0 H R E D dn dr=>by
  refine sS (pX hu (br hN hvi hd hcd) aL aL hs) (hv' σ H0 R0 H R E _ fun u0 H0' R0' E0 s0 e0=>?_)
  obtain ⟨a,ea,ha,hR⟩:=E0.ent i _ hΓ
  refine ⟨.ref a,at_of ea,hk σ H0 R0 H0' R0' E0 _ fun u H1 R1 E1 s1 e1=>?_⟩
  obtain ⟨a',ea',ha',hR'⟩:=E1.ent i _ hΓ
  rw [ea] at ea';cases ea'
  cases e1
  cases e0
  refine ⟨a,_,rfl,lr.k (k:=Sum.inl k) ha' (by unfold cM da;rw [List.length_map,List.length_map];exact hz),?_⟩
  rw [tI]
  exact dn σ _ R1 _ (E1.upd (en:=.di (da (h8 F k v))) hΓ rfl ea hR' ⟨a,rfl,aD,hR'⟩) (s0.trans s1) h
theorem pN (i:Nat){x:Str}{p1 pos:Pos}{P:List (Int×Int)→Prop}{F:List (Int×Int)}(hΓ:Γ[i]?=some (.di (da F)))(h:P F)(hN:autoParam (X.N[i]?=some x) Fc.ai)(hv:autoParam (ck X.env.scope x) Fc.bO)
    (hd:autoParam ((x==("__debug__":Str))=false) Fc.aw) (hcd:autoParam ((x==("__classdict__":Str))=false) Fc.aw):W1 X (.Return (some (.Name x p1)) pos) Γ N (bC X.K jk P):=fun σ H0 R0 H R E D dn dr=>by
  obtain ⟨a,ea,ha,hR⟩:=E.ent i _ hΓ
  have h0:H0 a=none:=E.new i _ a hΓ rfl ea
  refine sS (dO (br hN hv hd hcd)) ⟨.ref a,at_of ea,dr _ H (upd R a (.dK (cM (da F)))) ⟨E.ext.h,E.ext.r.trans (au.fresh hR _),fun b o qb=>?_,fun b hb=>?_⟩ ⟨F,⟨a,rfl,aD⟩,h⟩⟩
  · by_cases hb:b=a
    · subst hb;rw [aD] at qb;cases qb;exact ha
    · rw [aJ hb] at qb;exact E.ext.s b o qb
  · rw [aJ (show b≠a from fun e=>hb (by rw [e];exact h0))];exact E.ext.old b hb
theorem aq.zS {K:PySem.W.Frag}{σ:St}{H0 R0 H R H' R':Hp}{Γf:Ga}(E:aq K σ H0 R0 H R Γ)(E':aq K σ H H H' R' Γf):aq K σ H0 R0 H' R Γ:=
  E.grow ⟨E'.ext.h,au.refl _,E.sub.trans E'.ext.h,fun _ _=>rfl⟩
theorem TV.frz {Γf:Ga}(hF:∀(σ:St) (H0 R0 H R:Hp),aq X.K σ H0 R0 H R Γ→aq X.K σ H H H H Γf){e:Expr}{b:Bool}(h:TV X e Γf b Γf):TV X e Γ b Γ:=fun σ H0 R0 H R E Q q=>
  h σ H H H H (hF σ H0 R0 H R E) Q fun H' R' E' s'=>q H' R (E.zS E') (au.refl _)
theorem EV.frz {Γf:Ga}(hF:∀(σ:St) (H0 R0 H R:Hp),aq X.K σ H0 R0 H R Γ→aq X.K σ H H H H Γf){e:Expr}{r:Rep α}{y:α}(flat:∀(K:PySem.W.Frag) (H H':Hp) v y,r.R K H v y→r.R K H' v y)(h:EV X e Γf r y Γf):EV X e Γ r y Γ:=fun σ H0 R0 H R E Q q=>
  h σ H H H H (hF σ H0 R0 H R E) Q fun v H' R' E' s' e'=>q v H' R (E.zS E') (au.refl _) (flat X.K R' R v y e')
noncomputable def eM:Rep Unit:=⟨fun _ _ v _=>v= .non,fun _ h=>h⟩
theorem fM {S:bW}{x:Str}{k:Nat}{e:Expr}{es:List Expr}{p p2 pos:Pos}{ps:List Pk}{Pd:Unit→Prop}(C:az X.prog X.w X.K X.mg X.base x k (aE S X.K))(hr:bt k X.A)(ha:HA X (e::es) Γ ps Γ1)(hS:S X.K ps (bC X.K eM Pd))(h:N Γ1)
    (hg:autoParam (Gl X x) Fc.ai) (hdb:autoParam ((x==("__debug__":Str))=false) Fc.aw) (he:autoParam (starEach (e::es) X.env=(false,eval e X.env)::starEach es X.env) Fc.ai) (hpl:autoParam ((backTo p2 (starEach es X.env)).any (·.1)=false) Fc.ai)
    (hsw:autoParam (swapsWith (.Call (.Name x p) (e::es) [] p2) none pos.line X.env=pure false) Fc.ai):W1 X (.Expr (.Call (.Name x p) (e::es) [] p2) pos) Γ N T:=fun σ H0 R0 H R E D dn dr=>
  sS (fc aL hsw) (dv C hr ha hS E (fun H1 R1 v H' R' E1 s1 xx t=>dn σ H' R' _ (E1.grow xx) (s1.trans xx.r) h) hg hdb he hpl)
end
section
variable {P:Program}{w:World}{K:PySem.W.Frag}{mg:Str→Option Value}{base:Heap}{α:Type}
theorem oq {S:bW}{x qual:Str}{st:Stmt}{f:Addr}{fd:FuncData}{N ps:List Str}{k:Nat}(F:bh K x qual st f fd)(Sc:ax N ps (ah st))(hm:mg x=some (.ref f))(hb:Binds K fd ps [])(len:∀qs T,S K qs T→qs.length=ps.length)
    (hbody:∀(cdv:Value) (A:Around) (outer:List Env) (s:Shared) (H:Hp) (E:XK) (qs:List Pk) (T:RT),bt k (A.deeper (envOfC qual (ah st) s.heap.objs.size f cdv))→S K qs T→(∀H0 H' R',T H0 .non H' R')∧
      WS (bF df P w K mg base N qual (ah st) f cdv A outer s H E).bR (bo st) (dc qs N.length) (fun _=>True) T):az P w K mg base x (k + 1) (aE S K):=by
  refine ⟨f,fd,ps,?_,hm,F.kp,hb⟩
  refine F.ok Sc (fun vs H Q E h=>?_) (fun cdv A outer s H vs Q E hr h=>?_)
  · obtain ⟨R,qs,T,_,p,hS,_⟩:=h
    rw [p.length];exact len qs T hS
  · obtain ⟨R,qs,T,sR,p,hS,q⟩:=h
    have hl:qs.length≤N.length:=by
      rw [len qs T hS]
      have:=congrArg List.length Sc.pre
      rw [List.length_take] at this
      omega
    obtain ⟨h1,h2⟩:=hbody cdv A outer s H E qs T hr hS
    exact ⟨_,dB,h2 (L2.start N vs) H R H R (dq sR p hl) {nx:=fun _ H'=>Q .non H',rt:=Q} (fun σ' H' R' Γ' E' _ _=>q .non H' R' E'.ext (h1 _ _ _)) fun v H' R' xx t=>q v H' R' xx t⟩
end
section
variable {X:Cx}{Γ Γ1 Γ2 Γ3:Ga}{α β γ δ:Type}{N:Ga→Prop}{T:RT}
theorem Bd (i:Nat){x:Str}{pos:Pos}{r:Rep α}{xs:List α}(hΓ:Γ[i]?=some (.im (ag r) xs))(hN:autoParam (X.N[i]?=some x) Fc.ai)(hv:autoParam (ck X.env.scope x) Fc.bO)
    (hd:autoParam ((x==("__debug__":Str))=false) Fc.aw) (hcd:autoParam ((x==("__classdict__":Str))=false) Fc.aw)
    (he:autoParam (∀whole,isTrue (.Name x pos) X.env whole=(do let v ← whole;standAt (Expr.Name x pos).pos;holding [v] (truthy v))) Fc.cZ):TV X (.Name x pos) Γ (!xs.isEmpty) Γ:=by
  intro σ H0 R0 H R E Q q
  obtain ⟨v,ea,a,vs,rfl,ha,pp,_⟩:=E.ent i _ hΓ
  refine tS (oJ (br hN hv hd hcd) he) ⟨.ref a,at_of ea, !xs.isEmpty,.inl ⟨vs,bq.of (E.sub _ _ ha),?_⟩,q H R E (au.refl _)⟩
  cases pp<;>rfl
theorem y8 {i:Nat}{r:Rep α}{xs:List α}(hΓ:Γ[i]?=some (.mu r xs))(hz:xs.length≤sizeLine)(σ:St)(H0 R0 H R:Hp)(E:aq X.K σ H0 R0 H R Γ):aq X.K σ H H H H ((Γ.map kM).set i (.im (ag r) xs)):=by
  obtain ⟨a,vs,ea,ha,hR,pp⟩:=E.ent i _ hΓ
  exact E.frz.jv (i:=i) (e0:=.no) (by rw [List.getElem?_map,hΓ];rfl) ⟨.ref a,ea,a,vs,rfl,ha,Paired.map (fun _ _=>r.mono E.sub) pp,hz⟩ fun b w=>by cases w
theorem xI (i:Nat){x:Str}{p1 pos:Pos}{r:Rep α}{xs:List α}{P:List α→Prop}(hΓ:Γ[i]?=some (.mu r xs))(hz:xs.length≤sizeLine)(h:P xs)(hN:autoParam (X.N[i]?=some x) Fc.ai)(hv:autoParam (ck X.env.scope x) Fc.bO)
    (hd:autoParam ((x==("__debug__":Str))=false) Fc.aw) (hcd:autoParam ((x==("__classdict__":Str))=false) Fc.aw):W1 X (.Return (some (.Name x p1)) pos) Γ N (jm X.K r P):=fun σ H0 R0 H R E D dn dr=>by
  obtain ⟨a,vs,ea,ha,hR,pp⟩:=E.ent i _ hΓ
  exact sS (dO (br hN hv hd hcd)) ⟨.ref a,at_of ea,dr _ H R E.ext ⟨a,vs,xs,rfl,E.new i _ a hΓ rfl ea,ha,hR,pp,hz,h⟩⟩
theorem jA {j:Nat}{pos:Pos}:EV X (.Constant .none j pos) Γ eM () Γ:=fun _ _ _ _ _ E _ q=>eS y6 (q _ _ _ E (au.refl _) rfl)
end
section
variable {X:Cx}{Γ Γ1 Γ2 Γ3:Ga}{α β γ δ:Type}{N:Ga→Prop}{T:RT}
noncomputable def lD (r:Rep α)(r':Rep β):Rep (α ⊕ β):=⟨fun K H v o=>match o with | .inl x=>r.R K H v x | .inr y=>r'.R K H v y,fun {K H H' v o} s h=>by cases o with | inl x=>exact r.mono s h | inr y=>exact r'.mono s h⟩
theorem EV.inl {e:Expr}{r:Rep α}{r':Rep β}{x:α}(h:EV X e Γ r x Γ1):EV X e Γ (lD r r') (.inl x) Γ1:=EV.rep h fun _ _ q=>q
theorem EV.inr {e:Expr}{r:Rep α}{r':Rep β}{y:β}(h:EV X e Γ r' y Γ1):EV X e Γ (lD r r') (.inr y) Γ1:=EV.rep h fun _ _ q=>q
end
theorem AI {α β γ:Type}{r:Rep α}{r':Rep β}{rc:Rep γ} [DecidableEq α] [DecidableEq β] [DecidableEq γ]{n m k:Nat}(e:cY (ay r r') n)(e':cY (ag rc) m)(hn:n≤k)(hm:m≤k):cY (lD (ay r r') (ag rc)) k:=by
  have tl:∀{K:PySem.W.Frag} {R:Hp} {v:V} {x:α×β} {y:List γ},(ay r r').R K R v x→(ag rc).R K R v y→False:=by
    rintro K R v x y ⟨a,v1,v2,rfl,h,_⟩ ⟨a',vs,e1,h',_⟩
    cases e1
    rw [h] at h';cases h'
  refine ⟨?_,?_⟩
  · intro K R v x y h1 h2
    cases x with
    | inl x=>cases y with
      | inl y=>exact congrArg _ (e.inj h1 h2)
      | inr y=>exact (tl h1 h2).elim
    | inr x=>cases y with
      | inl y=>exact (tl h2 h1).elim
      | inr y=>exact congrArg _ (e'.inj h1 h2)
  · intro X pins σ H s R A I sub v u vv uu x y rv ru h1 h2 hu
    have isT:∀{a:Addr} {vs:List V},R a=some (.tup vs)→∃its,s.heap.IsTuple a its:=fun {a vs} ha=>by
      obtain ⟨_,its,_,o,h1,h2,n,h3⟩:=(show bK X.prog X.w H s.heap a (.tup vs) from I.hok a _ (sub _ _ ha))
      exact ⟨_,o,h1,h2,n,h3⟩
    have isL:∀{a:Addr} {vs:List V},R a=some (.lst vs)→∃its,s.heap.IsList a its:=fun {a vs} ha=>by
      obtain ⟨us,hv,pl,_⟩:=I.list (bq.of (sub _ _ ha))
      exact ⟨_,pl.isList⟩
    cases x with
    | inl x=>cases y with
      | inl y=>rw [show decide (Sum.inl (β:=List γ) x=Sum.inl y)=decide (x=y) by simp];exact e.eq I sub rv ru h1 h2 (by omega)
      | inr y=>
        obtain ⟨a,v1,v2,rfl,ha,_⟩:=h1
        obtain ⟨b,vs,rfl,hb,_⟩:=h2
        cases rv
        cases ru
        obtain ⟨_,ta⟩:=isT ha
        obtain ⟨_,lb⟩:=isL hb
        rw [show decide (Sum.inl x=Sum.inr (α:=α×β) y)=false by simp]
        exact SeqAt.EqAt.of_refs (fun z=>by rw [z,hb] at ha;cases ha) (SeqAt.RcAt.tuple_list ta lb (by omega))
    | inr x=>cases y with
      | inl y=>
        obtain ⟨b,vs,rfl,hb,_⟩:=h1
        obtain ⟨a,v1,v2,rfl,ha,_⟩:=h2
        cases rv
        cases ru
        obtain ⟨_,ta⟩:=isT ha
        obtain ⟨_,lb⟩:=isL hb
        rw [show decide (Sum.inr (α:=α×β) x=Sum.inl y)=false by simp]
        exact SeqAt.EqAt.of_refs (fun z=>by rw [z,ha] at hb;cases hb) (SeqAt.RcAt.list_tuple lb ta (by omega))
      | inr y=>rw [show decide (Sum.inr (α:=α×β) x=Sum.inr y)=decide (x=y) by simp];exact e'.eq I sub rv ru h1 h2 (by omega)
section
variable {X:Cx}{Γ Γ1 Γ2 Γ3:Ga}{α β γ δ:Type}{N:Ga→Prop}{T:RT}
end
end Fc
namespace K1
open PySem L2 Fc
open PySem.Spec hiding Row
open PyProof.Rows hiding St
open PySem.Builtin.Int (intBits)
theorem fN {α:Type} [DecidableEq α]:∀{xs ys:List α},xs.Nodup→(∀x∈xs,x∈ys)→xs.length≤ys.length
  | [],_,_,_=>Nat.zero_le _
  | x::xs,ys,h,hs=>by
    obtain ⟨h1,h2⟩:=List.nodup_cons.mp h
    have hx:x∈ys:=hs x List.mem_cons_self
    have:=fN (xs:=xs) (ys:=ys.erase x) h2 fun y hy=>(List.mem_erase_of_ne (show y≠x from fun e=>h1 (e▸hy))).mpr (hs y (List.mem_cons_of_mem _ hy))
    rw [List.length_erase_of_mem hx] at this
    have:=List.length_pos_of_mem hx
    rw [List.length_cons]
    omega
theorem tY {α:Type} [DecidableEq α]{xs ys:List α}(h:xs.Nodup)(h':ys.Nodup)(e:∀x,x∈xs↔x∈ys):xs.length=ys.length:=
  Nat.le_antisymm (fN h fun x hx=>(e x).mp hx) (fN h' fun x hx=>(e x).mpr hx)
noncomputable def jQ (ks:List Int):List (Int×V):=ks.map fun k=>(k,.bl true)
theorem lu (ks:List Int)(k:Int):fm (jQ ks) k=decide (k∈ks):=by
  unfold fm jQ
  rw [List.any_map,Bool.eq_iff_iff,List.any_eq_true]
  simp
structure nJ (es:List (Int×Int)) (s:Int) (ks ws:List Int):Prop where
  nd:ks.Nodup
  re:∀k∈ks,Reach es s k
  st:s∈ks
  wt:∀k∈ws,k∈ks
  bd:∀k∈ks,k∈s::es.map (·.2)
theorem nJ.le {es:List (Int×Int)}{s:Int}{ks ws:List Int}(h:nJ es s ks ws):ks.length≤es.length + 1:=by
  have:=fN h.nd h.bd
  simpa using this
section
variable {P:Program}{w:World}{K:PySem.W.Frag}{mg:Str→Option Value}{base:Heap}{f:Addr}{fd:FuncData}
noncomputable abbrev vC:Stmt:=top qq
noncomputable abbrev nRE:List Str:=["leads","start","found","waiting","place","lead"]
theorem AD:ax nRE ["leads","start"] (ah vC):=⟨rfl,rfl,rfl,by decide +kernel,rfl,by decide +kernel,by decide +kernel⟩
noncomputable def zP:bW:=fun K ps T=>∃(es:List (Int×Int)) (s:Int),ps=[⟨ag kd,es⟩,⟨ae,s⟩]∧es.length≤100000∧T=bC K kY fun kvs=>(kvs.map (·.1)).Nodup∧∀k,k∈kvs.map (·.1)↔Reach es s k
theorem BB    (F:bh K "reached" "reached" vC f fd)(hm:mg "reached"=some (.ref f))(hb:Binds K fd ["leads","start"] []):az P w K mg base "reached" 1 (aE zP K):=by
  have nd:=AD.nd
  refine bM F AD hm hb (fun qs T ⟨_,_,e,_⟩=>by rw [e];rfl) (fun cdv A outer s H E qs T hr hS=>?_)
  obtain ⟨es,s0,rfl,hlen,rfl⟩:=hS
  have hu:=A9 hr
  change WS _ _ [.im (ag kd) es,.im ae s0,.no,.no,.no,.no] _ _
  refine aj (lJ 2 (qf 1 rfl) qU (aj (de 3 (aB (av (aa 1 rfl) aF) (by show 1≤sizeLine;decide)) ?_)))
  refine aj (gu (fun m Γ=>∃ks ws v4 v5,Γ=[.im (ag kd) es,.im ae s0,.di (jQ ks),.mu ae ws,v4,v5]∧nJ es s0 ks ws∧m=2 * (es.length + 1 - ks.length) + ws.length∧m≤2 * es.length + 1∧∀k∈ks,k∉ws→∀b,(k,b)∈es→b∈ks) (m0:=2 * (es.length + 1 - 1) + 1)
    ⟨[s0],[s0],.no,.no,rfl,⟨by simp,fun k hk=>by rw [List.mem_singleton.mp hk];exact .base,List.mem_singleton.mpr rfl,fun k hk=>hk,fun k hk=>by rw [List.mem_singleton.mp hk];exact List.mem_cons_self⟩,rfl,Nat.le_refl _,fun k hk hn=>absurd hk hn⟩ ?_)
  rintro m Γ ⟨ks,ws,v4,v5,rfl,hI,rfl,hmb,hcl⟩
  refine ⟨!ws.isEmpty,_,yV 3 rfl,fun hne=>?_,fun he=>?_⟩
  · have hws:ws≠[]:=by intro e;rw [e] at hne;exact absurd hne (by decide)
    have hpos:0 < ws.length:=List.length_pos_iff.mpr hws
    obtain ⟨p,hp⟩:∃p,ws[ws.length - 1]?=some p:=⟨_,List.getElem?_eq_getElem (by omega)⟩
    have hpm:p∈ws:=List.mem_of_getElem? hp
    have hsplit:ws=ws.dropLast++[p]:=by
      have e:=List.dropLast_concat_getLast hws
      rw [List.getLast_eq_getElem,] at e
      rw [List.getElem?_eq_getElem (by omega)] at hp
      rw [Option.some.inj hp] at e
      exact e.symm
    have hdl:ws.dropLast.length=ws.length - 1:=List.length_dropLast
    refine aj (aK 4 (Ac 3 rfl hp) ?_)
    refine ar (du (r:=kd) (fun i Γ=>∃ks1 ws1 v5,Γ=[.im (ag kd) es,.im ae s0,.di (jQ ks1),.mu ae ws1,.im ae p,v5]∧nJ es s0 ks1 ws1∧p∈ks1∧2 * (es.length + 1 - ks1.length) + ws1.length < 2 * (es.length + 1 - ks.length) + ws.length∧(∀k∈ks1,k∉ws1→k≠p→∀b,(k,b)∈es→b∈ks1)∧∀(j:Nat) b,j < i→es[j]?=some (p,b)→b∈ks1)
      (ba (aa 0 rfl)) (aM 5) ⟨ks,ws.dropLast,v5,rfl,⟨hI.nd,hI.re,hI.st,fun k hk=>hI.wt k (List.dropLast_subset _ hk),hI.bd⟩,hI.wt p hpm,by omega,fun k hk hn hkp=>hcl k hk fun hw=>?_,fun j b hj=>absurd hj (Nat.not_lt_zero _)⟩ ?_ ?_)
    · rw [hsplit] at hw
      rcases List.mem_append.mp hw with q | q
      · exact hn q
      · exact hkp (List.mem_singleton.mp q)
    · rintro i t Γ ht ⟨ks1,ws1,u5,rfl,hJ,hp1,hme,hc1,hc2⟩
      have htm:t∈es:=List.mem_of_getElem? ht
      refine ar (bu (TW.tv (gB (aI bT (cU (aa 5 rfl)) (aa 4 rfl)) (fun _=>gw (lF 2 true hu (bI (aa 5 rfl)) rfl)))) (fun h=>?_) (fun h=>aU ?_))
      · rw [Bool.and_eq_true] at h
        have h1:t.1=p:=of_decide_eq_true h.1
        have h2:t.2∉ks1:=by
          have:=h.2
          rw [if_pos rfl,lu] at this
          simpa using this
        have hJ':nJ es s0 (ks1++[t.2]) (ws1++[t.2]):=by
          refine ⟨ik hJ.nd h2,fun k hk=>?_,List.mem_append_left _ hJ.st,fun k hk=>?_,fun k hk=>?_⟩
          · rcases List.mem_append.mp hk with q | q
            · exact hJ.re k q
            · rw [List.mem_singleton.mp q]
              exact .step (hJ.re p hp1) (by rw [← h1];exact htm)
          · rcases List.mem_append.mp hk with q | q
            · exact List.mem_append_left _ (hJ.wt k q)
            · exact List.mem_append_right _ q
          · rcases List.mem_append.mp hk with q | q
            · exact hJ.bd k q
            · rw [List.mem_singleton.mp q]
              exact List.mem_cons_of_mem _ (List.mem_map.mpr ⟨t,htm,rfl⟩)
        have hle:=hJ'.le
        have hle1:=hJ.le
        rw [List.length_append,List.length_singleton] at hle
        refine aj (sO 2 hu (bI (aa 5 rfl)) qU rfl (by rw [lu];exact decide_eq_false h2) (by unfold jQ;rw [List.length_map];exact Nat.lt_of_le_of_lt (show ks1.length≤100001 by omega) (by decide)) ?_)
        have ed:jQ ks1++[(t.2,V.bl true)]=jQ (ks1++[t.2]):=by unfold jQ;rw [List.map_append];rfl
        rw [ed]
        have hwl:ws1.length≤400000:=by
          omega
        refine ar (eA 3 (bI (aa 5 rfl)) rfl rfl (Nat.lt_of_le_of_lt hwl (by decide)) ?_)
        refine ⟨ks1++[t.2],ws1++[t.2],_,rfl,hJ',List.mem_append_left _ hp1,?_,fun k hk hn hkp b hb=>?_,fun j b hj hjb=>?_⟩
        · rw [List.length_append,List.length_append,List.length_singleton];omega
        · rcases List.mem_append.mp hk with q | q
          · exact List.mem_append_left _ (hc1 k q (fun z=>hn (List.mem_append_left _ z)) hkp b hb)
          · exact absurd (List.mem_append_right _ q) hn
        · rcases Nat.lt_or_ge j i with q | q
          · exact List.mem_append_left _ (hc2 j b q hjb)
          · have:j=i:=by omega
            subst this
            rw [ht] at hjb
            cases hjb
            exact List.mem_append_right _ (List.mem_singleton.mpr rfl)
      · refine ⟨ks1,ws1,_,rfl,hJ,hp1,hme,hc1,fun j b hj hjb=>?_⟩
        rcases Nat.lt_or_ge j i with q | q
        · exact hc2 j b q hjb
        · have:j=i:=by omega
          subst this
          rw [ht] at hjb
          cases hjb
          have h':=h
          rw [Bool.and_eq_false_iff] at h'
          rcases h' with z | z
          · exact absurd rfl (of_decide_eq_false z)
          · rw [if_pos rfl,lu] at z
            simpa using z
    · rintro Γ ⟨ks1,ws1,u5,rfl,hJ,hp1,hme,hc1,hc2⟩
      refine ⟨_,hme,ks1,ws1,_,_,rfl,hJ,rfl,by omega,fun k hk hn b hb=>?_⟩
      by_cases hkp:k=p
      · subst hkp
        obtain ⟨j,hj⟩:=List.mem_iff_getElem?.mp hb
        exact hc2 j b (List.getElem?_eq_some_iff.mp hj).1 hj
      · exact hc1 k hk hn hkp b hb
  · have hws:ws=[]:=by
      cases ws with
      | nil=>rfl
      | cons _ _=>simp at he
    subst hws
    refine ar (AK 2 rfl ?_)
    have em:(jQ ks).map (·.1)=ks:=by unfold jQ;rw [List.map_map];exact List.map_id ks
    rw [em]
    exact ⟨hI.nd,fun k=>⟨hI.re k,fun hk=>Reach.sub (P:=fun k=>k∈ks) hI.st (fun a b ha hab=>hcl a ha (by simp) b hab) hk⟩⟩
open Classical in
noncomputable def gR (es:List (Int×Int))(s n:Int):Bool:=decide (∃ks:List Int,ks.Nodup∧(∀k,k∈ks↔Reach es s k)∧(ks.length:Int)=n)
open Classical in
theorem mh {es:List (Int×Int)}{s n:Int}{ks:List Int}(h:ks.Nodup)(e:∀k,k∈ks↔Reach es s k):decide ((ks.length:Int)=n)=gR es s n:=by
  unfold gR
  by_cases hn:(ks.length:Int)=n
  · rw [decide_eq_true hn,decide_eq_true];exact ⟨ks,h,e,hn⟩
  · rw [decide_eq_false hn,decide_eq_false]
    rintro ⟨ks',h',e',hn'⟩
    exact hn (by rw [← hn',tY h h' fun k=>(e k).trans (e' k).symm])
noncomputable def fwd (rs:List Row)(p:Int):List (Int×Int):=(rs.filter fun r=>decide (r.1=p)).map fun r=>(r.2.1,r.2.2.1)
noncomputable def bwd (rs:List Row)(p:Int):List (Int×Int):=(rs.filter fun r=>decide (r.1=p)).map fun r=>(r.2.2.1,r.2.1)
noncomputable def jY (rs:List Row)(p n:Int):Bool:=gR (fwd rs p) 0 n&&gR (bwd rs p) 1 n
noncomputable abbrev pz:Stmt:=top kE
noncomputable abbrev xV:List Str:=["rows","part","size","ahead","behind"]
theorem Az:ax xV ["rows","part","size"] (ah pz):=⟨rfl,rfl,rfl,by decide +kernel,rfl,by decide +kernel,by decide +kernel⟩
noncomputable def Dm:bW:=fun K ps T=>∃(rs:List Row) (p n:Int),ps=[⟨ag aA,rs⟩,⟨ae,p⟩,⟨ae,n⟩]∧rs.length≤1000∧T=bC K aO (· =jY rs p n)
theorem Bp (M:bU mg)(CR:az P w K mg base "reached" 1 (aE zP K))(F:bh K "lies_on_ways" "lies_on_ways" pz f fd)(hm:mg "lies_on_ways"=some (.ref f))(hb:Binds K fd ["rows","part","size"] []):az P w K mg base "lies_on_ways" 2 (aE Dm K):=by
  have nd:=Az.nd
  have ndc:List.Nodup [("row":Str),"part"]:=by decide
  obtain ⟨t1,hB⟩:=M.begin_
  obtain ⟨t2,hE⟩:=M.end_
  refine bM F Az hm hb (fun qs T ⟨_,_,_,e,_⟩=>by rw [e];rfl) (fun cdv A outer s H E qs T hr hS=>?_)
  obtain ⟨rs,p,n,rfl,hl,rfl⟩:=hS
  change WS _ _ [.im (ag aA) rs,.im ae p,.im ae n,.no,.no] _ _
  have lf:∀g:Row→Int×Int,((rs.filter fun r=>decide (r.1=p)).map g).length≤100000:=fun g=>by
    rw [List.length_map]
    have:=List.length_filter_le (fun r:Row=>decide (r.1=p)) rs
    omega
  refine aj (lz 3 CR hr (af (aC.im (bj (own:=["row"]) (fr:=["part"]) (ix:=[1]) (p:=fun r=>decide (r.1=p)) (f:=fun r=>(r.2.1,r.2.2.1)) (bc (so:=ah pz) (N0:=xV) rfl rfl (fun x h=>aV h) (by decide +kernel)) (ba (aa 0 rfl))
      (fun C s H ex=>aM 0) (fun x=>⟨.inr rfl,.inl rfl,trivial⟩) (fun C s H ex x hx=>gD (aI bT (gy (aa 0 rfl)) (aa 1 rfl))) (fun C s H ex x hx _=>cQ (af (fH (aa 0 rfl)) (af (dh (aa 0 rfl)) ao))))) (af (cF hB) ao)) ⟨_,_,rfl,lf _,rfl⟩ ?_)
  rintro kv1 ⟨n1,e1⟩
  refine aj (lz 4 CR hr (af (aC.im (bj (own:=["row"]) (fr:=["part"]) (ix:=[1]) (p:=fun r=>decide (r.1=p)) (f:=fun r=>(r.2.2.1,r.2.1)) (bc (so:=ah pz) (N0:=xV) rfl rfl (fun x h=>aV h) (by decide +kernel)) (ba (aa 0 rfl))
      (fun C s H ex=>aM 0) (fun x=>⟨.inr rfl,.inl rfl,trivial⟩) (fun C s H ex x hx=>gD (aI bT (gy (aa 0 rfl)) (aa 1 rfl))) (fun C s H ex x hx _=>cQ (af (dh (aa 0 rfl)) (af (fH (aa 0 rfl)) ao))))) (af (cF hE) ao)) ⟨_,_,rfl,lf _,rfl⟩ ?_)
  rintro kv2 ⟨n2,e2⟩
  refine ar (bA (ei (dz bT (lS M.len (aa 3 rfl)) (aa 2 rfl)) (fun _=>ef (dz bT (lS M.len (aa 4 rfl)) (aa 2 rfl)))) ?_)
  have q1:=mh (n:=n) n1 e1
  have q2:=mh (n:=n) n2 e2
  rw [List.length_map] at q1 q2
  show (decide ((kv1.length:Int)=n)&&decide ((kv2.length:Int)=n))=jY rs p n
  rw [q1,q2];rfl
noncomputable abbrev ot:Stmt:=top sV
noncomputable abbrev wF:List Str:=["web","places","rows"]
theorem zG:ax wF ["web"] (ah ot):=⟨rfl,rfl,rfl,by decide +kernel,rfl,by decide +kernel,by decide +kernel⟩
noncomputable def eh (v:aH):Bool:=
  if !eV v then false
  else if !((v.2.filter fun _=>true).map (cw v.1)).all id then false
  else if !(((ups (0 + 1) ((v.1.length:Int) - (0 + 1)).toNat).filter fun _=>true).map (called v.2)).all id then false
  else (((nums v.1).filter fun _=>true).map fun x=>jY v.2 x.1 x.2).all id
noncomputable def Al:bW:=fun K ps T=>∃v:aH,ps=[⟨bg,v⟩]∧v.1.length≤1000∧v.2.length≤1000∧T=bC K aO (· =eh v)
theorem B9 (M:bU mg)(C1:az P w K mg base "has_web_form" 4 (aE C0 K))(C2:az P w K mg base "has_web_sizes" 1 (aE Cv K))(C3:az P w K mg base "leads_within" 1 (aE CQ K))(C4:az P w K mg base "is_called" 1 (aE Cn K))(C5:az P w K mg base "lies_on_ways" 2 (aE Dm K))(F:bh K "is_web" "is_web" ot f fd)(hm:mg "is_web"=some (.ref f))(hb:Binds K fd ["web"] []):az P w K mg base "is_web" 5 (aE Al K):=by
  have nd:=zG.nd
  have C2:=C2.mono (show 1≤4 by decide)
  have C3:=C3.mono (show 1≤4 by decide)
  have C4:=C4.mono (show 1≤4 by decide)
  have C5:=C5.mono (show 2≤4 by decide)
  have nd1:List.Nodup [("row":Str),"places"]:=by decide
  have nd2:List.Nodup [("part":Str),"rows"]:=by decide
  have nd3:List.Nodup [("part":Str),"size","rows"]:=by decide
  obtain ⟨t1,hFP⟩:=M.firstPart
  refine bM F zG hm hb (fun qs T ⟨_,e,_⟩=>by rw [e];rfl) (fun cdv A outer s H E qs T hr hS=>?_)
  obtain ⟨v,rfl,l1,l2,rfl⟩:=hS
  change WS _ _ [.im bg v,.no,.no] _ _
  refine aj (bu (TW.tv (fU (bH (aZ (aW C1 hr (af (aa 0 rfl) ao) ⟨v,rfl,rfl⟩))) (fun _=>eT (bH (aZ (aW C2 hr (af (aa 0 rfl) ao) ⟨v,rfl,rfl⟩)))))) (fun h=>?_) (fun h=>aU ?_))
  · have h:(!eV v)=true:=by simpa using h
    exact ar (bA eK (by rw [eh,if_pos h]))
  have h1:(!eV v)=false:=by simpa using h
  refine aj (aK 1 (cU (r:=ag ae) (r':=ag aA) (aa 0 rfl)) (aj (aK 2 (bI (r:=ag ae) (r':=ag aA) (aa 0 rfl)) ?_)))
  refine aj (bu (bH (aZ (ee M.all (aC.im (bj (own:=["row"]) (fr:=["places"]) (ix:=[1]) (p:=fun _=>true) (f:=cw v.1) (bc (so:=ah ot) (N0:=wF) rfl rfl (fun x h=>aV h) (by decide +kernel)) (ba (aa 2 rfl))
      (fun C s H ex=>aM 0) (fun x=>⟨.inr rfl,.inl rfl,trivial⟩) (fun C s H ex x hx=>bP) (fun C s H ex x hx _=>aW C3 hr (af (aa 1 rfl) (af (aa 0 rfl) ao)) ⟨_,_,rfl,rfl⟩)))))) (fun h=>?_) (fun h=>aU ?_))
  · exact ar (bA eK (by rw [eh,if_neg (by rw [h1];decide),if_pos h]))
  have h2:=h
  refine aj (bu (bH (aZ (ee M.all (aC.im (bj (own:=["part"]) (fr:=["rows"]) (ix:=[2]) (p:=fun _=>true) (f:=called v.2) (bc (so:=ah ot) (N0:=wF) rfl rfl (fun x h=>aV h) (by decide +kernel)) (l7 M.range (bZ (cF hFP) ak) (cj M.len (aa 1 rfl)) ⟨by decide,by decide,by omega,by omega⟩)
      (fun C s H ex=>aM 0) (fun x=>⟨.inr rfl,.inl rfl,trivial⟩) (fun C s H ex x hx=>bP) (fun C s H ex x hx _=>aW C4 hr (af (aa 1 rfl) (af (aa 0 rfl) ao)) ⟨_,_,rfl,rfl⟩)))))) (fun h=>?_) (fun h=>aU ?_))
  · exact ar (bA eK (by rw [eh,if_neg (by rw [h1];decide),if_neg (by rw [h2];decide),if_pos h]))
  have h3:=h
  refine ar (bA (ee M.all (aC.im (bj (own:=["part","size"]) (fr:=["rows"]) (ix:=[2]) (p:=fun _=>true) (f:=fun x=>jY v.2 x.1 x.2) (bc (so:=ah ot) (N0:=wF) rfl rfl (fun x h=>aV h) (by decide +kernel)) (lC M.enumerate (aa 1 rfl))
      (fun C s H ex=>jy 0 1) (fun x=>⟨.inr rfl,.inr rfl,.inl rfl,trivial⟩) (fun C s H ex x hx=>bP) (fun C s H ex x hx _=>aW C5 hr (af (aa 2 rfl) (af (aa 0 rfl) (af (aa 1 rfl) ao))) ⟨_,_,_,rfl,l2,rfl⟩)))) ?_)
  rw [eh,if_neg (by rw [h1];decide),if_neg (by rw [h2];decide),if_neg (by rw [h3];decide)]
end
end K1
namespace Fc
open PySem PySem.Spec L2
open PyProof.Rows hiding St
section
variable {X:Cx}{Γ Γ1 Γ2 Γ3:Ga}{α β γ δ:Type}{N:Ga→Prop}{T:RT}
noncomputable def e7 (H:Hp)(l:List Addr):Hp:=fun b=>if b∈l then none else H b
theorem ju {H:Hp}{l:List Addr}{b:Addr}(h:b∈l):e7 H l b=none:=if_pos h
theorem dI {H:Hp}{l:List Addr}{b:Addr}(h:b∉l):e7 H l b=H b:=if_neg h
theorem nq {H:Hp}{l:List Addr}:au (e7 H l) H:=fun b o q=>by
  by_cases h:b∈l
  · rw [ju h] at q;cases q
  · rwa [dI h] at q
theorem aq.wd {K:PySem.W.Frag}{σ:St}{H0 R0 H R H' R':Hp}{i:Nat}{B B':i5}(E:aq K σ H0 R0 H R Γ)(hΓ:Γ[i]?=some (.ob B))(x:Ext (e7 H B.fp) R H' R')(ho:(Ent.ob B').ok K H' R' (σ[i]?).join)(hfp:∀b∈B'.fp,b∈B.fp):aq K σ H0 R0 H' R' (Γ.set i (.ob B')):=by
  have h0:∀b∈B.fp,H0 b=none:=fun b hb=>E.nw i _ b hΓ hb
  have out:∀{b:Addr},H0 b≠none→b∉B.fp:=fun h e=>h (h0 _ e)
  have apart:∀(j:Nat) (e:Ent),j≠i→Γ[j]?=some e→∀b∈e.fp (σ[j]?).join,b∉B.fp:=fun j e hj qj b hb w=>hj (E.ds j i e _ b qj hΓ hb w)
  refine ⟨⟨fun b o q=>?_,E.ext.r.trans x.r,x.s,fun b hb=>?_⟩,fun j e q=>?_,fun j e b q w=>?_,fun j k e e' b q q' w w'=>?_,by rw [List.length_set];exact E.len⟩
  · exact x.h b o (by rw [dI (out (by rw [q];exact Option.some_ne_none _))];exact E.ext.h b o q)
  · refine (x.old b ?_).trans (E.ext.old b hb)
    rw [dI (out hb)];exact au.some E.ext.h hb
  · rcases set_at q with ⟨rfl,rfl,_⟩ | ⟨hj,q1⟩
    · exact ho
    · have h1:=E.ent j e q1
      refine h1.loc (fun b hb=>?_) x.r fun b hb=>?_
      · cases e2:H b with
        | none=>exact absurd e2 (Ent.cX h1 hb).1
        | some u=>exact x.h b u (by rw [dI (apart j e hj q1 b hb)];exact e2)
      · exact (x.old b (by rw [dI (apart j e hj q1 b hb)];exact (Ent.cX h1 hb).1)).trans (Ent.cX h1 hb).2
  · rcases set_at q with ⟨rfl,rfl,_⟩ | ⟨hj,q1⟩
    · exact h0 b (hfp b w)
    · exact E.nw j e b q1 w
  · rcases set_at q with ⟨rfl,rfl,_⟩ | ⟨hj,q1⟩
    · rcases set_at q' with ⟨rfl,rfl,_⟩ | ⟨hk,q1'⟩
      · rfl
      · exact absurd (hfp b w) (apart k e' hk q1' b w')
    · rcases set_at q' with ⟨rfl,rfl,_⟩ | ⟨hk,q1'⟩
      · exact absurd (hfp b w') (apart j e hj q1 b w)
      · exact E.ds _ _ _ _ b q1 q1' w w'
structure fF (P:Type):Type 1 where
  bx:Addr→Addr→P→i5
  fp:∀a b s,(bx a b s).fp=[a,b]
  at_:∀{K H R v a b s},(bx a b s).R K H R v→v= .ref a
noncomputable abbrev gZ (P:Type):=PySem.W.Frag→P→List Pk→(P→RT)→Prop
noncomputable def dy {P:Type}(B:fF P)(S:gZ P)(K:PySem.W.Frag):Sp:=fun vs H Q _=>∃R a b s vs' ps T,vs= .ref a::vs'∧au R H∧(R a=none∧R b=none)∧(B.bx a b s).R K H R (.ref a)∧ff K R vs' ps∧S K s ps T∧
  ∀v H' R' s',Ext (e7 H [a,b]) R H' R'→(B.bx a b s').R K H' R' (.ref a)→(R' a=none∧R' b=none)→T s' (e7 H [a,b]) v H' R'→Q v H'
theorem d6 {P:Type}{B:fF P}{K:PySem.W.Frag}{H R:Hp}{a b:Addr}{s:P}{o:Option V}(h:(Ent.ob (B.bx a b s)).ok K H R o):o=some (.ref a)∧(B.bx a b s).R K H R (.ref a)∧R a=none∧R b=none:=by
  obtain ⟨⟨v,e,hv⟩,hR⟩:=h
  have:=B.at_ hv
  subst this
  exact ⟨e,hv,hR a (by rw [B.fp];simp),hR b (by rw [B.fp];simp)⟩
theorem hV {P:Type}{B:fF P}{K:PySem.W.Frag}{H R:Hp}{a b:Addr}{s:P}(h:(B.bx a b s).R K H R (.ref a))(h1:R a=none)(h2:R b=none):(Ent.ob (B.bx a b s)).ok K H R (some (.ref a)):=
  ⟨⟨_,rfl,h⟩,fun c hc=>by
    rw [B.fp] at hc
    rcases List.mem_cons.mp hc with rfl | hc
    · exact h1
    · rw [List.mem_singleton.mp hc];exact h2⟩
theorem ji {P:Type}{B:fF P}{S:gZ P}{x y:Str}{k:Nat}{es:List Expr}{p p1 pos:Pos}{ps:List Pk}{a b:Addr}{s0 s:P}{TM:P→RT}{Q:VK}{σ:St}{H0 R0 H R:Hp}(i:Nat)(C:az X.prog X.w X.K X.mg X.base x k (dy B S X.K))(hr:bt k X.A)(ha:HA X es Γ ps Γ1)(hΓ:Γ[i]?=some (.ob (B.bx a b s0)))(hΓ1:Γ1[i]?=some (.ob (B.bx a b s)))(hS:S X.K s ps TM)(E:aq X.K σ H0 R0 H R Γ)
    (q:∀H1 R1 v H' R' s',aq X.K σ H0 R0 H1 R1 Γ1→au R R1→Ext (e7 H1 [a,b]) R1 H' R'→aq X.K σ H0 R0 H' R' (Γ1.set i (.ob (B.bx a b s')))→TM s' (e7 H1 [a,b]) v H' R'→Q v H')
    (hg:Gl X x) (hdb:(x==("__debug__":Str))=false) (he:starEach (.Name y p1::es) X.env=(false,eval (.Name y p1) X.env)::starEach es X.env) (hpl:(backTo pos (starEach es X.env)).any (·.1)=false)
    (hN:X.N[i]?=some y) (hv:ck X.env.scope y) (hd:(y==("__debug__":Str))=false) (hcd:(y==("__classdict__":Str))=false):dG X (.Call (.Name x p) (.Name y p1::es) [] pos) σ H Q:=by
  obtain ⟨f,fd,pn,F,hm,hk,hb⟩:=C.ex
  obtain ⟨ea,_,_⟩:=d6 (E.ent i _ hΓ)
  refine eS (jH F hr hg hm hk hb .nil mS (aT (br hN hv hd hcd) i6 he) hdb he hpl) ⟨.ref a,at_of ea,ha σ H0 R0 H R E _ fun us H1 R1 E1 s1 p1=>?_⟩
  obtain ⟨ea1,hB,hRa,hRb⟩:=d6 (E1.ent i _ hΓ1)
  refine ⟨R1,a,b,s,us,ps,TM,by rw [List.append_nil],E1.sub,⟨hRa,hRb⟩,hB,p1,hS,fun v H' R' s' xx hB' hR' t=>q H1 R1 v H' R' s' E1 s1 xx ?_ t⟩
  refine E1.wd hΓ1 (by rw [B.fp];exact xx) (by rw [ea1];exact hV hB' hR'.1 hR'.2) fun c hc=>?_
  rw [B.fp] at hc ⊢;exact hc
theorem aY (i:Nat){P:Type}{B:fF P}{S:gZ P}{x y:Str}{k:Nat}{es:List Expr}{p p1 pos:Pos}{ps:List Pk}{a b:Addr}{s0 s st:P}{rr:Rep β}{z:β}(C:az X.prog X.w X.K X.mg X.base x k (dy B S X.K))(hr:bt k X.A)(ha:HA X es Γ ps Γ1)(hΓ:Γ[i]?=some (.ob (B.bx a b s0)))(hΓ1:Γ1[i]?=some (.ob (B.bx a b s)))(hS:S X.K s ps (fun s'=>bC X.K rr fun w=>s'=st∧w=z))
    (hg:autoParam (Gl X x) Fc.ai) (hdb:autoParam ((x==("__debug__":Str))=false) Fc.aw) (he:autoParam (starEach (.Name y p1::es) X.env=(false,eval (.Name y p1) X.env)::starEach es X.env) Fc.ai) (hpl:autoParam ((backTo pos (starEach es X.env)).any (·.1)=false) Fc.ai)
    (hN:autoParam (X.N[i]?=some y) Fc.ai) (hv:autoParam (ck X.env.scope y) Fc.bO) (hd:autoParam ((y==("__debug__":Str))=false) Fc.aw) (hcd:autoParam ((y==("__classdict__":Str))=false) Fc.aw):
    EV X (.Call (.Name x p) (.Name y p1::es) [] pos) Γ rr z (Γ1.set i (.ob (B.bx a b st))):=fun σ H0 R0 H R E Q q=>
  ji i C hr ha hΓ hΓ1 hS E (fun H1 R1 v H' R' s' _ s1 xx E' t=>by
    obtain ⟨w,e1,rfl,rfl⟩:=t
    exact q v H' R' E' (s1.trans xx.r) e1) hg hdb he hpl hN hv hd hcd
theorem ky {tg:Expr}(i:Nat){P:Type}{B:fF P}{S:gZ P}{x y:Str}{k:Nat}{es:List Expr}{p p1 p2 pos:Pos}{ps:List Pk}{a b:Addr}{s0 s:P}{rr:Rep β}{Pd:P→β→Prop}{bf:β→Ga→Ga}(C:az X.prog X.w X.K X.mg X.base x k (dy B S X.K))(hr:bt k X.A)(ha:HA X es Γ ps Γ1)(hΓ:Γ[i]?=some (.ob (B.bx a b s0)))(hΓ1:Γ1[i]?=some (.ob (B.bx a b s)))(hS:S X.K s ps (fun s'=>bC X.K rr (Pd s')))(hb:BG X tg rr bf)(h:∀s' z,Pd s' z→N (bf z (Γ1.set i (.ob (B.bx a b s')))))
    (hg:autoParam (Gl X x) Fc.ai) (hdb:autoParam ((x==("__debug__":Str))=false) Fc.aw) (he:autoParam (starEach (.Name y p1::es) X.env=(false,eval (.Name y p1) X.env)::starEach es X.env) Fc.ai) (hpl:autoParam ((backTo p2 (starEach es X.env)).any (·.1)=false) Fc.ai)
    (hN:autoParam (X.N[i]?=some y) Fc.ai) (hv:autoParam (ck X.env.scope y) Fc.bO) (hd:autoParam ((y==("__debug__":Str))=false) Fc.aw) (hcd:autoParam ((y==("__classdict__":Str))=false) Fc.aw)
    (hs:autoParam (swapsWithSole [tg] (.Call (.Name x p) (.Name y p1::es) [] p2) pos.line X.env=pure false) Fc.ai) (hw:autoParam (swappedStores [tg] (.Call (.Name x p) (.Name y p1::es) [] p2) X.env=pure none) Fc.ai) (h1:autoParam ((assignEach [tg] X.env).map (·.2)=[assign tg X.env]) Fc.ai):
    W1 X (.Assign [tg] (.Call (.Name x p) (.Name y p1::es) [] p2) pos) Γ N T:=fun σ H0 R0 H R E D dn dr=>
  sS (gc aL vw hs hw h1) (ji i C hr ha hΓ hΓ1 hS E (fun H1 R1 v H' R' s' _ s1 xx E' t=>by
    obtain ⟨w,e1,hz⟩:=t
    exact hb σ H0 R0 H' R' _ v w E' e1 _ fun σ2 E2=>dn σ2 H' R' _ E2 (s1.trans xx.r) (h s' w hz)) hg hdb he hpl hN hv hd hcd)
noncomputable def we (K:PySem.W.Frag){P:Type}(B:fF P)(a b:Addr)(T:P→RT):RT:=fun H0 v H' R'=>∃s',(B.bx a b s').R K H' R' (.ref a)∧(R' a=none∧R' b=none)∧T s' H0 v H' R'
theorem dP (i:Nat){P:Type}{B:fF P}{e:Expr}{pos:Pos}{a b:Addr}{s:P}{rr:Rep β}{y:β}{Pd:P→β→Prop}(he:EV X e Γ rr y Γ1)(hΓ1:Γ1[i]?=some (.ob (B.bx a b s)))(h:Pd s y):W1 X (.Return (some e) pos) Γ N (we X.K B a b fun s'=>bC X.K rr (Pd s')):=fun σ H0 R0 H R E D dn dr=>
  sS (dO aL) (he σ H0 R0 H R E _ fun v H1 R1 E1 s1 e1=>by
    obtain ⟨ea,hB,hR⟩:=d6 (E1.ent i _ hΓ1)
    exact dr v H1 R1 E1.ext ⟨s,hB,hR,y,e1,h⟩)
theorem qW {P:Type}{B:fF P}{K:PySem.W.Frag}{R H:Hp}{a b:Addr}{st:P}{vs:List V}{ps:List Pk}{N:List Str}(s:au R H)(hR:R a=none∧R b=none)(hB:(B.bx a b st).R K H R (.ref a))(p:ff K R vs ps)(hl:ps.length + 1≤N.length):
    aq K (L2.start N (.ref a::vs)) (e7 H [a,b]) R H R (.ob (B.bx a b st)::dc ps (N.length - 1)):=by
  obtain ⟨n0,N',rfl⟩:∃n0 N',N=n0::N':=by cases N with
    | nil=>exact absurd hl (by simp)
    | cons n N'=>exact ⟨n,N',rfl⟩
  have hl':ps.length≤N'.length:=by simpa using hl
  have E0:=dq (N:=N') s p hl'
  have es:L2.start (n0::N') (.ref a::vs)=some (.ref a)::L2.start N' vs:=by unfold L2.start;simp
  rw [es]
  have noown:∀(i:Nat) (e:Ent) (o:Option V),(dc ps N'.length)[i]?=some e→e.fp o=[]:=fun i e o q=>by
    unfold dc at q
    rcases List.mem_append.mp (List.mem_of_getElem? q) with z | z
    · obtain ⟨p,_,rfl⟩:=List.mem_map.mp z;rfl
    · obtain ⟨_,rfl⟩:=List.mem_replicate.mp z;rfl
  refine ⟨⟨nq,au.refl _,s,fun _ _=>rfl⟩,fun i e q=>?_,fun i e c q w=>?_,fun i j e e' c q q' w w'=>?_,?_⟩
  · cases i with
    | zero=>simp at q;subst q;exact hV hB hR.1 hR.2
    | succ i=>simp at q;simpa using E0.ent i e q
  · cases i with
    | zero=>
      simp at q;subst q
      have w:c∈(B.bx a b st).fp:=w
      rw [B.fp] at w
      exact ju w
    | succ i=>simp at q;rw [noown i e _ q] at w;cases w
  · cases i with
    | succ i=>simp at q;rw [noown i e _ q] at w;cases w
    | zero=>
      cases j with
      | zero=>rfl
      | succ j=>simp at q';rw [noown j e' _ q'] at w';cases w'
  · have:=E0.len
    simp [this]
variable {P:Program}{w:World}{K:PySem.W.Frag}{mg:Str→Option Value}{base:Heap}
theorem gN {Q0:Type}{B:fF Q0}{S:gZ Q0}{x qual:Str}{st:Stmt}{f:Addr}{fd:FuncData}{N ps:List Str}{k:Nat}(F:bh K x qual st f fd)(Sc:ax N ps (ah st))(hm:mg x=some (.ref f))(hb:Binds K fd ps [])(len:∀s qs T,S K s qs T→qs.length + 1=ps.length)
    (hbody:∀(cdv:Value) (A:Around) (outer:List Env) (s:Shared) (H:Hp) (E:XK) (a b:Addr) (u:Q0) (qs:List Pk) (T:Q0→RT),bt k (A.deeper (envOfC qual (ah st) s.heap.objs.size f cdv))→S K u qs T→
      WS (bF df P w K mg base N qual (ah st) f cdv A outer s H E).bR (bo st) (.ob (B.bx a b u)::dc qs (N.length - 1)) (fun Γ=>∃u',Γ[0]?=some (.ob (B.bx a b u'))∧∀H0 H' R',T u' H0 .non H' R') (we K B a b T)):az P w K mg base x (k + 1) (dy B S K):=by
  refine ⟨f,fd,ps,?_,hm,F.kp,hb⟩
  refine F.ok Sc (fun vs H Q E h=>?_) (fun cdv A outer s H vs Q E hr h=>?_)
  · obtain ⟨R,a,b,u,vs',qs,T,rfl,_,_,_,p,hS,_⟩:=h
    rw [List.length_cons,p.length];exact len u qs T hS
  · obtain ⟨R,a,b,u,vs',qs,T,rfl,sR,hR,hB,p,hS,q⟩:=h
    have hl:qs.length + 1≤N.length:=by
      rw [len u qs T hS]
      have:=congrArg List.length Sc.pre
      rw [List.length_take] at this
      omega
    refine ⟨_,dB,hbody cdv A outer s H E a b u qs T hr hS (L2.start N (.ref a::vs')) (e7 H [a,b]) R H R (qW sR hR hB p hl) {nx:=fun _ H'=>Q .non H',rt:=Q} (fun σ' H' R' Γ' E' _ ⟨u',hΓ,t⟩=>?_) fun v H' R' xx t=>?_⟩
    · obtain ⟨ea,hB',hR'⟩:=d6 (E'.ent 0 _ hΓ)
      exact q .non H' R' u' E'.ext hB' hR' (t _ _ _)
    · obtain ⟨s',h1,h2,h3⟩:=t
      exact q v H' R' s' xx h1 h2 h3
end
section
variable {prog:Program}{w:World}{A:Around}{E:Value→Shared→Prop}{s:Shared}
theorem mf {it t:Addr}{items:Array Value}(hne:t≠it):∀(n i:Nat) (s:Shared) (Q:List Value→Shared→Prop),s.heap.IsListIter it t i→s.heap.IsList t items→i + n≤items.size→
    (∀h',h'.IsListIter it t (i + n)→Heap.SameBut it s.heap h'→Q ((items.toList.drop i).take n) {s with heap:=h'})→wpAny (model prog w) A (draw (.ref it) n) Q E s
  | 0,i,s,Q,hit,_,_,hQ=>by
    show wpAny _ _ (pure []) Q E s
    exact wpAny_pure (by simpa using hQ s.heap hit (Heap.SameBut.refl ..))
  | n + 1,i,s,Q,hit,ht,hle,hQ=>by
    have hlt:i < items.size:=by omega
    show wpAny _ _ (pyNext (.ref it) >>=_) Q E s
    refine wpAny_bind (wpAny_pyNext_list_item hit ht (x:=items[i]) (by simp [hlt]) fun h₁ hit₁ hs₁=>?_)
    refine wpAny_bind (wpAny_holding (mf hne n (i + 1) _ _ hit₁ (ht.extBut hs₁.extBut hne) (by omega) fun h₂ hit₂ hs₂=>wpAny_pure ?_))
    have hd:items.toList.drop i=items[i]::items.toList.drop (i + 1):=by simp [List.drop_eq_getElem_cons,hlt]
    have:=hQ h₂ (by rw [show i + (n + 1)=i + 1 + n by omega];exact hit₂) (hs₁.trans hs₂)
    rw [hd,List.take_succ_cons] at this
    exact this
theorem j9 {t:Addr}{items:Array Value}{Q:List Value→Shared→Prop}(hh:A.handled=none)(ht:s.heap.IsList t items)
    (hQ:∀h',Heap.ExtBut s.heap.objs.size s.heap h'→Q items.toList {s with heap:=h'}):wpAny (model prog w) A (unpackItems (.ref t) items.size none) Q E s:=by
  have hlt:t≠s.heap.objs.size:=by obtain ⟨o,ho,_⟩:=ht;exact Nat.ne_of_lt (Heap.lt_size ho)
  unfold unpackItems
  refine wpAny_bind ?_
  · unfold notIterableAtAll
    refine wpAny_bind (wpAny_specialOf ht.typeIs slot_list_iter.lookup ?_)
    refine wpAny_pure ?_
    simp only [Bool.false_eq_true,if_false]
    refine wpAny_bind (wpAny_holding (wpAny_pyIter_list ht ?_))
    refine wpAny_bind (wpAny_holding (mf hlt items.size 0 _ _ ⟨_,Heap.get?_push_size _ rfl,rfl,rfl⟩ (ht.push _) (by omega) fun h₁ hit₁ hs₁=>?_))
    have hall:List.take items.size (List.drop 0 items.toList)=items.toList:=by
      rw [List.drop_zero];exact List.take_of_length_le (by simp)
    rw [hall]
    rw [if_neg (by simp)]
    have ht₁:h₁.IsList t items:=(ht.push _).extBut hs₁.extBut hlt
    refine wpAny_bind (wpAny_holding (wpAny_pyNext_list_end hh hit₁ ht₁ (by simp) fun h₂ he₂=>?_))
    simp only [Option.isSome_none,Bool.false_eq_true,if_false]
    refine wpAny_pure (hQ h₂ fun b o hb e=>he₂ b o hb (hs₁.extBut b o hb (Heap.get?_push_of_some _ e)))
theorem jK {env:Env}{elts:List Expr}{x1}{pos:Pos}{t:Addr}{items:Array Value}{Q:Unit→Shared→Prop}(hh:A.handled=none)(ht:s.heap.IsList t items)
    (hn:(assignEach elts env).length=items.size) (hstar:(assignEach elts env).findIdx? (·.1)=none)
    (h:∀h',Heap.ExtBut s.heap.objs.size s.heap h'→wpAny (model prog w) A (assignInOrder ((assignEach elts env).map (·.2)) items.toList) Q E {s with heap:=h'}):
    wpAny (model prog w) A (assign (.Tuple elts x1 pos) env (.ref t)) Q E s:=by
  rw [assign_Tuple]
  refine wpAny_bind (wpAny_standAt ?_)
  unfold unpack
  rw [hn,hstar]
  exact wpAny_bind (wpAny_holding (j9 hh ht h))
end
section
variable {X:Cx}{Γ Γ1 Γ2 Γ3:Ga}{α β γ δ:Type}{N:Ga→Prop}{T:RT}
noncomputable def Dn (K:PySem.W.Frag)(n:Nat)(t:kP):TG:=fun v σ H Q=>∃a xs,v= .ref a∧bq K H a xs∧xs.length=n∧t xs σ H Q
theorem sN {es:List Expr}{k:Nat}{pos:Pos}{t:kP}{n:Nat}(hc:X.calm=true)(h:tF X es t)
    (hn:autoParam ((assignEach es X.env).length=n) Fc.ai) (hst:autoParam ((assignEach es X.env).findIdx? (·.1)=none) Fc.ai):PG X (.Tuple es k pos) (Dn X.K n t):=by
  intro pins s σ H v u Q I r hw
  obtain ⟨a,xs,e1,hq,hl,hw⟩:=hw
  subst e1
  cases r
  obtain ⟨its,rv,pl,hz⟩:=I.list hq
  refine jK (I.ok.hd hc) pl.isList (by simp [hn,← hl,rv.length]) hst fun h' hx=>?_
  have I1:Inv X pins σ H {s with heap:=h'}:=I.kept (t':=s.toks) fun b o e=>hx b o (Nat.ne_of_lt (Heap.lt_size e)) e
  exact h pins _ σ H xs _ Q I1 (by simpa using rv) hw
noncomputable def fz (r:Rep α):Rep (α×α):=⟨fun K H v x=>(ag r).R K H v [x.1,x.2],fun s h=>(ag r).mono s h⟩
theorem lM (i j:Nat){x y:Str}{k:Nat}{p1 p2 pos:Pos}{r:Rep α}(hc:autoParam (X.calm=true) Fc.ai)(hN:autoParam (X.N.Nodup) Fc.dY)(hi:autoParam (X.N[i]?=some x) Fc.ai)(hx:autoParam (Loc X.env.scope x) Fc.dA)(hf:autoParam (X.fn x=true∨X.env.scope.names.lookup x=some .local) Fc.fZ)
    (hj:autoParam (X.N[j]?=some y) Fc.ai) (hy:autoParam (Loc X.env.scope y) Fc.dA) (hf':X.fn y=true∨X.env.scope.names.lookup y=some .local:=by first | exact .inl rfl | exact .inr rfl):
    BG X (.Tuple [.Name x p1,.Name y p2] k pos) (fz r) (fun w Γ=>(Γ.set i (.im r w.1)).set j (.im r w.2)):=fun σ H0 R0 H R Γ v w E h Q q=>by
  obtain ⟨a,vs,rfl,ha,pp,_⟩:=h
  obtain ⟨v1,v2,rfl,e1,e2⟩:∃v1 v2,vs=[v1,v2]∧r.R X.K R v1 w.1∧r.R X.K R v2 w.2:=by
    cases pp with
    | cons h1 t=>cases t with
      | cons h2 t=>cases t;exact ⟨_,_,rfl,h1,h2⟩
  exact gS (sN hc (fL (fI hN hi hx hf) (fL (fI hN hj hy hf') lR))) ⟨a,_,rfl,bq.of (E.sub _ _ ha),rfl,v1,[v2],rfl,v2,[],rfl,rfl,q _ ((E.set i e1).set j e2)⟩
end
noncomputable abbrev Pu:=List Int×Int
noncomputable def vU (a b:Addr)(s:Pu):i5 where
  fp:=[a,b]
  R:=fun K H R v=>v= .ref a∧H a=some (.lst [.ref b,.int s.2])∧H b=some (.lst (s.1.map V.int))∧a≠b
  loc:=fun hH hR ⟨e,h1,h2,h3⟩=>⟨e,(hH a List.mem_cons_self).trans h1,(hH b (by simp)).trans h2,h3⟩
  has:=fun ⟨e,h1,h2,h3⟩ c hc=>by
    rcases List.mem_cons.mp hc with rfl | hc
    · rw [h1];exact Option.some_ne_none _
    · rw [List.mem_singleton.mp hc,h2];exact Option.some_ne_none _
noncomputable def a9:fF Pu:=⟨vU,fun _ _ _=>rfl,fun h=>h.1⟩
noncomputable def rV:Rep V:=⟨fun _ _ v x=>v=x,fun _ h=>h⟩
theorem lY {K:PySem.W.Frag}{R:Hp}:∀{vs ys:List V},PySem.Paired (rV.R K R) vs ys→vs=ys
  | _,_,.nil=>rfl
  | _,_,.cons h t=>by rw [show _=_ from h,lY t]
section
variable {X:Cx}{Γ Γ1 Γ2 Γ3:Ga}{α β γ δ:Type}{N:Ga→Prop}{T:RT}
theorem EV.BS {e:Expr}{n:Int}(h:EV X e Γ ae n Γ1):EV X e Γ rV (.int n) Γ1:=EV.rep h fun _ _ q=>q
theorem u9 (i:Nat){x:Str}{p:Pos}{b:Addr}{r:Rep α}{xs:List α}(hΓ:Γ[i]?=some (.ob (nI b r xs)))(hN:autoParam (X.N[i]?=some x) Fc.ai)(hv:autoParam (ck X.env.scope x) Fc.bO)
    (hd:autoParam ((x==("__debug__":Str))=false) Fc.aw) (hcd:autoParam ((x==("__classdict__":Str))=false) Fc.aw):EV X (.Name x p) Γ rV (.ref b) Γ:=fun σ H0 R0 H R E Q q=>by
  obtain ⟨ea,_⟩:=pF (E.ent i _ hΓ)
  exact eS (br hN hv hd hcd) ⟨.ref b,at_of ea,q _ H R E (au.refl _) rfl⟩
noncomputable def qx (P:Pu→Prop):RT:=fun H0 v H' R'=>∃a b s,v= .ref a∧(H0 a=none∧H0 b=none)∧(R' a=none∧R' b=none)∧H' a=some (.lst [.ref b,.int s.2])∧H' b=some (.lst (s.1.map V.int))∧a≠b∧P s
theorem xk (i:Nat){e:Expr}{pos:Pos}{b:Addr}{xs:List Int}{t:Int}{P:Pu→Prop}(he:aC X e Γ rV [.ref b,.int t] Γ1)(hΓ1:Γ1[i]?=some (.ob (nI b ae xs)))(h:P (xs,t)):W1 X (.Return (some e) pos) Γ N (qx P):=fun σ H0 R0 H R E D dn dr=>
  sS (dO aL) (he σ H0 R0 H R E _ fun a vs H1 R1 E1 s1 ha hR h0 off pp _=>by
    obtain ⟨ea,⟨ws,hb,pb⟩,hRb⟩:=pF (E1.ent i _ hΓ1)
    have:=lY pp
    subst this
    have hne:a≠b:=fun z=>off i _ hΓ1 (by rw [z];exact List.mem_singleton.mpr rfl)
    exact dr _ H1 R1 E1.ext ⟨a,b,(xs,t),rfl,⟨h0,E1.nw i _ b hΓ1 (List.mem_singleton.mpr rfl)⟩,⟨hR,hRb⟩,ha,by rw [← dW pb];exact hb,hne,h⟩)
theorem uY (i:Nat){S:bW}{x y:Str}{k:Nat}{e:Expr}{es:List Expr}{p p1 p2 pos:Pos}{ps:List Pk}{Pd:Pu→Prop}(C:az X.prog X.w X.K X.mg X.base x k (aE S X.K))(hr:bt k X.A)(ha:HA X (e::es) Γ ps Γ1)(hS:S X.K ps (qx Pd))(h:∀a b s,Pd s→N (Γ1.set i (.ob (a9.bx a b s))))
    (hg:autoParam (Gl X x) Fc.ai) (hdb:autoParam ((x==("__debug__":Str))=false) Fc.aw) (he:autoParam (starEach (e::es) X.env=(false,eval e X.env)::starEach es X.env) Fc.ai) (hpl:autoParam ((backTo p2 (starEach es X.env)).any (·.1)=false) Fc.ai)
    (hN:autoParam (X.N.Nodup) Fc.dY) (hi:autoParam (X.N[i]?=some y) Fc.ai) (hx:autoParam (Loc X.env.scope y) Fc.dA)
    (hs:autoParam (swapsWith (.Call (.Name x p) (e::es) [] p2) (some (.Name y p1)) pos.line X.env=pure false) Fc.ai) (hf:autoParam (X.fn y=true∨X.env.scope.names.lookup y=some .local) Fc.fZ):
    W1 X (.Assign [.Name y p1] (.Call (.Name x p) (e::es) [] p2) pos) Γ N T:=fun σ H0 R0 H R E D dn dr=>
  sS (fv hN hi hx aL hs hf) (dv C hr ha hS E (fun H1 R1 v H' R' E1 s1 xx t=>by
    obtain ⟨a,b,s,rfl,hn,hR,h1,h2,h3,h4⟩:=t
    have hm:∀c∈(a9.bx a b s).fp,c=a∨c=b:=fun c hc=>by
      rcases List.mem_cons.mp hc with rfl | hc
      · exact .inl rfl
      · exact .inr (List.mem_singleton.mp hc)
    refine dn _ H' R' _ ((E1.grow xx).setG (en:=.ob (a9.bx a b s)) i (hV (B:=a9) ⟨rfl,h1,h2,h3⟩ hR.1 hR.2) (fun c hc=>?_) fun c hc j e _ qj w=>?_) (s1.trans xx.r) (h a b s h4)
    · rcases hm c hc with rfl | rfl
      · exact E1.ext.h.free hn.1
      · exact E1.ext.h.free hn.2
    · rcases hm c hc with rfl | rfl
      · exact (Ent.cX (E1.ent j e qj) w).1 hn.1
      · exact (Ent.cX (E1.ent j e qj) w).1 hn.2) hg hdb he hpl)
theorem wU (i j m:Nat){x y z:Str}{k:Nat}{p p1 p2 p3 pos:Pos}{a b:Addr}{s:Pu}(hΓ:Γ[i]?=some (.ob (a9.bx a b s)))(h:N ((Γ.set j (.im rV (.ref b))).set m (.im ae s.2)))
    (hNi:autoParam (X.N[i]?=some x) Fc.ai) (hv:autoParam (ck X.env.scope x) Fc.bO) (hd:autoParam ((x==("__debug__":Str))=false) Fc.aw) (hcd:autoParam ((x==("__classdict__":Str))=false) Fc.aw)
    (hc:autoParam (X.calm=true) Fc.ai) (hN:autoParam (X.N.Nodup) Fc.dY) (hj:autoParam (X.N[j]?=some y) Fc.ai) (hy:autoParam (Loc X.env.scope y) Fc.dA) (hf:autoParam (X.fn y=true∨X.env.scope.names.lookup y=some .local) Fc.fZ)
    (hm:autoParam (X.N[m]?=some z) Fc.ai) (hz:autoParam (Loc X.env.scope z) Fc.dA) (hf':X.fn z=true∨X.env.scope.names.lookup z=some .local:=by first | exact .inl rfl | exact .inr rfl)
    (hs:autoParam (swapsWithSole [.Tuple [.Name y p1,.Name z p2] k p3] (.Name x p) pos.line X.env=pure false) Fc.ai) (hw:autoParam (swappedStores [.Tuple [.Name y p1,.Name z p2] k p3] (.Name x p) X.env=pure none) Fc.ai) (h1:autoParam ((assignEach [.Tuple [.Name y p1,.Name z p2] k p3] X.env).map (·.2)=[assign (.Tuple [.Name y p1,.Name z p2] k p3) X.env]) Fc.ai):
    W1 X (.Assign [.Tuple [.Name y p1,.Name z p2] k p3] (.Name x p) pos) Γ N T:=fun σ H0 R0 H R E D dn dr=>by
  obtain ⟨ea,⟨_,ha,hb,_⟩,_⟩:=d6 (E.ent i _ hΓ)
  refine sS (gc (br hNi hv hd hcd) (sN hc (fL (fI hN hj hy hf) (fL (fI hN hm hz hf') lR))) hs hw h1) ⟨.ref a,at_of ea,a,_,rfl,bq.of ha,rfl,.ref b,[.int s.2],rfl,.int s.2,[],rfl,rfl,?_⟩
  exact dn _ H R _ ((E.set j (r:=rV) (x:=.ref b) rfl).set m (r:=ae) (x:=s.2) rfl) (au.refl _) h
theorem um (i j:Nat){y:Str}{p p1 pos:Pos}{a b:Addr}{s:Pu}(hm:X.mg "len"=none)(hΓ:Γ[i]?=some (.ob (a9.bx a b s)))(hj:Γ[j]?=some (.im rV (.ref b)))
    (hN:autoParam (X.N[j]?=some y) Fc.ai) (hv:autoParam (ck X.env.scope y) Fc.bO) (hd:autoParam ((y==("__debug__":Str))=false) Fc.aw) (hcd:autoParam ((y==("__classdict__":Str))=false) Fc.aw)
    (hs:autoParam (starEach [.Name y p1] X.env=[(false,eval (.Name y p1) X.env)]) Fc.ai) (hg:autoParam (Gl X "len") Fc.ai):EV X (.Call (.Name "len" p) [.Name y p1] [] pos) Γ ae (s.1.length:Int) Γ:=fun σ H0 R0 H R E Q q=>by
  obtain ⟨ea,⟨_,ha,hb,_⟩,_⟩:=d6 (E.ent i _ hΓ)
  obtain ⟨v0,e0,hv0⟩:=E.ent j _ hj
  cases hv0
  refine eS (cR eu hg hm PySem.boot_len (aT (br hN hv hd hcd) bL hs) (by decide) (by decide) hs) ⟨.ref b,at_of e0,b,_,rfl,.inl (bq.of hb),?_⟩
  rw [List.length_map]
  exact q _ H R E (au.refl _) rfl
theorem xm (i j:Nat){y:Str}{e:Expr}{p1 pos:Pos}{a b:Addr}{s:Pu}{k c:Int}(he:EV X e Γ ae k Γ)(hΓ:Γ[i]?=some (.ob (a9.bx a b s)))(hj:Γ[j]?=some (.im rV (.ref b)))(hk:cA s.1 k=some c)
    (hN:autoParam (X.N[j]?=some y) Fc.ai) (hv:autoParam (ck X.env.scope y) Fc.bO) (hd:autoParam ((y==("__debug__":Str))=false) Fc.aw) (hcd:autoParam ((y==("__classdict__":Str))=false) Fc.aw) (hsx:autoParam (fO e) Fc.nr):EV X (.Subscript (.Name y p1) e pos) Γ ae c Γ:=fun σ H0 R0 H R E Q q=>by
  obtain ⟨v0,e0,hv0⟩:=E.ent j _ hj
  cases hv0
  refine eS (fP eG (br hN hv hd hcd) aL hsx) ⟨.ref b,at_of e0,he σ H0 R0 H R E _ fun u H2 R2 E2 s2 e2=>?_⟩
  obtain ⟨ea,⟨_,ha,hb,_⟩,_⟩:=d6 (E2.ent i _ hΓ)
  obtain ⟨w,e3,e4⟩:=iL (paired_ints (K:=X.K) (R:=R2) s.1) hk
  exact ⟨b,_,k,w,rfl,e2,bq.of hb,e3,q w H2 R2 E2 s2 e4⟩
theorem o9 (xs:List Int)(j:Nat)(y:Int):(xs.map V.int).set j (.int y)=(xs.set j y).map V.int:=by rw [List.map_set]
theorem rY (i j:Nat){y:Str}{b0 e:Expr}{p1 p2 pos:Pos}{a b:Addr}{s:Pu}{k c:Int}{n:Nat}(he:EV X e Γ ae c Γ)(hb0:EV X b0 Γ ae k Γ)(hΓ:Γ[i]?=some (.ob (a9.bx a b s)))(hj:Γ[j]?=some (.im rV (.ref b)))(hk:f6 s.1.length k=some n)(h:N (Γ.set i (.ob (a9.bx a b (s.1.set n c,s.2)))))
    (hN:autoParam (X.N[j]?=some y) Fc.ai) (hv:autoParam (ck X.env.scope y) Fc.bO) (hd:autoParam ((y==("__debug__":Str))=false) Fc.aw) (hcd:autoParam ((y==("__classdict__":Str))=false) Fc.aw)
    (ha:autoParam (∀v,assign (.Subscript (.Name y p1) b0 p2) X.env v=(do
      let ov ← holding [v] (eval (.Name y p1) X.env)
      let iv ← holding [v,ov] (eval b0 X.env)
      standAt p2
      holding [v,ov,iv] (setItem ov iv v)
      release [v,ov,iv] [])) Fc.cZ)
    (hs:autoParam (swapsWithSole [.Subscript (.Name y p1) b0 p2] e pos.line X.env=pure false) Fc.ai) (hw:autoParam (swappedStores [.Subscript (.Name y p1) b0 p2] e X.env=pure none) Fc.ai) (h1:autoParam ((assignEach [.Subscript (.Name y p1) b0 p2] X.env).map (·.2)=[assign (.Subscript (.Name y p1) b0 p2) X.env]) Fc.ai):
    W1 X (.Assign [.Subscript (.Name y p1) b0 p2] e pos) Γ N T:=fun σ H0 R0 H R E D dn dr=>by
  refine sS (gc aL (kS (br hN hv hd hcd) aL set_list ha) hs hw h1) (he σ H0 R0 H R E _ fun v H1 R1 E1 s1 e1=>?_)
  obtain ⟨v0,e0,hv0⟩:=E1.ent j _ hj
  cases hv0
  refine ⟨.ref b,at_of e0,hb0 σ H0 R0 H1 R1 E1 _ fun u H2 R2 E2 s2 e2=>?_⟩
  obtain ⟨ea,⟨_,h2,h3,hne⟩,hRa,hRb⟩:=d6 (E2.ent i _ hΓ)
  cases e1
  refine ⟨b,_,k,n,rfl,e2,h3,by rw [List.length_map];exact hk,?_⟩
  rw [o9]
  exact dn σ _ R2 _ (E2.nv (en:=.ob (a9.bx a b (s.1.set n c,s.2))) hΓ (show b∈[a,b] by simp) (by rw [ea];exact hV (B:=a9) ⟨rfl,by rw [aJ hne];exact h2,aD,hne⟩ hRa hRb) fun c w=>.inl w) (s1.trans s2) h
theorem vm (i:Nat){y:Str}{e:Expr}{p1 p2 p3 pos:Pos}{kk:Nat}{a b:Addr}{s:Pu}{c:Int}(he:EV X e Γ ae c Γ)(hΓ:Γ[i]?=some (.ob (a9.bx a b s)))(h:N (Γ.set i (.ob (a9.bx a b (s.1,c)))))
    (hN:autoParam (X.N[i]?=some y) Fc.ai) (hv:autoParam (ck X.env.scope y) Fc.bO) (hd:autoParam ((y==("__debug__":Str))=false) Fc.aw) (hcd:autoParam ((y==("__classdict__":Str))=false) Fc.aw)
    (ha:autoParam (∀v,assign (.Subscript (.Name y p1) (.Constant (.int 1) kk p3) p2) X.env v=(do
      let ov ← holding [v] (eval (.Name y p1) X.env)
      let iv ← holding [v,ov] (eval (.Constant (.int 1) kk p3) X.env)
      standAt p2
      holding [v,ov,iv] (setItem ov iv v)
      release [v,ov,iv] [])) Fc.cZ)
    (hs:autoParam (swapsWithSole [.Subscript (.Name y p1) (.Constant (.int 1) kk p3) p2] e pos.line X.env=pure false) Fc.ai) (hw:autoParam (swappedStores [.Subscript (.Name y p1) (.Constant (.int 1) kk p3) p2] e X.env=pure none) Fc.ai) (h1:autoParam ((assignEach [.Subscript (.Name y p1) (.Constant (.int 1) kk p3) p2] X.env).map (·.2)=[assign (.Subscript (.Name y p1) (.Constant (.int 1) kk p3) p2) X.env]) Fc.ai):
    W1 X (.Assign [.Subscript (.Name y p1) (.Constant (.int 1) kk p3) p2] e pos) Γ N T:=fun σ H0 R0 H R E D dn dr=>by
  refine sS (gc aL (kS (br hN hv hd hcd) dQ set_list ha) hs hw h1) (he σ H0 R0 H R E _ fun v H1 R1 E1 s1 e1=>?_)
  obtain ⟨ea,⟨_,h2,h3,hne⟩,hRa,hRb⟩:=d6 (E1.ent i _ hΓ)
  cases e1
  refine ⟨.ref a,at_of ea,a,_,1,1,rfl,rfl,h2,rfl,?_⟩
  exact dn σ _ R1 _ (E1.nv (en:=.ob (a9.bx a b (s.1,c))) hΓ (show a∈[a,b] by simp) (by rw [ea];exact hV (B:=a9) ⟨rfl,aD,by rw [aJ (Ne.symm hne)];exact h3,hne⟩ hRa hRb) fun c w=>.inl w) s1 h
end
theorem oy {α β:Type}{F:α→β→Prop}{v:α}{y:β}{vs:List α}{xs:List β}(k:Nat)(h:F v y)(p:PySem.Paired F vs xs):PySem.Paired F (cc k v vs) (cc k y xs):=by
  unfold cc
  exact cI (eU k p) (.cons h (fR k p))
noncomputable def pK (k:Int):Value→Bool
  | .int n _=>decide (n=k)
  | _=>false
section
variable {X:Cx}{Γ Γ1 Γ2 Γ3:Ga}{α β γ δ:Type}{N:Ga→Prop}{T:RT}
theorem mP (i:Nat){x:Str}{e1 e2:Expr}{p1 ap cp pos:Pos}{r:Rep α}{xs:List α}{y:α}{k:Int}(h1:EV X e1 Γ ae k Γ1)(h2:EV X e2 Γ1 r y Γ2)(hΓ:Γ[i]?=some (.mu r xs))(hΓ2:Γ2[i]?=some (.mu r xs))
    (k0:0≤k) (k1:k≤(xs.length:Int)) (hz:xs.length < sizeLine) (h:N (Γ2.set i (.mu r (cc k.toNat y xs))))
    (hN:autoParam (X.N[i]?=some x) Fc.ai) (hv:autoParam (ck X.env.scope x) Fc.bO)
    (hd:autoParam ((x==("__debug__":Str))=false) Fc.aw) (hcd:autoParam ((x==("__classdict__":Str))=false) Fc.aw)
    (hsw:autoParam (swapsWith (.Call (.Attribute (.Name x p1) "insert" ap) [e1,e2] [] cp) none pos.line X.env=pure false) Fc.ai)
    (hbase:autoParam (attributeBase (.Name x p1) "insert" X.env (eval (.Name x p1) X.env)=eval (.Name x p1) X.env) Fc.ai)
    (hfew:autoParam (((backTo cp (starEach [e1,e2] X.env)).all (fun x=> !x.1)&&(backToKw cp (keywordEach [] X.env)).all (fun x=>x.1.isSome)
      &&decide ([e1,e2].length + ([]:List Keyword).length + (if ([]:List Keyword).isEmpty then 0 else 1) < 30))=true) Fc.ai)
    (hline:autoParam ((ap.endLine==cp.line)=true) Fc.ai) (hs:autoParam (starEach [e1,e2] X.env=(false,eval e1 X.env)::starEach [e2] X.env) Fc.ai) (hs2:autoParam (starEach [e2] X.env=(false,eval e2 X.env)::starEach [] X.env) Fc.ai) (hpl:autoParam ((backTo cp (starEach [e2] X.env)).any (·.1)=false) Fc.ai):
    W1 X (.Expr (.Call (.Attribute (.Name x p1) "insert" ap) [e1,e2] [] cp) pos) Γ N T:=fun σ H0 R0 H R E D dn dr=>by
  obtain ⟨a,vs,ea,ha,hR,pp⟩:=E.ent i _ hΓ
  refine sS (fc (kR PySem.F.plainAttrs_list PySem.F.slot_list_insert PySem.F.type_list_insert tV (br hN hv hd hcd) (aT aL (aT aL bL hs2) hs) hbase hfew hline hs hpl) hsw) ?_
  refine ⟨.ref a,at_of ea,.inl ⟨rfl,_,bq.of ha⟩,h1 σ H0 R0 H R E _ fun v1 H1 R1 E1 s1 q1=>h2 σ H0 R0 H1 R1 E1 _ fun v2 H2 R2 E2 s2 q2=>?_⟩
  cases q1
  obtain ⟨a',vs',ea',ha',hR',pp'⟩:=E2.ent i _ hΓ2
  rw [ea] at ea';cases ea'
  refine ⟨a,vs',k,v2,rfl,rfl,ha',k0,by rw [pp'.length];exact k1,by rw [pp'.length];exact hz,?_⟩
  exact dn σ _ R2 _ (E2.upd (en:=.mu r (cc k.toNat y xs)) hΓ2 rfl ea hR' ⟨a,_,rfl,aD,hR',oy _ q2 pp'⟩) (s1.trans s2) h
noncomputable def yu:V→List V→Hp→VK→Prop:=fun x vs H Q=>∃(l:Addr) (ns:List Int) (k:Int) (j:Nat),x= .ref l∧vs=[.int k]∧H l=some (.lst (ns.map V.int))∧ns[j]?=some k∧(∀m,m < j→ns[m]?≠some k)∧Q (.int (j:Nat)) H
theorem uX (hu:X.A.units + 1 < cLine):yd X "list.index" yu:=by
  intro pins s σ H x vs v us Q I rx rv h
  obtain ⟨l,ns,k,j,rfl,rfl,hH,hj,hno,q⟩:=h
  cases rx
  obtain ⟨u,rfl,t,rfl⟩:=rv.one
  obtain ⟨hz,its,m,r1,hl,ho⟩:=I.jr hH
  have jl:j < ns.length:=(List.getElem?_eq_some_iff.mp hj).1
  have hl2:its.length=ns.length:=by rw [← hl,List.length_map]
  have at_:∀(n:Nat) (h1:n < its.length) (h2:n < ns.length),∃t',its[n]= .int ns[n] t':=fun n h1 h2=>by
    obtain ⟨u,e1,t',e2⟩:=r1.get (show (ns.map V.int)[n]?=some (.int ns[n]) by rw [List.getElem?_map,List.getElem?_eq_getElem h2];rfl)
    rw [List.getElem?_eq_getElem h1] at e1
    exact ⟨t',(Option.some.inj e1).trans e2⟩
  refine call_meets PySem.F.slot_list_index ⟨_,ho,rfl⟩ PySem.F.entry_list_index (PySem.F.args_list_index_2 _ _)
    (SeqAt.list_indexAt l its.toArray m _ _ (.int k t) (pK k) j (by simpa [hl2] using jl) ?_ ?_ ?_) ⟨ho,fun w hw=>?_,?_⟩
  · have:sizeLine < 2 ^ 63 - 1:=by decide
    rw [List.length_map] at hz
    omega
  · obtain ⟨t',e⟩:=at_ j (by omega) jl
    show pK k its[j]=true
    rw [e]
    rw [List.getElem?_eq_getElem jl] at hj
    exact decide_eq_true (Option.some.inj hj)
  · intro n hn hnj
    obtain ⟨t',e⟩:=at_ n (by simpa using hn) (by omega)
    show pK k its[n]=false
    rw [e]
    refine decide_eq_false fun z=>hno n hnj ?_
    rw [List.getElem?_eq_getElem (by omega),z]
  · have hw:w∈its:=by simpa using hw
    obtain ⟨n,hn,rfl⟩:=List.mem_iff_getElem.mp hw
    obtain ⟨t',e⟩:=at_ n hn (by omega)
    rw [e]
    intro prog w E Q hq
    refine wpAny_eqBool_int ?_
    rw [Bool.beq_eq_decide_eq];exact hq
  · exact ⟨.int _,H,I.tok _,⟨_,rfl⟩,q⟩
theorem oM (i:Nat){x:Str}{e:Expr}{p1 ap cp:Pos}{ns:List Int}{k:Int}{j:Nat}(hu:X.A.units + 1 < cLine)(he:EV X e Γ ae k Γ1)(hΓ:Γ[i]?=some (.mu ae ns))(hΓ1:Γ1[i]?=some (.mu ae ns))(hj:ns[j]?=some k)(hno:∀m,m < j→ns[m]?≠some k)
    (hN:autoParam (X.N[i]?=some x) Fc.ai) (hv:autoParam (ck X.env.scope x) Fc.bO)
    (hd:autoParam ((x==("__debug__":Str))=false) Fc.aw) (hcd:autoParam ((x==("__classdict__":Str))=false) Fc.aw)
    (hbase:autoParam (attributeBase (.Name x p1) "index" X.env (eval (.Name x p1) X.env)=eval (.Name x p1) X.env) Fc.ai)
    (hfew:autoParam (((backTo cp (starEach [e] X.env)).all (fun x=> !x.1)&&(backToKw cp (keywordEach [] X.env)).all (fun x=>x.1.isSome)
      &&decide ([e].length + ([]:List Keyword).length + (if ([]:List Keyword).isEmpty then 0 else 1) < 30))=true) Fc.ai)
    (hline:autoParam ((ap.endLine==cp.line)=true) Fc.ai) (hs:autoParam (starEach [e] X.env=(false,eval e X.env)::starEach [] X.env) Fc.ai):EV X (.Call (.Attribute (.Name x p1) "index" ap) [e] [] cp) Γ ae (j:Nat) Γ1:=fun σ H0 R0 H R E Q q=>by
  obtain ⟨a,vs,ea,ha,hR,pp⟩:=E.ent i _ hΓ
  refine eS (kR PySem.F.plainAttrs_list PySem.F.slot_list_index PySem.F.type_list_index (uX hu) (br hN hv hd hcd) (aT aL bL hs) hbase hfew hline hs rfl) ?_
  refine ⟨.ref a,at_of ea,.inl ⟨rfl,vs,bq.of ha⟩,he σ H0 R0 H R E _ fun v H1 R1 E1 s1 e1=>?_⟩
  obtain ⟨a',vs',ea',ha',hR',pp'⟩:=E1.ent i _ hΓ1
  rw [ea] at ea';cases ea'
  cases e1
  exact ⟨a,ns,k,j,rfl,rfl,by rw [ha',dW pp'],hj,hno,q _ _ _ E1 s1 rfl⟩
noncomputable def wR:V→List V→Hp→VK→Prop:=fun x vs H Q=>∃(l:Addr) (ns:List Int) (k:Int) (j:Nat),x= .ref l∧vs=[.int k]∧H l=some (.lst (ns.map V.int))∧ns[j]?=some k∧(∀m,m < j→ns[m]?≠some k)∧Q .non (upd H l (.lst ((ns.eraseIdx j).map V.int)))
theorem rL:wm X "list.remove" wR:=by
  intro pins s σ H x vs v us Q I rx rv h
  obtain ⟨l,ns,k,j,rfl,rfl,hH,hj,hno,q⟩:=h
  cases rx
  obtain ⟨u,rfl,t,rfl⟩:=rv.one
  obtain ⟨hz,its,m,r1,hl,ho⟩:=I.jr hH
  have jl:j < ns.length:=(List.getElem?_eq_some_iff.mp hj).1
  have hl2:its.length=ns.length:=by rw [← hl,List.length_map]
  have at_:∀(n:Nat) (h1:n < its.length) (h2:n < ns.length),∃t',its[n]= .int ns[n] t':=fun n h1 h2=>by
    obtain ⟨u,e1,t',e2⟩:=r1.get (show (ns.map V.int)[n]?=some (.int ns[n]) by rw [List.getElem?_map,List.getElem?_eq_getElem h2];rfl)
    rw [List.getElem?_eq_getElem h1] at e1
    exact ⟨t',(Option.some.inj e1).trans e2⟩
  refine call_meets PySem.F.slot_list_remove ⟨_,ho,rfl⟩ PySem.F.entry_list_remove (PySem.F.args_list_remove_2 _ _)
    (MeetsSeq.list_remove l its.toArray m (.int k t) (pK k) (fun w hw=>?_) j (by simpa [hl2] using jl) ?_ ?_ (by rw [List.size_toArray,hl2,← List.length_map (f:=V.int)];exact hz)) ⟨ho,?_⟩
  · have hw:w∈its:=by simpa using hw
    obtain ⟨n,hn,rfl⟩:=List.mem_iff_getElem.mp hw
    obtain ⟨t',e⟩:=at_ n hn (by omega)
    rw [e]
    intro prog w A E s Q hq
    refine wpAny_eqBool_int ?_
    rw [Bool.beq_eq_decide_eq];exact hq
  · obtain ⟨t',e⟩:=at_ j (by omega) jl
    show pK k its[j]=true
    rw [e]
    rw [List.getElem?_eq_getElem jl] at hj
    exact decide_eq_true (Option.some.inj hj)
  · intro n hn hnj
    obtain ⟨t',e⟩:=at_ n (by simpa using hn) (by omega)
    show pK k its[n]=false
    rw [e]
    refine decide_eq_false fun z=>hno n hnj ?_
    rw [List.getElem?_eq_getElem (by omega),z]
  · refine ⟨.non,_,I.qA (its':=its.eraseIdx j) hH ho ?_ ?_ ?_,rfl,q⟩
    · rw [List.eraseIdxIfInBounds_toArray]
    · have key:∀(ns:List Int) (ws:List Value) (j:Nat),Vals (ns.map V.int) ws→Vals ((ns.eraseIdx j).map V.int) (ws.eraseIdx j):=by
        intro ns
        induction ns with
        | nil=>intro ws j h;cases h;exact .nil
        | cons a ns ih=>
          intro ws j h
          cases h with
          | cons h1 t=>
            cases j with
            | zero=>exact t
            | succ j=>exact .cons h1 (ih _ j t)
      exact key ns its j r1
    · rw [List.length_map]
      rw [List.length_map] at hz
      exact Nat.le_trans (List.length_eraseIdx_le ns j) hz
theorem vp (i:Nat){x:Str}{e:Expr}{p1 ap cp pos:Pos}{ns:List Int}{k:Int}{j:Nat}(he:EV X e Γ ae k Γ1)(hΓ:Γ[i]?=some (.mu ae ns))(hΓ1:Γ1[i]?=some (.mu ae ns))(hj:ns[j]?=some k)(hno:∀m,m < j→ns[m]?≠some k)(h:N (Γ1.set i (.mu ae (ns.eraseIdx j))))
    (hN:autoParam (X.N[i]?=some x) Fc.ai) (hv:autoParam (ck X.env.scope x) Fc.bO)
    (hd:autoParam ((x==("__debug__":Str))=false) Fc.aw) (hcd:autoParam ((x==("__classdict__":Str))=false) Fc.aw)
    (hsw:autoParam (swapsWith (.Call (.Attribute (.Name x p1) "remove" ap) [e] [] cp) none pos.line X.env=pure false) Fc.ai)
    (hbase:autoParam (attributeBase (.Name x p1) "remove" X.env (eval (.Name x p1) X.env)=eval (.Name x p1) X.env) Fc.ai)
    (hfew:autoParam (((backTo cp (starEach [e] X.env)).all (fun x=> !x.1)&&(backToKw cp (keywordEach [] X.env)).all (fun x=>x.1.isSome)
      &&decide ([e].length + ([]:List Keyword).length + (if ([]:List Keyword).isEmpty then 0 else 1) < 30))=true) Fc.ai)
    (hline:autoParam ((ap.endLine==cp.line)=true) Fc.ai) (hs:autoParam (starEach [e] X.env=(false,eval e X.env)::starEach [] X.env) Fc.ai):W1 X (.Expr (.Call (.Attribute (.Name x p1) "remove" ap) [e] [] cp) pos) Γ N T:=fun σ H0 R0 H R E D dn dr=>by
  obtain ⟨a,vs,ea,ha,hR,pp⟩:=E.ent i _ hΓ
  refine sS (fc (kR PySem.F.plainAttrs_list PySem.F.slot_list_remove PySem.F.type_list_remove rL (br hN hv hd hcd) (aT aL bL hs) hbase hfew hline hs rfl) hsw) ?_
  refine ⟨.ref a,at_of ea,.inl ⟨rfl,vs,bq.of ha⟩,he σ H0 R0 H R E _ fun v H1 R1 E1 s1 e1=>?_⟩
  obtain ⟨a',vs',ea',ha',hR',pp'⟩:=E1.ent i _ hΓ1
  rw [ea] at ea';cases ea'
  cases e1
  refine ⟨a,ns,k,j,rfl,rfl,by rw [ha',dW pp'],hj,hno,?_⟩
  exact dn σ _ R1 _ (E1.upd (en:=.mu ae (ns.eraseIdx j)) hΓ1 rfl ea hR' ⟨a,_,rfl,aD,hR',paired_ints _⟩) s1 h
theorem EV.two {e:Expr}{r:Rep α}{x y:α}(h:EV X e Γ (ag r) [x,y] Γ1):EV X e Γ (fz r) (x,y) Γ1:=EV.rep h fun _ _ q=>q
end
noncomputable def vL (i j:Int):Prop:=0 < j∧j < 1000000000000000000
theorem uG {X:Cx}:dm X (binaryOp .FloorDiv) (rI vL fun i j=>.int (i / j)):=ua fun i j _ _ _ _ _ hc q=>by
  have h1:(0:Int) < j:=hc.1
  have h2:j < 1000000000000000000:=hc.2
  exact floordiv_int (by omega) (by rw [Int.fdiv_eq_ediv_of_nonneg i (by omega)];exact q) (.inl (PyProof.noPylong_of_log2 (Nat.lt_of_lt_of_le ((Nat.log2_lt (by omega)).mpr (show j.natAbs < 2 ^ 60 by omega)) (by decide))))
theorem uZ {X:Cx}{Γ Γ1 Γ2:Ga}{a b:Expr}{pos:Pos}{x y:Int}(ha:EV X a Γ ae x Γ1)(hb:EV X b Γ1 ae y Γ2)(h:vL x y):EV X (.BinOp a .FloorDiv b pos) Γ ae (x / y) Γ2:=iX uG ha hb fun R v u H Q e1 e2 q=>⟨x,y,e1,e2,h,q _ rfl⟩
end Fc
namespace K1
open PySem L2 Fc
open PySem.Spec hiding Row
open PyProof.Rows hiding St
open PySem.Builtin.Int (intBits)
structure cB (n:Int) (s:Pu):Prop where
  ne:1≤s.1.length
  le:s.1.length≤63
  bits:∀c∈s.1,intBits c≤2 ^ 20
  t0:0≤s.2
  t1:s.2≤n
theorem cB.mono {n n':Int}{s:Pu}(h:cB n s)(hn:n≤n'):cB n' s:=⟨h.ne,h.le,h.bits,h.t0,Int.le_trans h.t1 hn⟩
noncomputable def tR (s:Pu):Nat:=(s.2 % (s.1.length:Int)).toNat
noncomputable def fV (s:Pu):Int:=s.1.getD (tR s) 0
noncomputable def mX (s:Pu):Int:=(fV s * 48271 + s.2 * s.2 * 69621 + 7) % 2147483647
noncomputable def k8 (s:Pu):Int:=mX s * mX s % 2147483629
noncomputable def fu (s:Pu)(b:Int):Int:=if 10 ^ 18≤fV s then fV s % b else k8 s * k8 s % 2147483587 % b
noncomputable def gr (s:Pu)(b:Int):Pu:=if 10 ^ 18≤fV s then (s.1.set (tR s) (fV s / b),s.2 + 1) else (s.1,s.2 + 1)
theorem tL {n:Int}{s:Pu}(h:cB n s):tR s < s.1.length:=by
  have h1:=Int.emod_lt_of_pos s.2 (show (0:Int) < (s.1.length:Int) by have:=h.ne;omega)
  have h2:=Int.emod_nonneg s.2 (show (s.1.length:Int)≠0 by have:=h.ne;omega)
  unfold tR;omega
theorem jh {n:Int}{s:Pu}(h:cB n s):fV s∈s.1:=by
  unfold fV
  rw [List.getD_eq_getElem?_getD,List.getElem?_eq_getElem (tL h)]
  exact List.getElem_mem _
section
variable {P:Program}{w:World}{K:PySem.W.Frag}{mg:Str→Option Value}{base:Heap}{f:Addr}{fd:FuncData}
noncomputable abbrev wg:Stmt:=top nN
noncomputable abbrev nDR:List Str:=["_law_purse_here","_law_out_of","_law_cells","_law_turn","_law_at","_law_cell","_law_number"]
theorem ya:ax nDR ["_law_purse_here","_law_out_of"] (ah wg):=⟨rfl,rfl,rfl,by decide +kernel,rfl,by decide +kernel,by decide +kernel⟩
noncomputable def jP:gZ Pu:=fun K s ps T=>∃b:Int,cB 1000000 s∧ps=[⟨ae,b⟩]∧0 < b∧b < 1000000000000000000∧T=fun s'=>bC K ae fun y=>s'=gr s b∧y=fu s b
theorem Bh (M:bU mg)(F:bh K "_law_draw" "_law_draw" wg f fd)(hm:mg "_law_draw"=some (.ref f))(hb:Binds K fd ["_law_purse_here","_law_out_of"] []):az P w K mg base "_law_draw" 1 (dy a9 jP K):=by
  have nd:=ya.nd
  refine gN F ya hm hb (fun xs qs T ⟨b,_,e,_⟩=>by rw [e];rfl) (fun cdv A outer s H E a b st qs T hr hS=>?_)
  obtain ⟨d,hP,rfl,b0,b1,rfl⟩:=hS
  have al:=tL hP
  have t0:=hP.t0;have t1:=hP.t1;have ne:=hP.ne;have le:=hP.le
  have hbc:=hP.bits _ (jh hP)
  have m0:=Int.emod_nonneg st.2 (show (st.1.length:Int)≠0 by omega)
  have m1:=Int.emod_lt_of_pos st.2 (show (0:Int) < (st.1.length:Int) by omega)
  change WS _ _ [.ob (a9.bx a b st),.im ae d,.no,.no,.no,.no,.no] _ _
  refine aj (wU 0 2 3 rfl ?_)
  refine aj (aK 4 (iI (aa 3 rfl) (um 0 2 M.len rfl rfl) (by omega)) ?_)
  refine aj (aK 5 (xm 0 2 (c:=fV st) (aa 4 rfl) rfl rfl (by rw [cD m0 m1];rfl)) ?_)
  refine aj (vm 0 (bZ (aa 3 rfl) ak) rfl ?_)
  refine aj (bu (aI ym (aa 5 rfl) (fk ak ak ⟨by decide,by decide,by decide⟩)) (fun h=>?_) (fun h=>aU ?_))
  · have h:(10:Int) ^ 18≤fV st:=of_decide_eq_true h
    refine aj (rY 0 2 (n:=tR st) (uZ (aa 5 rfl) (aa 1 rfl) ⟨b0,b1⟩) (aa 4 rfl) rfl rfl (fi m0 m1) ?_)
    refine ar (dP 0 (B:=a9) (iI (aa 5 rfl) (aa 1 rfl) b0) rfl ⟨?_,?_⟩)
    · rw [gr,if_pos h]
    · rw [fu,if_pos h]
  · have h:¬(10:Int) ^ 18≤fV st:=of_decide_eq_false h
    have n0:0≤mX st:=Int.emod_nonneg _ (by decide)
    have n1:mX st < 2147483647:=Int.emod_lt_of_pos _ (by decide)
    have q0:0≤k8 st:=Int.emod_nonneg _ (by decide)
    have q1:k8 st < 2147483629:=Int.emod_lt_of_pos _ (by decide)
    refine aj (aK 6 (EV.cast (y':=mX st) (iI (bZ (bZ (iw (aa 5 rfl) ak (.of_right (by decide))) (iw (iw (aa 3 rfl) (aa 3 rfl) (jo t0 (by omega))) ak (.of_right (by decide)))) ak) ak (by decide)) rfl) ?_)
    refine aj (aK 6 (EV.cast (y':=k8 st) (iI (iw (aa 6 rfl) (aa 6 rfl) (jo n0 (by omega))) ak (by decide)) rfl) ?_)
    refine ar (dP 0 (B:=a9) (iI (iI (iw (aa 6 rfl) (aa 6 rfl) (jo q0 (by omega))) ak (by decide)) (aa 1 rfl) b0) rfl ⟨?_,?_⟩)
    · rw [gr,if_neg h]
    · rw [fu,if_neg h]
theorem bD {n:Int}{s:Pu}(h:cB n s)(hn:n < 1000000){b:Int}(b0:0 < b)(b1:b < 1000000000000000000):∃y st,0≤y∧y < b∧cB (n + 1) st∧∀K,jP K s [⟨ae,b⟩] (fun s'=>bC K ae fun z=>s'=st∧z=y):=by
  have hbc:=h.bits _ (jh h)
  have t0:=h.t0;have t1:=h.t1;have ne:=h.ne;have le:=h.le
  refine ⟨fu s b,gr s b,?_,?_,?_,fun K=>⟨b,h.mono (by omega),rfl,b0,b1,rfl⟩⟩
  · unfold fu;split<;>exact Int.emod_nonneg _ (by omega)
  · unfold fu;split<;>exact Int.emod_lt_of_pos _ b0
  · unfold gr
    split
    · refine ⟨by rw [List.length_set];exact ne,by rw [List.length_set];exact le,fun c hc=>?_,by show 0≤s.2 + 1;omega,by show s.2 + 1≤n + 1;omega⟩
      rcases List.mem_or_eq_of_mem_set hc with z | rfl
      · exact h.bits c z
      · exact mj b0 hbc
    · exact ⟨ne,le,h.bits,by show 0≤s.2 + 1;omega,by show s.2 + 1≤n + 1;omega⟩
noncomputable abbrev oC:Stmt:=top mE
noncomputable abbrev Ci:List Str:=["_law_script","_law_cells"]
theorem yU:ax Ci ["_law_script"] (ah oC):=⟨rfl,rfl,rfl,by decide +kernel,rfl,by decide +kernel,by decide +kernel⟩
noncomputable def C8:bW:=fun K ps T=>∃ns:List Int,ps=[⟨gf,ns⟩]∧ns.length≤63∧(∀n∈ns,intBits n≤2 ^ 20)∧T=qx (cB 0)
theorem xg {α:Type}(xs:List α)(l h:Option Int):∀x∈cut xs l h,x∈xs:=by
  intro x hx
  unfold cut at hx
  first | exact List.mem_of_mem_drop (List.mem_of_mem_take hx) | exact List.mem_of_mem_take (List.mem_of_mem_drop hx) | (simp at hx;exact hx)
theorem BV (F:bh K "_law_purse" "_law_purse" oC f fd)(hm:mg "_law_purse"=some (.ref f))(hb:Binds K fd ["_law_script"] []):az P w K mg base "_law_purse" 1 (aE C8 K):=by
  have nd:=yU.nd
  refine bM F yU hm hb (fun qs T ⟨_,e,_⟩=>by rw [e];rfl) (fun cdv A outer s H E qs T hr hS=>?_)
  obtain ⟨ns,rfl,hl,hbits,rfl⟩:=hS
  have hu:(A.deeper (envOfC "_law_purse" (ah oC) s.heap.objs.size f cdv)).units + 1 < cLine:=Nat.lt_of_le_of_lt (Nat.add_le_add_left (by decide:1≤64) _) hr.units
  change WS _ _ [.im gf ns,.no] _ _
  refine aj (de 1 (qB (aa 0 rfl) dD (dF ak)) ?_)
  have cl:(cut ns none (some 63)).length≤63:=Nat.le_trans (eE _ _ _) hl
  have cb:∀n∈cut ns none (some 63),intBits n≤2 ^ 20:=fun n hn=>hbits n (xg ns none (some 63) n hn)
  generalize cut ns none (some 63)=cs at cl cb
  have fin:∀xs:List Int,1≤xs.length→xs.length≤63→(∀n∈xs,intBits n≤2 ^ 20)→WS (bF df P w K mg base Ci "_law_purse" (ah oC) f cdv A outer s H E).bR ((bo oC).drop 2) [.im gf ns,.mu ae xs] (fun _=>False) (qx (cB 0)):=by
    intro xs h1 h2 h3
    refine WS.box 1 rfl fun b=>?_
    exact ar (xk 1 (aB (av (u9 1 rfl) (av (EV.BS ak) aF)) (by show 2≤sizeLine;decide)) rfl ⟨h1,h2,h3,Int.le_refl _,Int.le_refl _⟩)
  refine aj (bu (TV.frz (y8 (i:=1) rfl (aP (by omega))) (aI (qL (r:=ae) eq_int hu) (aa 1 rfl) (aC.im (aB aF (by decide))))) (fun h=>?_) (fun h=>aU ?_))
  · refine ar (de 1 (r:=ae) (aB (av ak aF) (by show 1≤sizeLine;decide)) ?_)
    exact fin [0] (by simp) (by simp) (by intro n hn;rw [List.mem_singleton.mp hn];decide)
  · have h:cs≠[]:=of_decide_eq_false h
    exact fin cs (by cases cs with
      | nil=>exact absurd rfl h
      | cons=>simp) cl cb
end
end K1
namespace Fc
open PySem PySem.Spec L2
open PyProof.Rows hiding St
section
variable {X:Cx}{Γ Γ1 Γ2 Γ3:Ga}{α β γ δ:Type}{N:Ga→Prop}{T:RT}
theorem xc {a b:Expr}{rest:List Expr}{pos:Pos}{y:Bool}(ha:TV X a Γ true Γ1)(hb:TW X (.BoolOp .And (b::rest) pos) Γ1 y Γ2):TW X (.BoolOp .And (a::b::rest) pos) Γ y Γ2:=fun σ H0 R0 H R E Q q=>
  wS (tW jO wk) (ha σ H0 R0 H R E _ fun H1 R1 E1 s1=>ite_tt (hb σ H0 R0 H1 R1 E1 Q fun H2 R2 E2 s2=>q H2 R2 E2 (s1.trans s2)))
theorem uh {a:Expr}{pos:Pos}{x:Bool}(ha:TV X a Γ x Γ1):TW X (.BoolOp .And [a] pos) Γ x Γ1:=fun σ H0 R0 H R E Q q=>wS (pT jO) (ha σ H0 R0 H R E Q q)
end
end Fc
namespace K1
open PySem L2 Fc
open PySem.Spec hiding Row
open PyProof.Rows hiding St
open PySem.Builtin.Int (intBits)
noncomputable def kB (t:Int×Int):Int×Int:=(t.2,t.1)
theorem fg {es:List (Int×Int)}{a b:Int}:(a,b)∈es.map kB↔(b,a)∈es:=by
  rw [List.mem_map]
  constructor
  · rintro ⟨⟨x,y⟩,h,e⟩
    simp only [kB,Prod.mk.injEq] at e
    rw [← e.1,← e.2];exact h
  · intro h;exact ⟨(b,a),h,rfl⟩
structure eF (many:Int) (ties:List (Int×Int)):Prop where
  m2:2≤many
  bd:∀t∈ties,0≤t.1∧t.1 < many∧t.1≠1∧0≤t.2∧t.2 < many
  fw:∀k,0≤k→k < many→Reach ties 0 k
  bw:∀k,0≤k→k < many→Reach (ties.map kB) 1 k
theorem Reach.mono {es es':List (Int×Int)}{s:Int}(h:∀t∈es,t∈es'){k:Int}(r:Reach es s k):Reach es' s k:=Reach.sub .base (fun _ _ ha hab=>.step ha (h _ hab)) r
theorem eF.more {n:Int}{ties:List (Int×Int)}(h:eF n ties){a b:Int}(a0:0≤a)(a1:a < n)(an:a≠1)(b0:0≤b)(b1:b < n):eF n (ties++[(a,b)]):=by
  refine ⟨h.m2,fun t ht=>?_,fun k k0 k1=>Reach.mono (fun t ht=>List.mem_append_left _ ht) (h.fw k k0 k1),fun k k0 k1=>Reach.mono (fun t ht=>?_) (h.bw k k0 k1)⟩
  · rcases List.mem_append.mp ht with z | z
    · exact h.bd t z
    · rw [List.mem_singleton.mp z];exact ⟨a0,a1,an,b0,b1⟩
  · rw [List.map_append];exact List.mem_append_left _ ht
theorem eF.split {n:Int}{ties:List (Int×Int)}(h:eF n ties){i:Nat}{a b:Int}(hi:ties[i]?=some (a,b)):eF (n + 1) (ties.set i (a,n)++[(n,b)]):=by
  have il:=(List.getElem?_eq_some_iff.mp hi).1
  have hm:=h.m2
  have hab:=h.bd _ (List.mem_of_getElem? hi)
  have e1:(a,n)∈ties.set i (a,n)++[(n,b)]:=List.mem_append_left _ (List.mem_iff_getElem?.mpr ⟨i,List.getElem?_set_self il⟩)
  have e2:(n,b)∈ties.set i (a,n)++[(n,b)]:=List.mem_append_right _ (by simp)
  have keep:∀t∈ties,t=(a,b)∨t∈ties.set i (a,n)++[(n,b)]:=fun t ht=>by
    obtain ⟨j,hj⟩:=List.mem_iff_getElem?.mp ht
    by_cases e:i=j
    · subst e;rw [hi] at hj;cases hj;exact .inl rfl
    · exact .inr (List.mem_append_left _ (List.mem_iff_getElem?.mpr ⟨j,by rw [List.getElem?_set_ne e];exact hj⟩))
  have fw:∀{k:Int},Reach ties 0 k→Reach (ties.set i (a,n)++[(n,b)]) 0 k:=fun r=>Reach.sub .base (fun x y hx hxy=>by
    rcases keep _ hxy with z | z
    · cases z;exact .step (.step hx e1) e2
    · exact .step hx z) r
  have bw:∀{k:Int},Reach (ties.map kB) 1 k→Reach ((ties.set i (a,n)++[(n,b)]).map kB) 1 k:=fun r=>Reach.sub .base (fun x y hx hxy=>by
    rcases keep _ (fg.mp hxy) with z | z
    · cases z;exact .step (.step hx (fg.mpr e2)) (fg.mpr e1)
    · exact .step hx (fg.mpr z)) r
  refine ⟨by omega,fun t ht=>?_,fun k k0 k1=>?_,fun k k0 k1=>?_⟩
  · rcases List.mem_append.mp ht with z | z
    · rcases List.mem_or_eq_of_mem_set z with z | z
      · have:=h.bd t z;omega
      · rw [z];exact ⟨hab.1,by show a < n + 1;omega,hab.2.2.1,by show 0≤n;omega,by show n < n + 1;omega⟩
    · rw [List.mem_singleton.mp z];exact ⟨by show 0≤n;omega,by show n < n + 1;omega,by show n≠1;omega,hab.2.2.2.1,by show b < n + 1;omega⟩
  · by_cases e:k=n
    · rw [e];exact .step (fw (h.fw a hab.1 hab.2.1)) e1
    · exact fw (h.fw k k0 (by omega))
  · by_cases e:k=n
    · rw [e];exact .step (bw (h.bw b hab.2.2.2.1 hab.2.2.2.2)) (fg.mpr e2)
    · exact bw (h.bw k k0 (by omega))
theorem eF.ren {n:Int}{ties:List (Int×Int)}(h:eF n ties){g:Int→Int}(gb:∀k,0≤k→k < n→0≤g k∧g k < n)(gs:∀k,0≤k→k < n→∃j,0≤j∧j < n∧g j=k)(g0:g 0=0)(g1:g 1=1)(gi:∀k,0≤k→k < n→g k=1→k=1):eF n (ties.map fun (t:Int×Int)=>(g t.1,g t.2)):=by
  have fw:∀{k:Int},Reach ties 0 k→Reach (ties.map fun (t:Int×Int)=>(g t.1,g t.2)) 0 (g k):=fun r=>by
    refine Reach.sub (P:=fun k=>Reach (ties.map fun (t:Int×Int)=>(g t.1,g t.2)) 0 (g k)) (by rw [g0];exact .base) (fun x y hx hxy=>.step hx (List.mem_map.mpr ⟨_,hxy,rfl⟩)) r
  have bw:∀{k:Int},Reach (ties.map kB) 1 k→Reach ((ties.map fun (t:Int×Int)=>(g t.1,g t.2)).map kB) 1 (g k):=fun r=>by
    refine Reach.sub (P:=fun k=>Reach ((ties.map fun (t:Int×Int)=>(g t.1,g t.2)).map kB) 1 (g k)) (by rw [g1];exact .base) (fun x y hx hxy=>.step hx (fg.mpr (List.mem_map.mpr ⟨_,fg.mp hxy,rfl⟩))) r
  refine ⟨h.m2,fun t ht=>?_,fun k k0 k1=>?_,fun k k0 k1=>?_⟩
  · obtain ⟨u,hu,rfl⟩:=List.mem_map.mp ht
    have b:=h.bd u hu
    have b1:=gb u.1 b.1 b.2.1
    have b2:=gb u.2 b.2.2.2.1 b.2.2.2.2
    exact ⟨b1.1,b1.2,fun e=>b.2.2.1 (gi u.1 b.1 b.2.1 e),b2.1,b2.2⟩
  · obtain ⟨j,j0,j1,rfl⟩:=gs k k0 k1
    exact fw (h.fw j j0 j1)
  · obtain ⟨j,j0,j1,rfl⟩:=gs k k0 k1
    exact bw (h.bw j j0 j1)
structure iJ (n:Nat) (xs:List Int):Prop where
  len:xs.length=n
  nd:xs.Nodup
  mem:∀k,k∈xs↔0≤k∧k < (n:Int)
theorem iW {α:Type}{k:Nat}{y:α}{xs:List α}:(cc k y xs).Perm (y::xs):=by
  unfold cc
  have:=List.perm_middle (a:=y) (l₁:=xs.take k) (l₂:=xs.drop k)
  rwa [List.take_append_drop] at this
theorem iJ.ins {n:Nat}{xs:List Int}(h:iJ n xs)(k:Nat):iJ (n + 1) (cc k (n:Int) xs):=by
  have p:=iW (k:=k) (y:=(n:Int)) (xs:=xs)
  refine ⟨by rw [p.length_eq,List.length_cons,h.len],p.nodup_iff.mpr (List.nodup_cons.mpr ⟨fun z=>by have:=(h.mem _).mp z;omega,h.nd⟩),fun j=>?_⟩
  rw [p.mem_iff,List.mem_cons,h.mem]
  omega
section
variable {P:Program}{w:World}{K:PySem.W.Frag}{mg:Str→Option Value}{base:Heap}{f:Addr}{fd:FuncData}
noncomputable abbrev vD:Stmt:=top mG
noncomputable abbrev nOR:List Str:=["_law_purse_here","_law_many","_law_found","_law_k"]
theorem x8:ax nOR ["_law_purse_here","_law_many"] (ah vD):=⟨rfl,rfl,rfl,by decide +kernel,rfl,by decide +kernel,by decide +kernel⟩
noncomputable def cz (s:Pu):Nat→Pu×List Int
  | 0=>(s,[])
  | k + 1=>(gr (cz s k).1 ((k:Int) + 1),cc (fu (cz s k).1 ((k:Int) + 1)).toNat (k:Int) (cz s k).2)
theorem hU {n:Int}{s:Pu}(h:cB n s):∀m:Nat,n + m≤200000→cB (n + m) (cz s m).1∧iJ m (cz s m).2
  | 0,_=>⟨h.mono (by omega),rfl,List.nodup_nil,fun k=>by simp [cz]<;>omega⟩
  | k + 1,hk=>by
    have hn0:0≤n:=Int.le_trans h.t0 h.t1
    obtain ⟨h1,h2⟩:=hU h k (by omega)
    refine ⟨?_,h2.ins _⟩
    obtain ⟨y,st,_,_,h3,h4⟩:=bD h1 (by omega) (b:=(k:Int) + 1) (by omega) (by omega)
    have hbc:=h1.bits _ (jh h1)
    show cB _ (gr (cz s k).1 ((k:Int) + 1))
    have t0:=h1.t0;have t1:=h1.t1;have ne:=h1.ne;have le:=h1.le
    unfold gr
    split
    · refine ⟨by rw [List.length_set];exact ne,by rw [List.length_set];exact le,fun c hc=>?_,by show 0≤(cz s k).1.2 + 1;omega,by show (cz s k).1.2 + 1≤_;omega⟩
      rcases List.mem_or_eq_of_mem_set hc with z | rfl
      · exact h1.bits c z
      · exact mj (by omega) hbc
    · exact ⟨ne,le,h1.bits,by show 0≤(cz s k).1.2 + 1;omega,by show (cz s k).1.2 + 1≤_;omega⟩
noncomputable def wj:gZ Pu:=fun K s ps T=>∃(n:Int) (m:Nat),cB n s∧0≤n∧n≤100000∧ps=[⟨ae,(m:Int)⟩]∧m≤100∧T=fun s'=>bC K (ag ae) fun xs=>s'=(cz s m).1∧xs=(cz s m).2
theorem pL {n:Int}{s:Pu}(h:cB n s)(n0:0≤n)(hn:n≤100000){m:Nat}(hm:m≤100):∃xs st,cB (n + m) st∧iJ m xs∧∀K,wj K s [⟨ae,(m:Int)⟩] (fun s'=>bC K (ag ae) fun z=>s'=st∧z=xs):=by
  obtain ⟨h1,h2⟩:=hU h m (by omega)
  exact ⟨_,_,h1,h2,fun K=>⟨n,m,h,n0,hn,rfl,hm,rfl⟩⟩
theorem BZ (M:bU mg)(CD:az P w K mg base "_law_draw" 1 (dy a9 jP K))(F:bh K "_law_order" "_law_order" vD f fd)(hm:mg "_law_order"=some (.ref f))(hb:Binds K fd ["_law_purse_here","_law_many"] []):az P w K mg base "_law_order" 2 (dy a9 wj K):=by
  have nd:=x8.nd
  refine gN F x8 hm hb (fun xs qs T ⟨_,_,_,_,_,e,_⟩=>by rw [e];rfl) (fun cdv A outer s H E a b st qs T hr hS=>?_)
  obtain ⟨n,m,hP,n0,n1,rfl,hm,rfl⟩:=hS
  change WS _ _ [.ob (a9.bx a b st),.im ae (m:Int),.no,.no] _ _
  refine aj (de 2 (r:=ae) (aB aF (by decide)) ?_)
  refine aj (du (r:=ae) (fun i Γ=>∃v3,Γ=[.ob (a9.bx a b (cz st i).1),.im ae (m:Int),.mu ae (cz st i).2,v3])
    (d8 M.range (aa 1 rfl) ⟨by omega,by omega⟩) (aM 3) ⟨_,rfl⟩ ?_ ?_)
  · rintro i x Γ hx ⟨v3,rfl⟩
    obtain ⟨hi,rfl⟩:=ie hx
    obtain ⟨hP1,hX⟩:=hU hP i (by omega)
    have hl:=hX.len
    have e0:(0:Int) + (i:Int)=(i:Int):=by omega
    have hb1:0≤fu (cz st i).1 ((i:Int) + 1)∧fu (cz st i).1 ((i:Int) + 1) < (i:Int) + 1:=by
      unfold fu;split<;>exact ⟨Int.emod_nonneg _ (by omega),Int.emod_lt_of_pos _ (by omega)⟩
    refine ar (mP 2 (k:=fu (cz st i).1 ((i:Int) + 1)) (aY 0 (st:=gr (cz st i).1 ((i:Int) + 1)) CD hr (af (EV.cast (y':=(i:Int) + 1) (bZ (aa 3 rfl) ak) (by omega)) ao) rfl rfl ⟨_,hP1.mono (by omega),rfl,by omega,by omega,rfl⟩) (EV.cast (y':=(i:Int)) (aa 3 rfl) e0) rfl rfl hb1.1 (by omega) (Nat.lt_of_le_of_lt (show (cz st i).2.length≤1000 by omega) (by decide)) ?_)
    exact ⟨_,rfl⟩
  · rintro Γ ⟨v3,rfl⟩
    rw [aN]
    obtain ⟨hP1,hX⟩:=hU hP m (by omega)
    have hl:=hX.len
    rw [show ((m:Int)).toNat=m by omega]
    exact ar (dP 0 (B:=a9) (dN 2 rfl (aP (by omega))) rfl ⟨rfl,rfl⟩)
end
theorem nt {α:Type}{k i:Nat}{y:α}{xs:List α}(h:i < k)(hk:k≤xs.length):(cc k y xs)[i]?=xs[i]?:=by
  unfold cc
  rw [List.getElem?_append_left (by rw [List.length_take];omega),List.getElem?_take_of_lt h]
theorem n4 {α:Type}{k:Nat}{y:α}{xs:List α}(hk:k≤xs.length):(cc k y xs)[k]?=some y:=by
  unfold cc
  rw [List.getElem?_append_right (by rw [List.length_take];omega),List.length_take,Nat.min_eq_left hk,Nat.sub_self];rfl
theorem oz {α:Type}{k i:Nat}{y:α}{xs:List α}(h:k≤i)(hk:k≤xs.length):(cc k y xs)[i + 1]?=xs[i]?:=by
  unfold cc
  rw [List.getElem?_append_right (by rw [List.length_take];omega),List.length_take,Nat.min_eq_left hk,show i + 1 - k=(i - k) + 1 by omega,List.getElem?_cons_succ,List.getElem?_drop]
  congr 1;omega
structure fA (loose:Bool) (od:List Int) (rows:List (Int×Int)):Prop where
  pm:iJ od.length od
  l2:2≤od.length
  first:od[0]?=some 0
  last:od[od.length - 1]?=some 1
  good:eF od.length rows
  up:loose=true→∀t∈rows,∃(i j:Nat),od[i]?=some t.1∧od[j]?=some t.2∧i < j
theorem fA.base (loose:Bool):fA loose [0,1] [(0,1)]:=by
  refine ⟨⟨rfl,by decide,fun k=>by simp;omega⟩,by decide,rfl,rfl,⟨by decide,fun t ht=>?_,fun k k0 k1=>?_,fun k k0 k1=>?_⟩,fun _ t ht=>?_⟩
  · rw [List.mem_singleton.mp ht];decide
  · have k1:k < 2:=k1
    rcases (show k=0∨k=1 by omega) with rfl | rfl
    · exact .base
    · exact .step .base (by simp)
  · have k1:k < 2:=k1
    rcases (show k=0∨k=1 by omega) with rfl | rfl
    · exact .step (a:=1) .base (by simp [kB])
    · exact .base
  · rw [List.mem_singleton.mp ht];exact ⟨0,1,rfl,rfl,by decide⟩
theorem fA.ne1 {loose:Bool}{od:List Int}{rows:List (Int×Int)}(h:fA loose od rows){i:Nat}{x:Int}(hi:od[i]?=some x)(hl:i + 1 < od.length):x≠1:=fun e=>by
  subst e
  have a:=(List.getElem?_eq_some_iff.mp hi)
  have b:=(List.getElem?_eq_some_iff.mp h.last)
  have:=(List.getElem_inj (h₀:=a.1) (h₁:=b.1) h.pm.nd).mp (a.2.trans b.2.symm)
  omega
theorem fA.bd {loose:Bool}{od:List Int}{rows:List (Int×Int)}(h:fA loose od rows){i:Nat}{x:Int}(hi:od[i]?=some x):0≤x∧x < (od.length:Int):=(h.pm.mem x).mp (List.mem_of_getElem? hi)
theorem fA.more {loose:Bool}{od:List Int}{rows:List (Int×Int)}(h:fA loose od rows){i j:Nat}{x y:Int}(hi:od[i]?=some x)(hj:od[j]?=some y)(hl:i + 1 < od.length)(hij:loose=true→i < j):fA loose od (rows++[(x,y)]):=by
  have bx:=h.bd hi
  have by_:=h.bd hj
  refine ⟨h.pm,h.l2,h.first,h.last,h.good.more bx.1 bx.2 (h.ne1 hi hl) by_.1 by_.2,fun e t ht=>?_⟩
  rcases List.mem_append.mp ht with z | z
  · exact h.up e t z
  · rw [List.mem_singleton.mp z];exact ⟨i,j,hi,hj,hij e⟩
theorem fA.split {loose:Bool}{od:List Int}{rows:List (Int×Int)}(h:fA loose od rows){r q:Nat}{x y:Int}(hr:rows[r]?=some (x,y))(q0:1≤q)(q1:q + 1≤od.length)(hq:loose=true→∃(i j:Nat),od[i]?=some x∧od[j]?=some y∧i < q∧q≤j):
    fA loose (cc q (od.length:Int) od) (rows.set r (x,(od.length:Int))++[((od.length:Int),y)]):=by
  have ln:(cc q (od.length:Int) od).length=od.length + 1:=by rw [iW.length_eq];rfl
  have l2:=h.l2
  have sh:∀{i:Nat} {z:Int},od[i]?=some z→(cc q (od.length:Int) od)[if i < q then i else i + 1]?=some z:=fun {i z} hi=>by
    split
    · rename_i hl;rw [nt hl (by omega)];exact hi
    · rename_i hl;rw [oz (by omega) (by omega)];exact hi
  refine ⟨by rw [ln];exact h.pm.ins q,by omega,by rw [nt (by omega) (by omega)];exact h.first,?_,by rw [ln];exact h.good.split hr,fun e t ht=>?_⟩
  · rw [ln,show od.length + 1 - 1=(od.length - 1) + 1 by omega,oz (by omega) (by omega)];exact h.last
  · obtain ⟨i,j,hi,hj,iq,qj⟩:=hq e
    rcases List.mem_append.mp ht with z | z
    · rcases List.mem_or_eq_of_mem_set z with z | z
      · obtain ⟨i',j',a,b,c⟩:=h.up e t z
        exact ⟨_,_,sh a,sh b,by split<;>split<;>omega⟩
      · rw [z];exact ⟨_,q,sh hi,n4 (by omega),by rw [if_pos iq];exact iq⟩
    · rw [List.mem_singleton.mp z]
      exact ⟨q,_,n4 (by omega),sh hj,by rw [if_neg (by omega)];omega⟩
structure jb (loose:Bool) (m:Nat) (size:Int) (ties:List (Int×Int)):Prop where
  good:eF size ties
  le:size≤16
  len:ties.length=m + 1
  up:loose=true→∃rk:Int→Int,∀t∈ties,rk t.1 < rk t.2
noncomputable def fX (names:List Int)(k:Int):Int:=names.getD k.toNat 0
theorem fA.fin {loose:Bool}{od:List Int}{rows:List (Int×Int)}(h:fA loose od rows){xs:List Int}(hx:iJ (od.length - 2) xs)(h16:od.length≤16){m:Nat}(hm:rows.length=m + 1):jb loose m od.length (rows.map fun (t:Int×Int)=>(fX ([0,1]++xs.map (2 + ·)) t.1,fX ([0,1]++xs.map (2 + ·)) t.2)):=by
  have l2:=h.l2
  have hl:=hx.len
  have n0:fX ([0,1]++xs.map (2 + ·)) 0=0:=rfl
  have n1:fX ([0,1]++xs.map (2 + ·)) 1=1:=rfl
  have n2:∀k:Nat,k < xs.length→fX ([0,1]++xs.map (2 + ·)) ((k:Int) + 2)=2 + xs.getD k 0:=fun k hk=>by
    unfold fX
    rw [show ((k:Int) + 2).toNat=k + 2 by omega]
    show ((xs.map (2 + ·)).getD k 0)=_
    rw [List.getD_eq_getElem?_getD,List.getD_eq_getElem?_getD,List.getElem?_map,List.getElem?_eq_getElem hk];rfl
  have xb:∀k:Nat,k < xs.length→0≤xs.getD k 0∧xs.getD k 0 < ((od.length - 2:Nat):Int):=fun k hk=>(hx.mem _).mp (by rw [List.getD_eq_getElem?_getD,List.getElem?_eq_getElem hk];exact List.getElem_mem _)
  have cs:∀k:Int,0≤k→k < (od.length:Int)→k=0∨k=1∨∃j:Nat,j < xs.length∧k=(j:Int) + 2:=fun k k0 k1=>by
    rcases (show k=0∨k=1∨2≤k by omega) with z | z | z
    · exact .inl z
    · exact .inr (.inl z)
    · exact .inr (.inr ⟨(k - 2).toNat,by omega,by omega⟩)
  have inj:∀k j:Int,0≤k→k < (od.length:Int)→0≤j→j < (od.length:Int)→fX ([0,1]++xs.map (2 + ·)) k=fX ([0,1]++xs.map (2 + ·)) j→k=j:=by
    intro k j k0 k1 j0 j1 e
    rcases cs k k0 k1 with rfl | rfl | ⟨a,ha,rfl⟩<;>rcases cs j j0 j1 with rfl | rfl | ⟨b,hb,rfl⟩<;>simp only [n0,n1] at e<;>try rfl
    · exact absurd e (by decide)
    · rw [n2 b hb] at e;have:=xb b hb;omega
    · exact absurd e (by decide)
    · rw [n2 b hb] at e;have:=xb b hb;omega
    · rw [n2 a ha] at e;have:=xb a ha;omega
    · rw [n2 a ha] at e;have:=xb a ha;omega
    · rw [n2 a ha,n2 b hb] at e
      have e:xs.getD a 0=xs.getD b 0:=by omega
      rw [List.getD_eq_getElem?_getD,List.getD_eq_getElem?_getD,List.getElem?_eq_getElem ha,List.getElem?_eq_getElem hb] at e
      have:=(List.getElem_inj (h₀:=ha) (h₁:=hb) hx.nd).mp e
      omega
  refine ⟨h.good.ren (fun k k0 k1=>?_) (fun k k0 k1=>?_) n0 n1 (fun k k0 k1 e=>inj k 1 k0 k1 (by omega) (by omega) (by rw [e,n1])),by omega,by rw [List.length_map];exact hm,fun e=>?_⟩
  · rcases cs k k0 k1 with rfl | rfl | ⟨a,ha,rfl⟩
    · rw [n0];omega
    · rw [n1];omega
    · rw [n2 a ha];have:=xb a ha;omega
  · rcases cs k k0 k1 with rfl | rfl | ⟨a,ha,rfl⟩
    · exact ⟨0,by omega,by omega,n0⟩
    · exact ⟨1,by omega,by omega,n1⟩
    · have:(a:Int)∈xs:=(hx.mem _).mpr (by omega)
      obtain ⟨j,hj,e⟩:=List.mem_iff_getElem.mp this
      refine ⟨(j:Int) + 2,by omega,by omega,?_⟩
      rw [n2 j hj,List.getD_eq_getElem?_getD,List.getElem?_eq_getElem hj]
      show 2 + xs[j]=_
      omega
  · classical
    -- the rank of a name:where the place stands in the order
    let g:=fX ([0,1]++xs.map (2 + ·))
    refine ⟨fun z=>if hz:∃k:Int,0≤k∧k < (od.length:Int)∧g k=z then ((od.idxOf hz.choose:Nat):Int) else 0,fun t ht=>?_⟩
    obtain ⟨u,hu,rfl⟩:=List.mem_map.mp ht
    have b:=h.good.bd u hu
    obtain ⟨i,j,hi,hj,hij⟩:=h.up e u hu
    have rk:∀k:Int,0≤k→k < (od.length:Int)→∀n:Nat,od[n]?=some k→(if hz:∃k':Int,0≤k'∧k' < (od.length:Int)∧g k'=g k then ((od.idxOf hz.choose:Nat):Int) else 0)=n:=by
      intro k k0 k1 n hn
      have hz:∃k':Int,0≤k'∧k' < (od.length:Int)∧g k'=g k:=⟨k,k0,k1,rfl⟩
      rw [dif_pos hz]
      have hc:=hz.choose_spec
      have:hz.choose=k:=inj _ _ hc.1 hc.2.1 k0 k1 hc.2.2
      rw [this]
      have nl:=(List.getElem?_eq_some_iff.mp hn)
      have:=List.Nodup.idxOf_getElem h.pm.nd n nl.1
      rw [nl.2] at this
      rw [this]
    show (if hz:_ then _ else _) < (if hz:_ then _ else _)
    rw [rk u.1 b.1 b.2.1 i hi,rk u.2 b.2.2.2.1 b.2.2.2.2 j hj]
    omega
section
variable {P:Program}{w:World}{K:PySem.W.Frag}{mg:Str→Option Value}{base:Heap}{f:Addr}{fd:FuncData}
noncomputable abbrev js:Stmt:=top oD
noncomputable abbrev tE:List Str:=["_law_purse_here","_law_many","_law_loose","_law_order_here","_law_rows","_law_k","_law_size","_law_at","_law_one","_law_other","_law_low","_law_names"]
theorem yI:ax tE ["_law_purse_here","_law_many","_law_loose"] (ah js):=⟨rfl,rfl,rfl,by decide +kernel,rfl,by decide +kernel,by decide +kernel⟩
noncomputable def Dj:gZ Pu:=fun K s ps T=>∃(n:Int) (m:Nat) (loose:Bool),cB n s∧n≤10000∧ps=[⟨ae,(m:Int)⟩,⟨aO,loose⟩]∧m≤30∧T=fun s'=>bC K (ay ae (ag (fz ae))) fun z=>cB (n + 200) s'∧jb loose m z.1 z.2
theorem By (M:bU mg)(CD:az P w K mg base "_law_draw" 1 (dy a9 jP K))(CO:az P w K mg base "_law_order" 2 (dy a9 wj K))(F:bh K "_law_part" "_law_part" js f fd)(hm:mg "_law_part"=some (.ref f))(hb:Binds K fd ["_law_purse_here","_law_many","_law_loose"] []):az P w K mg base "_law_part" 3 (dy a9 Dj K):=by
  have nd:=yI.nd
  have nd1:List.Nodup [("_law_place":Str)]:=by decide
  have nd2:List.Nodup [("_law_one":Str),"_law_other","_law_names"]:=by decide
  have CD:=CD.mono (show 1≤2 by decide)
  refine gN F yI hm hb (fun xs qs T ⟨_,_,_,_,_,e,_⟩=>by rw [e];rfl) (fun cdv A outer s H E a b st qs T hr hS=>?_)
  obtain ⟨n,m,loose,hP,n1,rfl,hm,rfl⟩:=hS
  have hu:(A.deeper (envOfC "_law_part" (ah js) s.heap.objs.size f cdv)).units + 1 < cLine:=Nat.lt_of_le_of_lt (Nat.add_le_add_left (by decide:1≤64) _) hr.units
  have n0:0≤n:=Int.le_trans hP.t0 hP.t1
  change WS _ _ [.ob (a9.bx a b st),.im ae (m:Int),.im aO loose,.no,.no,.no,.no,.no,.no,.no,.no,.no] _ _
  refine aj (de 3 (r:=ae) (aB (av ak (av ak aF)) (by show 2≤sizeLine;decide)) ?_)
  refine aj (de 4 (r:=fz ae) (aB (av (EV.two (aC.im (aB (av ak (av ak aF)) (by show 2≤sizeLine;decide)))) aF) (by show 1≤sizeLine;decide)) ?_)
  refine aj (du (r:=ae) (fun i Γ=>∃st od rows v5 v6 v7 v8 v9 v10,Γ=[.ob (a9.bx a b st),.im ae (m:Int),.im aO loose,.mu ae od,.mu (fz ae) rows,v5,v6,v7,v8,v9,v10,.no]∧cB (n + 4 * i) st∧fA loose od rows∧rows.length=i + 1∧od.length≤16)
    (d8 M.range (aa 1 rfl) ⟨by omega,by omega⟩) (aM 5) ⟨st,[0,1],[(0,1)],_,_,_,_,_,_,rfl,hP.mono (by omega),fA.base loose,rfl,by decide⟩ ?_ ?_)
  · rintro i x Γ hx ⟨st,od,rows,v5,v6,v7,v8,v9,v10,rfl,hP,hO,hlen,h16⟩
    obtain ⟨hi,rfl⟩:=ie hx
    have l2:=hO.l2
    have zz:∀{k:Nat},k≤1000→k < sizeLine:=fun h=>Nat.lt_of_le_of_lt h (by decide)
    refine aj (aK 6 (dU 3 M.len rfl) ?_)
    have more:∀(st1:Pu),cB (n + 4 * i + 1) st1→WS (bF df P w K mg base tE "_law_part" (ah js) f cdv A outer s H E).bR
        (match (bo js).getD 2 (.Pass ⟨0,0,0,0⟩) with | .For _ _ body _ _=>(match body.getD 1 (.Pass ⟨0,0,0,0⟩) with | .If _ _ els _=>els | _=>[]) | _=>[])
        [.ob (a9.bx a b st1),.im ae (m:Int),.im aO loose,.mu ae od,.mu (fz ae) rows,.im ae (0 + (i:Int)),.im ae (od.length:Int),v7,v8,v9,v10,.no]
        (fun Γ=>∃st od rows v5 v6 v7 v8 v9 v10,Γ=[.ob (a9.bx a b st),.im ae (m:Int),.im aO loose,.mu ae od,.mu (fz ae) rows,v5,v6,v7,v8,v9,v10,.no]∧cB (n + 4 * ((i + 1:Nat):Int)) st∧fA loose od rows∧rows.length=i + 1 + 1∧od.length≤16)
        (we K a9 a b fun s'=>bC K (ay ae (ag (fz ae))) fun z=>cB (n + 200) s'∧jb loose m z.1 z.2):=by
      intro st1 hP1
      have gt:∀{k:Int},0≤k→k < (od.length:Int)→∃y,od[k.toNat]?=some y:=fun k0 k1=>⟨_,List.getElem?_eq_getElem (by omega)⟩
      refine ar (bu (aZ (aa 2 rfl)) (fun hl=>?_) (fun hl=>?_))
      · obtain ⟨c,st2,c0,c1,hP2,hS2⟩:=bD hP1 (by omega) (b:=(od.length:Int) - 1) (by omega) (by omega)
        refine aj (aK 10 (aY 0 CD hr (af (cK (aa 6 rfl) ak) ao) rfl rfl (hS2 _)) ?_)
        obtain ⟨d,st3,d0,d1,hP3,hS3⟩:=bD hP2 (by omega) (b:=(od.length:Int) - 1 - c) (by omega) (by omega)
        obtain ⟨y1,h1⟩:=gt c0 (by omega)
        obtain ⟨y2,h2⟩:=gt (k:=c + 1 + d) (by omega) (by omega)
        refine ar (eA 4 (EV.two (aC.im (aB (av (eQ 3 (y:=y1) (aa 10 rfl) rfl rfl (by rw [eO c0 (by omega)];exact h1)) (av (eQ 3 (y:=y2) (bZ (bZ (aa 10 rfl) ak) (aY 0 CD hr (af (cK (cK (aa 6 rfl) ak) (aa 10 rfl)) ao) rfl rfl (hS3 _))) rfl rfl (by rw [eO (by omega) (by omega)];exact h2)) aF)) (by show 2≤sizeLine;decide)))) rfl rfl (zz (by omega)) ?_)
        exact ⟨st3,_,_,_,_,_,_,_,_,rfl,hP3.mono (by omega),hO.more h1 h2 (by omega) (fun _=>by omega),by rw [List.length_append];simp;omega,h16⟩
      · obtain ⟨c,st2,c0,c1,hP2,hS2⟩:=bD hP1 (by omega) (b:=(od.length:Int) - 1) (by omega) (by omega)
        obtain ⟨d,st3,d0,d1,hP3,hS3⟩:=bD hP2 (by omega) (b:=(od.length:Int)) (by omega) (by omega)
        obtain ⟨y1,h1⟩:=gt c0 (by omega)
        obtain ⟨y2,h2⟩:=gt d0 d1
        refine ar (eA 4 (EV.two (aC.im (aB (av (eQ 3 (y:=y1) (aY 0 CD hr (af (cK (aa 6 rfl) ak) ao) rfl rfl (hS2 _)) rfl rfl (by rw [eO c0 (by omega)];exact h1)) (av (eQ 3 (y:=y2) (aY 0 CD hr (af (aa 6 rfl) ao) rfl rfl (hS3 _)) rfl rfl (by rw [eO d0 (by omega)];exact h2)) aF)) (by show 2≤sizeLine;decide)))) rfl rfl (zz (by omega)) ?_)
        exact ⟨st3,_,_,_,_,_,_,_,_,rfl,hP3.mono (by omega),hO.more h1 h2 (by omega) (fun e=>by rw [hl] at e;cases e),by rw [List.length_append];simp;omega,h16⟩
    by_cases hsz:od.length < 16
    · obtain ⟨c,st1,c0,c1,hP1,hS1⟩:=bD hP (by omega) (b:=2) (by decide) (by decide)
      refine ar (bu (TW.tv (xc (TV.cast (aI dH (aa 6 rfl) ak) (decide_eq_true (by omega))) (uh (aI bT (aY 0 CD hr (af ak ao) rfl rfl (hS1 _)) ak)))) (fun h=>?_) (fun h=>more st1 hP1))
      obtain ⟨k,st2,k0,k1,hP2,hS2⟩:=bD hP1 (by omega) (b:=(rows.length:Int)) (by omega) (by omega)
      refine aj (aK 7 (aY 0 CD hr (af (dU 4 M.len rfl) ao) rfl rfl (hS2 _)) ?_)
      obtain ⟨t,ht⟩:∃t,rows[k.toNat]?=some t:=⟨_,List.getElem?_eq_getElem (by omega)⟩
      have at1:cA rows k=some t:=by rw [eO k0 (by omega),ht]
      refine aj (AZ (eQ 4 (aa 7 rfl) rfl rfl at1) (lM 8 9) ?_)
      -- what comes of either
      have fin:∀(st3:Pu) (q:Nat) v10',cB (n + 4 * i + 3) st3→1≤q→q + 1≤od.length→(loose=true→∃(i j:Nat),od[i]?=some t.1∧od[j]?=some t.2∧i < q∧q≤j)→WS (bF df P w K mg base tE "_law_part" (ah js) f cdv A outer s H E).bR
          (match (bo js).getD 2 (.Pass ⟨0,0,0,0⟩) with | .For _ _ body _ _=>(match body.getD 1 (.Pass ⟨0,0,0,0⟩) with | .If _ yes _ _=>yes.drop 3 | _=>[]) | _=>[])
          [.ob (a9.bx a b st3),.im ae (m:Int),.im aO loose,.mu ae (cc q (od.length:Int) od),.mu (fz ae) rows,.im ae (0 + (i:Int)),.im ae (od.length:Int),.im ae k,.im ae t.1,.im ae t.2,v10',.no]
          (fun Γ=>∃st od rows v5 v6 v7 v8 v9 v10,Γ=[.ob (a9.bx a b st),.im ae (m:Int),.im aO loose,.mu ae od,.mu (fz ae) rows,v5,v6,v7,v8,v9,v10,.no]∧cB (n + 4 * ((i + 1:Nat):Int)) st∧fA loose od rows∧rows.length=i + 1 + 1∧od.length≤16)
          (we K a9 a b fun s'=>bC K (ay ae (ag (fz ae))) fun z=>cB (n + 200) s'∧jb loose m z.1 z.2):=by
        intro st3 q v10' hP3 q0 q1 hq
        refine aj (lK 4 (j:=k.toNat) (y:=(t.1,(od.length:Int))) (EV.two (aC.im (aB (av (aa 8 rfl) (av (aa 6 rfl) aF)) (by show 2≤sizeLine;decide)))) (aa 7 rfl) rfl rfl (fi k0 (by omega)) ?_)
        refine ar (eA 4 (y:=((od.length:Int),t.2)) (EV.two (aC.im (aB (av (aa 6 rfl) (av (aa 9 rfl) aF)) (by show 2≤sizeLine;decide)))) rfl rfl (zz (by rw [List.length_set];omega)) ?_)
        exact ⟨st3,_,_,_,_,_,_,_,_,rfl,hP3.mono (by omega),hO.split (show rows[k.toNat]?=some (t.1,t.2) from ht) q0 q1 hq,by rw [List.length_append,List.length_set];simp;omega,by rw [iW.length_eq];simp;omega⟩
      refine aj (bu (aZ (aa 2 rfl)) (fun hl=>?_) (fun hl=>?_))
      · obtain ⟨i1,j1,a1,a2,a3⟩:=hO.up hl t (List.mem_of_getElem? ht)
        have no:∀{i1:Nat} {z:Int},od[i1]?=some z→∀m',m' < i1→od[m']?≠some z:=fun {i1 z} hz m' hm' e=>by
          have q1:=List.getElem?_eq_some_iff.mp hz
          have q2:=List.getElem?_eq_some_iff.mp e
          have:=(List.getElem_inj (h₀:=q2.1) (h₁:=q1.1) hO.pm.nd).mp (q2.2.trans q1.2.symm)
          omega
        have jl:=(List.getElem?_eq_some_iff.mp a2).1
        refine aj (aK 10 (oM 3 hu (aa 8 rfl) rfl rfl a1 (no a1)) ?_)
        obtain ⟨d,st3,d0,d1,hP3,hS3⟩:=bD hP2 (by omega) (b:=(j1:Int) - (i1:Int)) (by omega) (by omega)
        refine ar (mP 3 (k:=(i1:Int) + 1 + d) (bZ (bZ (aa 10 rfl) ak) (aY 0 CD hr (af (cK (oM 3 hu (aa 9 rfl) rfl rfl a2 (no a2)) (aa 10 rfl)) ao) rfl rfl (hS3 _))) (aa 6 rfl) rfl rfl (by omega) (by omega) (zz (by omega)) ?_)
        exact fin st3 _ _ (hP3.mono (by omega)) (by omega) (by omega) (fun _=>⟨i1,j1,a1,a2,by omega,by omega⟩)
      · obtain ⟨d,st3,d0,d1,hP3,hS3⟩:=bD hP2 (by omega) (b:=(od.length:Int) - 1) (by omega) (by omega)
        refine ar (mP 3 (k:=1 + d) (bZ ak (aY 0 CD hr (af (cK (aa 6 rfl) ak) ao) rfl rfl (hS3 _))) (aa 6 rfl) rfl rfl (by omega) (by omega) (zz (by omega)) ?_)
        exact fin st3 _ _ (hP3.mono (by omega)) (by omega) (by omega) (fun e=>by rw [hl] at e;cases e)
    · refine ar (bu (TW.tv (gB (y:=false) (aI dH (aa 6 rfl) ak) (fun h=>absurd (of_decide_eq_true h) (by omega)))) (fun h=>by simp at h) (fun h=>more st (hP.mono (by omega))))
  · rintro Γ ⟨st,od,rows,v5,v6,v7,v8,v9,v10,rfl,hP,hO,hlen,h16⟩
    rw [aN,show ((m:Int)).toNat=m by omega] at hP hlen
    have l2:=hO.l2
    obtain ⟨xs,st1,hP1,hX,hS⟩:=pL hP (by omega) (by omega) (m:=od.length - 2) (by omega)
    have xl:=hX.len
    have ec:((od.length - 2:Nat):Int)=(od.length:Int) - 2:=by omega
    have hid:((xs.filter fun _=>true).map fun k=>2 + k)=xs.map (2 + ·):=by rw [List.filter_eq_self.mpr (by simp)]
    refine aj (aK 11 (EV.cast (y':=[0,1]++xs.map (2 + ·)) (aC.im (cn (aC.im (aB (av ak (av ak aF)) (by show 2≤sizeLine;decide))) (aC.im (bj (own:=["_law_place"]) (fr:=[]) (ix:=[]) (ra:=ae) (rb:=ae) (p:=fun _=>true) (f:=fun k=>2 + k) (bc (so:=ah js) (N0:=tE) rfl rfl (fun x h=>aV h) (by decide +kernel)) (ba (aY 0 CO hr (af (EV.cast (cK (dU 3 M.len rfl) ak) ec.symm) ao) rfl rfl (hS _)))
      (fun C s H ex=>aM 0) (fun x=>⟨.inr rfl,trivial⟩) (fun C s H ex x hx=>bP) (fun C s H ex x hx _=>bZ ak (aa 0 rfl)))) (aP (by rw [List.length_map,List.filter_eq_self.mpr (by simp)];show 2 + _≤_;omega)))) (by rw [hid])) ?_)
    have hnl:(([0,1]++xs.map (2 + ·)).length:Int)=od.length:=by rw [List.length_append,List.length_map];show ((2 + xs.length:Nat):Int)=_;omega
    have hfin:=hO.fin hX h16 hlen
    have hid2:((rows.filter fun _=>true).map fun (t:Int×Int)=>(fX ([0,1]++xs.map (2 + ·)) t.1,fX ([0,1]++xs.map (2 + ·)) t.2))=rows.map fun (t:Int×Int)=>(fX ([0,1]++xs.map (2 + ·)) t.1,fX ([0,1]++xs.map (2 + ·)) t.2):=by rw [List.filter_eq_self.mpr (by simp)]
    have hbd:=hO.good.bd
    generalize [0,1]++xs.map (2 + ·)=names at hnl hfin hid2
    refine ar (dP 0 (B:=a9) (y:=((od.length:Int),rows.map fun (t:Int×Int)=>(fX names t.1,fX names t.2))) (cQ (af (dU 3 M.len rfl) (af (EV.cast (aC.im (bj (own:=["_law_one","_law_other"]) (fr:=["_law_names"]) (ix:=[11]) (ra:=fz ae) (rb:=fz ae) (p:=fun _=>true) (f:=fun (t:Int×Int)=>(fX names t.1,fX names t.2)) (bc (so:=ah js) (N0:=tE) rfl rfl (fun x h=>aV h) (by decide +kernel)) (ba (dN 4 rfl (aP (by omega))))
      (fun C s H ex=>lM 0 1) (fun x=>⟨.inr rfl,.inr rfl,.inl rfl,trivial⟩) (fun C s H ex x hx=>bP) (fun C s H ex x hx _=>EV.two (aC.im (aB (av (bB (aa 2 rfl) (aa 0 rfl) (cD (hbd x hx).1 (by rw [hnl];exact (hbd x hx).2.1))) (av (bB (aa 2 rfl) (aa 1 rfl) (cD (hbd x hx).2.2.2.1 (by rw [hnl];exact (hbd x hx).2.2.2.2))) aF)) (by show 2≤sizeLine;decide)))))) hid2) ao))) rfl ⟨hP1.mono (by omega),hfin⟩)
end
end K1
namespace Fc
open PySem PySem.Spec L2
open PyProof.Rows hiding St
noncomputable def BY:Ent→Prop
  | .no=>True
  | .im _ _=>True
  | _=>False
noncomputable def iN:Ga→Prop
  | []=>True
  | e::r=>BY e∧iN r
theorem iN.fp:∀{Γ:Ga},iN Γ→∀(i:Nat) (e:Ent),Γ[i]?=some e→∀o,e.fp o=[]
  | e::_,⟨h,_⟩,0,_,q,o=>by
    cases q
    cases e with
    | no=>rfl
    | im _ _=>rfl
    | mu _ _=>exact h.elim
    | di _=>exact h.elim
    | ob _=>exact h.elim
  | _::r,⟨_,h⟩,i + 1,e,q,o=>iN.fp h i e (by simpa using q) o
  | [],_,i,e,q,o=>by simp at q
theorem aq.rebase {K:PySem.W.Frag}{σ:St}{H0 R0 H R:Hp}{Γ:Ga}(E:aq K σ H0 R0 H R Γ)(fl:iN Γ):aq K σ H R H R Γ:=
  ⟨⟨au.refl _,au.refl _,E.sub,fun _ _=>rfl⟩,E.ent,(fun i e a q w=>by rw [fl.fp i e q] at w;cases w),(fun i j e e' a q q' w w'=>by rw [fl.fp i e q] at w;cases w),E.len⟩
noncomputable def nH (r:Row):List Int:=[r.1,r.2.1,r.2.2.1,r.2.2.2]
section
variable {X:Cx}{Γ Γ1 Γ2 Γ3:Ga}{α β γ δ:Type}{N:Ga→Prop}{T:RT}
theorem bY.uJ {H H':Hp}{as:List Addr}{rs:List Row}(h:bY H as rs)(s:au H H'):bY H' as rs:=⟨h.1,fun i b r h1 h2=>s _ _ (h.2 i b r h1 h2)⟩
theorem bY.snoc {H:Hp}{as:List Addr}{rs:List Row}(h:bY H as rs){b:Addr}{r:Row}(hb:H b=some (.lst (iQ r))):bY H (as++[b]) (rs++[r]):=by
  refine ⟨by rw [List.length_append,List.length_append,h.1];rfl,fun i c q h1 h2=>?_⟩
  rcases Nat.lt_or_ge i as.length with hl | hl
  · rw [List.getElem?_append_left hl] at h1
    rw [List.getElem?_append_left (by rw [← h.1];exact hl)] at h2
    exact h.2 i c q h1 h2
  · rw [List.getElem?_append_right hl] at h1
    rw [List.getElem?_append_right (by rw [← h.1];exact hl)] at h2
    have e:i - as.length=0:=by
      have:=(List.getElem?_eq_some_iff.mp h1).1
      simp at this;omega
    rw [e] at h1
    rw [← h.1,e] at h2
    simp at h1 h2
    rw [← h1,← h2];exact hb
theorem bY.app {H:Hp}{as:List Addr}{rs:List Row}(h:bY H as rs):∀{bs:List Addr} {qs:List Row},bY H bs qs→bY H (as++bs) (rs++qs):=by
  intro bs qs g
  refine ⟨by rw [List.length_append,List.length_append,h.1,g.1],fun i c q h1 h2=>?_⟩
  rcases Nat.lt_or_ge i as.length with hl | hl
  · rw [List.getElem?_append_left hl] at h1
    rw [List.getElem?_append_left (by rw [← h.1];exact hl)] at h2
    exact h.2 i c q h1 h2
  · rw [List.getElem?_append_right hl] at h1
    rw [List.getElem?_append_right (by rw [← h.1];exact hl),← h.1] at h2
    exact g.2 _ c q h1 h2
theorem qD {tg elt:Expr}{scope:Scope}{cl:List (Str×Addr)}{own fr:List Str}{ix:List Nat}{ra:Rep α}{xs:List α}{f:α→Row}{bf:α→Ga→Ga}{J:It}{σ:St}{H0 R0 H1 R1:Hp}{Q:VK}(E1:aq X.K σ H0 R0 H1 R1 Γ1)(src:Src X.K J R1 ra xs)(hz:xs.length≤sizeLine)
    (hb:∀(C:Addr) (s:Shared) (H:Hp) (ex:List Addr),BG (aG X scope cl C (own++fr) s H ex) tg ra bf) (hw:∀x,Wk (bf x (bQ own ix Γ1)) (bQ own ix Γ1)) (hfl:∀x,iN (bf x (bQ own ix Γ1)))
    (he:∀(C:Addr) (s:Shared) (H:Hp) (ex:List Addr) x,x∈xs→aC (aG X scope cl C (own++fr) s H ex) elt (bf x (bQ own ix Γ1)) ae (nH (f x)) (bf x (bQ own ix Γ1)))
    (q:∀a bs H' R',Ext H1 R1 H' R'→H' a=none→bY H' bs (xs.map f)→bs.Nodup→(∀b∈bs,H1 b=none∧R' b=none)→Q (.ref a) (upd H' a (.lst (bs.map .ref)))):
    ∃ W :Nat→Nat→List V→St→Hp→Prop,(∃m,W 0 m [] (eJ own ix σ) H1)∧∀i m ys σ' H',W i m ys σ' H'→
      ys.length≤sizeLine∧((J.stop i H'∧∀p,H' p=none→Q (.ref p) (upd H' p (.lst ys)))∨
      (J.go i H'∧∀x H2,J.yld i H' x H2→(fun v σ H Q=>∀C s Hh ex,gU (aG X scope cl C (own++fr) s Hh ex) tg v σ H Q:TG) x σ' H2 fun σ2 H3=>(fun σ H Q=>∀C s Hh ex,ic (aG X scope cl C (own++fr) s Hh ex) [] σ H Q:TT) σ2 H3 fun b H4=>
        if b=true then (fun σ H Q=>∀C s Hh ex,dG (aG X scope cl C (own++fr) s Hh ex) elt σ H Q:TE) σ2 H4 fun v H5=>∃m',m' < m∧W (i + 1) m' (ys++[v]) σ2 H5 else∃m',m' < m∧W (i + 1) m' ys σ2 H4)):=by
  refine ⟨fun i m ys σ' H'=>m=xs.length - i∧i≤xs.length∧∃R' bs,aq X.K σ' H1 R1 H' R' (bQ own ix Γ1)∧ys=bs.map .ref∧bY H' bs ((xs.take i).map f)∧bs.Nodup∧∀b∈bs,H1 b=none∧R' b=none,⟨_,rfl,Nat.zero_le _,R1,[],jZ E1 own ix,rfl,⟨rfl,fun i b r h1=>by simp at h1⟩,List.nodup_nil,fun b hb=>by cases hb⟩,?_⟩
  rintro i m ys σ' H' ⟨rfl,hle,R',bs,E',rfl,hrs,hnd,hbs⟩
  have hbl:bs.length=i:=by rw [hrs.1,List.length_map,List.length_take];omega
  have hys:(bs.map V.ref).length≤sizeLine:=by rw [List.length_map,hbl];omega
  obtain ⟨sgo,sstop⟩:=src H' R' E'.ext.r E'.sub i
  refine ⟨hys,?_⟩
  by_cases hlt:i < xs.length
  · obtain ⟨go,yl⟩:=sgo _ (List.getElem?_eq_getElem hlt)
    have hmem:xs[i]∈xs:=List.getElem_mem hlt
    have tk:(xs.take (i + 1))=xs.take i++[xs[i]]:=by rw [List.take_succ,List.getElem?_eq_getElem hlt];rfl
    refine .inr ⟨go,fun v H2 hy C s Hh ex=>?_⟩
    obtain ⟨R2,x2,hr⟩:=yl v H2 hy
    refine hb C s Hh ex σ' H1 R1 H2 R2 _ v _ (E'.grow x2) hr _ fun σ2 E2=>?_
    intro C s Hh ex
    refine (bP (X:=aG X scope cl C (own++fr) s Hh ex)) σ2 H2 R2 H2 R2 (E2.rebase (hfl _)) _ fun H4 R4 E4 s4=>?_
    rw [if_pos rfl]
    intro C s Hh ex
    refine he C s Hh ex _ hmem σ2 H4 R4 H4 R4 (E4.rebase (hfl _)) _ fun a vs H5 R5 E5 s5 ha hR h0 off pp hz'=>?_
    have hv:=dW pp
    subst hv
    have x5:Ext H' R' H5 R5:=x2.trans (E4.ext.trans E5.ext)
    have x25:Ext H2 R2 H5 R5:=E4.ext.trans E5.ext
    have hin:∀b∈bs,H' b≠none:=fun b hb=>by
      obtain ⟨r,hr⟩:=hrs.row hb
      rw [hr];exact Option.some_ne_none _
    have hold:∀b∈bs,b≠a:=fun b hb e=>by
      have:H4 b≠none:=au.some (x2.h.trans E4.ext.h) (hin b hb)
      exact this (e▸h0)
    refine ⟨xs.length - (i + 1),by omega,rfl,hlt,R5,bs++[a],(E2.grow x25).weak (hw _),by rw [List.map_append];rfl,?_,?_,fun b hb=>?_⟩
    · rw [tk,List.map_append]
      exact (hrs.uJ x5.h).snoc ha
    · exact ik hnd fun z=>hold a z rfl
    · rcases List.mem_append.mp hb with z | z
      · exact ⟨(hbs b z).1,(x5.old b (hin b z)).trans (hbs b z).2⟩
      · rw [List.mem_singleton.mp z]
        exact ⟨(E'.ext.h.trans (x2.h.trans E4.ext.h)).free h0,hR⟩
  · have e:i=xs.length:=by omega
    subst e
    rw [List.take_length] at hrs
    exact .inl ⟨sstop (Nat.le_refl _),fun a ha=>q a bs H' R' E'.ext ha hrs hnd hbs⟩
theorem rz (i:Nat){y:Str}{py p1 bp spos:Pos}{tg elt iter:Expr}{scope:Scope}{pos:Pos}{cl:List (Str×Addr)}{own fr:List Str}{ix:List Nat}{ra:Rep α}{xs:List α}{f:α→Row}{bf:α→Ga→Ga}{a:Addr}{as:List Addr}{rs:List Row}
    (S:cO X scope cl own fr ix) (hit:IV X tg iter Γ ra xs Γ)
    (hb:∀(C:Addr) (s:Shared) (H:Hp) (ex:List Addr),BG (aG X scope cl C (own++fr) s H ex) tg ra bf) (hw:∀x,Wk (bf x (bQ own ix Γ)) (bQ own ix Γ)) (hfl:∀x,iN (bf x (bQ own ix Γ)))
    (he:∀(C:Addr) (s:Shared) (H:Hp) (ex:List Addr) x,x∈xs→aC (aG X scope cl C (own++fr) s H ex) elt (bf x (bQ own ix Γ)) ae (nH (f x)) (bf x (bQ own ix Γ)))
    (hΓ:Γ[i]?=some (.ob (bN a as rs))) (hz:rs.length + xs.length≤sizeLine) (h:∀d bs,N (Γ.set i (.ob (bN d (as++bs) (rs++xs.map f)))))
    (hN:autoParam (X.N.Nodup) Fc.dY) (hi':X.N[i]?=some y:=by rfl) (hx:autoParam (Loc X.env.scope y) Fc.dA) (hv:autoParam (ck X.env.scope y) Fc.bO) (hd:autoParam ((y==("__debug__":Str))=false) Fc.aw) (hcd:autoParam ((y==("__classdict__":Str))=false) Fc.aw)
    (hsw:autoParam (swapsWith (.BinOp (.Name y p1) .Add (.ListComp elt [⟨tg,iter,[],0⟩] scope pos) bp) (some (.Name y py)) spos.line X.env=pure false) Fc.ai)
    (hc:autoParam (X.calm=true) Fc.ai) (hs:autoParam (∀x,foldedSetIterable iter X.env x=pure x) Fc.cZ) (hf:autoParam (X.fn y=true∨X.env.scope.names.lookup y=some .local) Fc.fZ):
    W1 X (.Assign [.Name y py] (.BinOp (.Name y p1) .Add (.ListComp elt [⟨tg,iter,[],0⟩] scope pos) bp) spos) Γ N T:=fun σ H0 R0 H R E D dn dr=>by
  obtain ⟨wi,hi,hit⟩:=hit
  obtain ⟨⟨v,ea,rfl,ha,hr,nd⟩,hR⟩:=E.ent i _ hΓ
  refine sS (fv hN hi' hx (mQ tM (br hi' hv hd hcd) (pR (g:=fun v σ H Q=>∀C s Hh ex,gU (aG X scope cl C (own++fr) s Hh ex) tg v σ H Q) (tc:=fun σ H Q=>∀C s Hh ex,ic (aG X scope cl C (own++fr) s Hh ex) [] σ H Q) (te:=fun σ H Q=>∀C s Hh ex,dG (aG X scope cl C (own++fr) s Hh ex) elt σ H Q) hc S hi
    (fun C s H ex=>⟨fun pins s1 σ H v u Q I r h=>h C s _ ex pins s1 u I r,fun pins s1 σ H Q I h=>h C s _ ex pins s1 I,fun pins s1 σ H Q I h=>h C s _ ex pins s1 I⟩) hs)) hsw hf) ⟨.ref a,at_of ea,?_⟩
  refine hit σ H0 R0 H R E _ fun J H1 R1 E1 s1 hz1 src=>qD (Q:=fun y H2=>Ao (V.ref a) y H2 fun x H1=>mJ i x σ H1 D.nx) E1 src hz1 hb hw hfl he fun b bs H' R' xx hb0 hrs hnd hbs=>?_
  have E2:=E1.grow xx
  have E3:=E2.grow (Ext.cV E2.sub hb0 (.lst (bs.map .ref)))
  obtain ⟨⟨v3,ea3,rfl,ha3,hr3,nd3⟩,hR3⟩:=E3.ent i _ hΓ
  have hsb:au H' (upd H' b (.lst (bs.map .ref))):=au.fresh hb0 _
  have hlen:as.length=rs.length:=hr3.1
  have hlen2:bs.length=xs.length:=by rw [hrs.1,List.length_map]
  refine ⟨a,b,as.map .ref,bs.map .ref,rfl,rfl,ha3,aD,by rw [List.length_map,List.length_map,hlen,hlen2];exact hz,fun d hd0=>?_⟩
  have E4:=E3.grow (Ext.cV E3.sub hd0 (.lst (as.map .ref++bs.map .ref)))
  have hsd:au (upd H' b (.lst (bs.map .ref))) (upd (upd H' b (.lst (bs.map .ref))) d (.lst (as.map .ref++bs.map .ref))):=au.fresh hd0 _
  have inb:∀c∈bs,H' c≠none:=fun c hc=>by
    obtain ⟨r,hr⟩:=hrs.row hc
    rw [hr];exact Option.some_ne_none _
  have ina:∀c∈as,H1 c≠none:=fun c hc=>by
    obtain ⟨⟨v,_,_,_,hr1,_⟩,_⟩:=E1.ent i _ hΓ
    obtain ⟨r,hr⟩:=hr1.row hc
    rw [hr];exact Option.some_ne_none _
  have nda:=List.nodup_cons.mp nd3
  have dne:∀c,upd H' b (.lst (bs.map .ref)) c≠none→c≠d:=fun c hc e=>hc (e▸hd0)
  have hd1:H' d=none:=hsb.free hd0
  have r4:∀c∈as++bs,upd H' b (.lst (bs.map .ref)) c≠none:=fun c hc=>by
    rcases List.mem_append.mp hc with z | z
    · exact au.some hsb (au.some xx.h (ina c z))
    · exact au.some hsb (inb c z)
  refine dn _ _ R' _ (E4.setG (v:=.ref d) (en:=.ob (bN d (as++bs) (rs++xs.map f))) i ⟨⟨.ref d,rfl,rfl,?_,?_,?_⟩,fun c hc=>?_⟩ (fun c hc=>?_) fun c hc j e hj qj w=>?_) (s1.trans xx.r) (h d bs)
  · rw [aD,List.map_append]
  · exact (hr3.uJ hsd).app (hrs.uJ (hsb.trans hsd))
  · refine List.nodup_cons.mpr ⟨fun z=>dne d (r4 d z) rfl,?_⟩
    rw [List.nodup_append]
    refine ⟨nda.2,hnd,fun c hc c' hc' e=>?_⟩
    subst e
    exact ina c hc (hbs c hc').1
  · rcases List.mem_cons.mp hc with rfl | hc
    · exact E2.sub.free hd1
    · rcases List.mem_append.mp hc with z | z
      · exact hR3 c (List.mem_cons_of_mem _ z)
      · exact (hbs c z).2
  · have hc:c∈d::(as++bs):=hc
    rcases List.mem_cons.mp hc with rfl | hc
    · exact E2.ext.h.free hd1
    · rcases List.mem_append.mp hc with z | z
      · exact E3.nw i _ c hΓ (List.mem_cons_of_mem _ z)
      · exact E1.ext.h.free (hbs c z).1
  · have hc:c∈d::(as++bs):=hc
    rcases List.mem_cons.mp hc with rfl | hc
    · exact (Ent.cX (E3.ent j e qj) w).1 hd0
    · rcases List.mem_append.mp hc with z | z
      · exact hj (E3.ds j i e _ c qj hΓ w (List.mem_cons_of_mem _ z))
      · exact (Ent.cX (E1.ent j e qj) w).1 (hbs c z).1
end
section
variable {X:Cx}{Γ Γ1 Γ2 Γ3:Ga}{α β γ δ:Type}{N:Ga→Prop}{T:RT}
theorem aq.zL {K:PySem.W.Frag}{σ:St}{H0 R0 H R H' R':Hp}{i j:Nat}{B C B' C':i5}(hij:i≠j)(E:aq K σ H0 R0 H R Γ)(hΓ:Γ[i]?=some (.ob B))(hΓj:Γ[j]?=some (.ob C))(x:Ext (e7 H (B.fp++C.fp)) R H' R')(ho:(Ent.ob B').ok K H' R' (σ[i]?).join)(hoj:(Ent.ob C').ok K H' R' (σ[j]?).join)(hfp:∀b∈B'.fp,b∈B.fp)(hfpj:∀b∈C'.fp,b∈C.fp):aq K σ H0 R0 H' R' ((Γ.set i (.ob B')).set j (.ob C')):=by
  have h0:∀b∈B.fp++C.fp,H0 b=none:=fun b hb=>by
    rcases List.mem_append.mp hb with z | z
    · exact E.nw i _ b hΓ z
    · exact E.nw j _ b hΓj z
  have out:∀{b:Addr},H0 b≠none→b∉B.fp++C.fp:=fun h e=>h (h0 _ e)
  have apart:∀(k:Nat) (e:Ent),k≠i→k≠j→Γ[k]?=some e→∀b∈e.fp (σ[k]?).join,b∉B.fp++C.fp:=fun k e hi hj qk b hb w=>by
    rcases List.mem_append.mp w with z | z
    · exact hi (E.ds k i e _ b qk hΓ hb z)
    · exact hj (E.ds k j e _ b qk hΓj hb z)
  have key:∀(k:Nat) (e:Ent),((Γ.set i (.ob B')).set j (.ob C'))[k]?=some e→(k=j∧e= .ob C')∨(k=i∧e= .ob B')∨(k≠i∧k≠j∧Γ[k]?=some e):=fun k e q=>by
    rcases set_at q with ⟨rfl,rfl,_⟩ | ⟨hk,q1⟩
    · exact .inl ⟨rfl,rfl⟩
    · rcases set_at q1 with ⟨rfl,rfl,_⟩ | ⟨hk2,q2⟩
      · exact .inr (.inl ⟨rfl,rfl⟩)
      · exact .inr (.inr ⟨hk2,hk,q2⟩)
  refine ⟨⟨fun b o q=>?_,E.ext.r.trans x.r,x.s,fun b hb=>?_⟩,fun k e q=>?_,fun k e b q w=>?_,fun k l e e' b q q' w w'=>?_,by rw [List.length_set,List.length_set];exact E.len⟩
  · exact x.h b o (by rw [dI (out (by rw [q];exact Option.some_ne_none _))];exact E.ext.h b o q)
  · refine (x.old b ?_).trans (E.ext.old b hb)
    rw [dI (out hb)];exact au.some E.ext.h hb
  · rcases key k e q with ⟨rfl,rfl⟩ | ⟨rfl,rfl⟩ | ⟨hi,hj,q1⟩
    · exact hoj
    · exact ho
    · have h1:=E.ent k e q1
      refine h1.loc (fun b hb=>?_) x.r fun b hb=>?_
      · cases e2:H b with
        | none=>exact absurd e2 (Ent.cX h1 hb).1
        | some u=>exact x.h b u (by rw [dI (apart k e hi hj q1 b hb)];exact e2)
      · exact (x.old b (by rw [dI (apart k e hi hj q1 b hb)];exact (Ent.cX h1 hb).1)).trans (Ent.cX h1 hb).2
  · rcases key k e q with ⟨rfl,rfl⟩ | ⟨rfl,rfl⟩ | ⟨hi,hj,q1⟩
    · exact h0 b (List.mem_append_right _ (hfpj b w))
    · exact h0 b (List.mem_append_left _ (hfp b w))
    · exact E.nw k e b q1 w
  · rcases key k e q with ⟨rfl,rfl⟩ | ⟨rfl,rfl⟩ | ⟨hi,hj,q1⟩<;>rcases key l e' q' with ⟨rfl,rfl⟩ | ⟨rfl,rfl⟩ | ⟨hi',hj',q1'⟩
    · rfl
    · exact E.ds _ _ _ _ b hΓj hΓ (hfpj b w) (hfp b w')
    · exact absurd (List.mem_append_right _ (hfpj b w)) (apart l e' hi' hj' q1' b w')
    · exact E.ds _ _ _ _ b hΓ hΓj (hfp b w) (hfpj b w')
    · rfl
    · exact absurd (List.mem_append_left _ (hfp b w)) (apart l e' hi' hj' q1' b w')
    · exact absurd (List.mem_append_right _ (hfpj b w')) (apart k e hi hj q1 b w)
    · exact absurd (List.mem_append_left _ (hfp b w')) (apart k e hi hj q1 b w)
    · exact E.ds _ _ _ _ b q1 q1' w w'
noncomputable abbrev qG:=PySem.W.Frag→Pu→List Row→List Pk→(Pu→List Row→RT)→Prop
noncomputable def qY (S:qG)(K:PySem.W.Frag):Sp:=fun vs H Q _=>∃R a b s c cs rs vs' ps T,vs= .ref a:: .ref c::vs'∧au R H∧(∀x∈[a,b]++(c::cs),R x=none)∧(vU a b s).R K H R (.ref a)∧(bN c cs rs).R K H R (.ref c)∧(∀x∈[a,b],x∉c::cs)∧ff K R vs' ps∧S K s rs ps T∧
  ∀v H' R' s' rs',Ext (e7 H ([a,b]++(c::cs))) R H' R'→(vU a b s').R K H' R' (.ref a)→(bN c cs rs').R K H' R' (.ref c)→(∀x∈[a,b]++(c::cs),R' x=none)→T s' rs' (e7 H ([a,b]++(c::cs))) v H' R'→Q v H'
theorem uw (i j:Nat){S:qG}{x y z:Str}{k:Nat}{es:List Expr}{p p1 p2 p3 pos:Pos}{ps:List Pk}{a b c:Addr}{s:Pu}{cs:List Addr}{rs:List Row}{Pd:Pu→List Row→Prop}(C:az X.prog X.w X.K X.mg X.base x k (qY S X.K))(hr:bt k X.A)(hij:i≠j)(ha:HA X es Γ ps Γ)(hΓ:Γ[i]?=some (.ob (a9.bx a b s)))(hΓj:Γ[j]?=some (.ob (bN c cs rs)))(hS:S X.K s rs ps (fun s' rs'=>bC X.K eM fun _=>Pd s' rs'))(h:∀s' rs',Pd s' rs'→N ((Γ.set i (.ob (a9.bx a b s'))).set j (.ob (bN c cs rs'))))
    (hg:autoParam (Gl X x) Fc.ai) (hdb:autoParam ((x==("__debug__":Str))=false) Fc.aw) (he:autoParam (starEach (.Name y p1:: .Name z p2::es) X.env=(false,eval (.Name y p1) X.env)::starEach (.Name z p2::es) X.env) Fc.ai) (he2:autoParam (starEach (.Name z p2::es) X.env=(false,eval (.Name z p2) X.env)::starEach es X.env) Fc.ai) (hpl:autoParam ((backTo p3 (starEach (.Name z p2::es) X.env)).any (·.1)=false) Fc.ai)
    (hN:autoParam (X.N[i]?=some y) Fc.ai) (hv:autoParam (ck X.env.scope y) Fc.bO) (hd:autoParam ((y==("__debug__":Str))=false) Fc.aw) (hcd:autoParam ((y==("__classdict__":Str))=false) Fc.aw)
    (hNj:autoParam (X.N[j]?=some z) Fc.ai) (hvj:autoParam (ck X.env.scope z) Fc.bO) (hdj:autoParam ((z==("__debug__":Str))=false) Fc.aw) (hcdj:autoParam ((z==("__classdict__":Str))=false) Fc.aw)
    (hsw:autoParam (swapsWith (.Call (.Name x p) (.Name y p1:: .Name z p2::es) [] p3) none pos.line X.env=pure false) Fc.ai):W1 X (.Expr (.Call (.Name x p) (.Name y p1:: .Name z p2::es) [] p3) pos) Γ N T:=fun σ H0 R0 H R E D dn dr=>by
  obtain ⟨f,fd,pn,F,hm,hk,hb⟩:=C.ex
  obtain ⟨ea,_,_⟩:=d6 (E.ent i _ hΓ)
  obtain ⟨⟨vc,ec,rfl,_,_,_⟩,_⟩:=E.ent j _ hΓj
  refine sS (fc (jH F hr hg hm hk hb .nil mS (aT (br hN hv hd hcd) (aT (br hNj hvj hdj hcdj) i6 he2) he) hdb he hpl) hsw) ⟨.ref a,at_of ea,.ref c,at_of ec,ha σ H0 R0 H R E _ fun us H1 R1 E1 s1 p1=>?_⟩
  obtain ⟨ea1,hB,hRa,hRb⟩:=d6 (E1.ent i _ hΓ)
  obtain ⟨⟨vc1,ec1,rfl,hc1,hc2,hc3⟩,hRc⟩:=E1.ent j _ hΓj
  have dis:∀x∈[a,b],x∉c::cs:=fun x hx w=>hij (E1.ds i j _ _ x hΓ hΓj hx w)
  refine ⟨R1,a,b,s,c,cs,rs,us,ps,_,by rw [List.append_nil],E1.sub,fun x hx=>?_,hB,⟨rfl,hc1,hc2,hc3⟩,dis,p1,hS,fun v H' R' s' rs' xx hB' hC' hR' t=>?_⟩
  · rcases List.mem_append.mp hx with w | w
    · rcases List.mem_cons.mp w with rfl | w
      · exact hRa
      · rw [List.mem_singleton.mp w];exact hRb
    · exact hRc x w
  · obtain ⟨_,_,hP⟩:=t
    refine dn σ H' R' _ (E1.zL (B':=a9.bx a b s') (C':=bN c cs rs') hij hΓ hΓj xx ?_ ?_ (fun c hc=>hc) fun c hc=>hc) (s1.trans xx.r) (h s' rs' hP)
    · rw [ea1];exact hV (B:=a9) hB' (hR' a (by simp)) (hR' b (by simp))
    · rw [ec1];exact ⟨⟨.ref c,rfl,hC'⟩,fun x hx=>hR' x (List.mem_append_right _ hx)⟩
variable {P:Program}{w:World}{K:PySem.W.Frag}{mg:Str→Option Value}{base:Heap}
theorem oV {K:PySem.W.Frag}{R H:Hp}{a b c:Addr}{st:Pu}{cs:List Addr}{rs:List Row}{vs:List V}{ps:List Pk}{N:List Str}(s:au R H)(hR:∀x∈[a,b]++(c::cs),R x=none)(hB:(vU a b st).R K H R (.ref a))(hC:(bN c cs rs).R K H R (.ref c))(dis:∀x∈[a,b],x∉c::cs)(p:ff K R vs ps)(hl:ps.length + 2≤N.length):
    aq K (L2.start N (.ref a:: .ref c::vs)) (e7 H ([a,b]++(c::cs))) R H R (.ob (a9.bx a b st):: .ob (bN c cs rs)::dc ps (N.length - 2)):=by
  obtain ⟨n0,n1,N',rfl⟩:∃n0 n1 N',N=n0::n1::N':=by
    match N,hl with
    | [],h=>exact absurd h (by simp)
    | [_],h=>exact absurd h (by simp)
    | n0::n1::N',_=>exact ⟨n0,n1,N',rfl⟩
  have hl':ps.length≤N'.length:=by simpa using hl
  have E0:=dq (N:=N') s p hl'
  have es:L2.start (n0::n1::N') (.ref a:: .ref c::vs)=some (.ref a)::some (.ref c)::L2.start N' vs:=by unfold L2.start;simp
  rw [es]
  have noown:∀(i:Nat) (e:Ent) (o:Option V),(dc ps N'.length)[i]?=some e→e.fp o=[]:=fun i e o q=>by
    unfold dc at q
    rcases List.mem_append.mp (List.mem_of_getElem? q) with z | z
    · obtain ⟨p,_,rfl⟩:=List.mem_map.mp z;rfl
    · obtain ⟨_,rfl⟩:=List.mem_replicate.mp z;rfl
  have ha:=hR a (by simp)
  have hb:=hR b (by simp)
  have key:∀(i:Nat) (e:Ent),(Ent.ob (a9.bx a b st)::Ent.ob (bN c cs rs)::dc ps (n0::n1::N').length.pred.pred)[i]?=some e→(i=0∧e= .ob (a9.bx a b st))∨(i=1∧e= .ob (bN c cs rs))∨∃i',i=i' + 2∧(dc ps N'.length)[i']?=some e:=by
    intro i e q
    match i,q with
    | 0,q=>simp at q;exact .inl ⟨rfl,q.symm⟩
    | 1,q=>simp at q;exact .inr (.inl ⟨rfl,q.symm⟩)
    | i + 2,q=>exact .inr (.inr ⟨i,rfl,by simpa using q⟩)
  refine ⟨⟨nq,au.refl _,s,fun _ _=>rfl⟩,fun i e q=>?_,fun i e d q w=>?_,fun i j e e' d q q' w w'=>?_,?_⟩
  · rcases key i e q with ⟨rfl,rfl⟩ | ⟨rfl,rfl⟩ | ⟨i',rfl,q1⟩
    · exact hV (B:=a9) hB ha hb
    · exact ⟨⟨.ref c,rfl,hC⟩,fun x hx=>hR x (List.mem_append_right _ hx)⟩
    · simpa using E0.ent i' e q1
  · rcases key i e q with ⟨rfl,rfl⟩ | ⟨rfl,rfl⟩ | ⟨i',rfl,q1⟩
    · exact ju (List.mem_append_left _ w)
    · exact ju (List.mem_append_right _ w)
    · rw [noown i' e _ q1] at w;cases w
  · rcases key i e q with ⟨rfl,rfl⟩ | ⟨rfl,rfl⟩ | ⟨i',rfl,q1⟩
    · rcases key j e' q' with ⟨rfl,rfl⟩ | ⟨rfl,rfl⟩ | ⟨j',rfl,q1'⟩
      · rfl
      · exact absurd w' (dis d w)
      · rw [noown j' e' _ q1'] at w';cases w'
    · rcases key j e' q' with ⟨rfl,rfl⟩ | ⟨rfl,rfl⟩ | ⟨j',rfl,q1'⟩
      · exact absurd w (dis d w')
      · rfl
      · rw [noown j' e' _ q1'] at w';cases w'
    · rw [noown i' e _ q1] at w;cases w
  · have:=E0.len
    simp [this]
theorem xA {S:qG}{x qual:Str}{st:Stmt}{f:Addr}{fd:FuncData}{N ps:List Str}{k:Nat}(F:bh K x qual st f fd)(Sc:ax N ps (ah st))(hm:mg x=some (.ref f))(hb:Binds K fd ps [])(len:∀s rs qs T,S K s rs qs T→qs.length + 2=ps.length)
    (hbody:∀(cdv:Value) (A:Around) (outer:List Env) (s:Shared) (H:Hp) (E:XK) (a b c:Addr) (cs:List Addr) (u:Pu) (rs:List Row) (qs:List Pk) (T:Pu→List Row→RT),bt k (A.deeper (envOfC qual (ah st) s.heap.objs.size f cdv))→S K u rs qs T→
      WS (bF df P w K mg base N qual (ah st) f cdv A outer s H E).bR (bo st) (.ob (a9.bx a b u):: .ob (bN c cs rs)::dc qs (N.length - 2)) (fun Γ=>∃u' rs',Γ[0]?=some (.ob (a9.bx a b u'))∧Γ[1]?=some (.ob (bN c cs rs'))∧∀H0 H' R',T u' rs' H0 .non H' R') (fun _ _ _ _=>False)):az P w K mg base x (k + 1) (qY S K):=by
  refine ⟨f,fd,ps,?_,hm,F.kp,hb⟩
  refine F.ok Sc (fun vs H Q E h=>?_) (fun cdv A outer s H vs Q E hr h=>?_)
  · obtain ⟨R,a,b,u,c,cs,rs,vs',qs,T,rfl,_,_,_,_,_,p,hS,_⟩:=h
    rw [List.length_cons,List.length_cons,p.length];exact len u rs qs T hS
  · obtain ⟨R,a,b,u,c,cs,rs,vs',qs,T,rfl,sR,hR,hB,hC,dis,p,hS,q⟩:=h
    have hl:qs.length + 2≤N.length:=by
      rw [len u rs qs T hS]
      have:=congrArg List.length Sc.pre
      rw [List.length_take] at this
      omega
    refine ⟨_,dB,hbody cdv A outer s H E a b c cs u rs qs T hr hS (L2.start N (.ref a:: .ref c::vs')) (e7 H ([a,b]++(c::cs))) R H R (oV sR hR hB hC dis p hl) {nx:=fun _ H'=>Q .non H',rt:=Q} (fun σ' H' R' Γ' E' _ ⟨u',rs',hΓ,hΓ1,t⟩=>?_) fun v H' R' xx t=>t.elim⟩
    obtain ⟨ea,hB',hR'⟩:=d6 (E'.ent 0 _ hΓ)
    obtain ⟨⟨vc,ec,e2,hc'⟩,hRc⟩:=E'.ent 1 _ hΓ1
    refine q .non H' R' u' rs' E'.ext hB' ⟨rfl,hc'⟩ (fun x hx=>?_) (t _ _ _)
    rcases List.mem_append.mp hx with w | w
    · rcases List.mem_cons.mp w with rfl | w
      · exact hR'.1
      · rw [List.mem_singleton.mp w];exact hR'.2
    · exact hRc x w
theorem iO (i:Nat){x:Str}{e:Expr}{p1 pos:Pos}{a:Addr}{as:List Addr}{rs:List Row}{k:Int}{j:Nat}{b:Addr}(he:EV X e Γ ae k Γ1)(hΓ:Γ[i]?=some (.ob (bN a as rs)))(hΓ1:Γ1[i]?=some (.ob (bN a as rs)))(hk:f6 as.length k=some j)(hb:as[j]?=some b)
    (hN:autoParam (X.N[i]?=some x) Fc.ai) (hv:autoParam (ck X.env.scope x) Fc.bO) (hd:autoParam ((x==("__debug__":Str))=false) Fc.aw) (hcd:autoParam ((x==("__classdict__":Str))=false) Fc.aw) (hsx:autoParam (fO e) Fc.nr):EV X (.Subscript (.Name x p1) e pos) Γ uq b Γ1:=fun σ H0 R0 H R E Q q=>by
  obtain ⟨⟨v,ea,rfl,ha,hr,_⟩,hR⟩:=E.ent i _ hΓ
  refine eS (fP eG (br hN hv hd hcd) aL hsx) ⟨.ref a,at_of ea,he σ H0 R0 H R E _ fun u H2 R2 E2 s2 e2=>?_⟩
  obtain ⟨⟨v,ea2,e3,ha2,hr2,nd⟩,hR2⟩:=E2.ent i _ hΓ1
  refine ⟨a,_,k,.ref b,rfl,e2,bq.of ha2,?_,q _ H2 R2 E2 s2 rfl⟩
  unfold cA
  rw [List.length_map,hk]
  show (as.map V.ref)[j]?=_
  rw [List.getElem?_map,hb];rfl
theorem B2 {i j:Nat}{a:Addr}{as:List Addr}{rs:List Row}{xs:List Int}(hij:i≠j)(hΓ:Γ[i]?=some (.ob (bN a as rs)))(hj:Γ[j]?=some (.mu ae xs))(hz:rs.length≤sizeLine)(hzx:xs.length≤sizeLine)(σ:St)(H0 R0 H R:Hp)(E:aq X.K σ H0 R0 H R Γ):aq X.K σ H H H H (((Γ.map kM).set i (.im (ag gm) rs)).set j (.im (ag ae) xs)):=by
  obtain ⟨⟨v,ea,rfl,ha,hr,nd⟩,hR⟩:=E.ent i _ hΓ
  obtain ⟨b,vs,eb,hb,hRb,pp⟩:=E.ent j _ hj
  have E1:=E.frz.jv (i:=i) (e0:=.no) (en:=.im (ag gm) rs) (by rw [List.getElem?_map,hΓ];rfl) ⟨.ref a,ea,a,_,rfl,ha,ia hr,hz⟩ fun b w=>by cases w
  exact E1.jv (i:=j) (e0:=.no) (by rw [List.getElem?_set_ne hij,List.getElem?_map,hj];rfl) ⟨.ref b,eb,b,vs,rfl,hb,Paired.map (fun _ _=>ae.mono E.sub) pp,hzx⟩ fun b w=>by cases w
theorem vi {a:Expr}{j:Nat}{p1 pos:Pos}{r:Row}(ha:EV X a Γ gm r Γ1):EV X (.Subscript a (.Constant (.int 0) j p1) pos) Γ ae r.1 Γ1:=fun σ H0 R0 H R E Q q=>by
  refine eS (fP eG aL dQ (fun _ _=>rfl)) (ha σ H0 R0 H R E _ fun v H1 R1 E1 s1 e1=>?_)
  obtain ⟨b,rfl,hb⟩:=e1
  exact ⟨b,_,0,.int r.1,rfl,rfl,bq.of (E1.sub _ _ hb),rfl,q _ H1 R1 E1 s1 rfl⟩
end
end Fc
namespace Fc
open PySem PySem.Spec L2
theorem WS.qd {X:Cx}{Γ:Ga}{N:Ga→Prop}{T:RT}(i:Nat){sts:List Stmt}{a:Addr}{as:List Addr}{rs:List Row}(hΓ:Γ[i]?=some (.ob (bN a as rs)))(h:as.length=rs.length→WS X sts Γ N T):WS X sts Γ N T:=fun σ H0 R0 H R E D dn dr=>by
  obtain ⟨⟨v,ea,_,ha,hr,nd⟩,hR⟩:=E.ent i _ hΓ
  exact h hr.1 σ H0 R0 H R E D dn dr
end Fc
namespace K1
open PySem L2 Fc
open PySem.Spec hiding Row
open PyProof.Rows hiding St
open PySem.Builtin.Int (intBits)
noncomputable abbrev cf:Row:=(0,0,0,0)
theorem d9:∀(l m:List Int),l.Nodup→(∀x∈l,x∈m)→l.length≤m.length
  | [],_,_,_=>Nat.zero_le _
  | a::l,m,nd,h=>by
    obtain ⟨n1,n2⟩:=List.nodup_cons.mp nd
    have am:=h a List.mem_cons_self
    have ih:=d9 l (m.erase a) n2 fun x hx=>(List.mem_erase_of_ne (show x≠a from fun e=>n1 (by rw [← e];exact hx))).mpr (h x (List.mem_cons_of_mem _ hx))
    have:=List.length_erase_of_mem am
    have:0 < m.length:=List.length_pos_of_mem am
    rw [List.length_cons];omega
structure jt (parts:Int) (rs0 rs:List Row):Prop where
  len:rs.length=rs0.length
  same:∀(k:Nat) (r:Row),rs[k]?=some r→∃r0,rs0[k]?=some r0∧r.1=r0.1∧r.2.1=r0.2.1∧r.2.2.1=r0.2.2.1
  ok:∀r∈rs,r.2.2.2= -1∨(r.1 < r.2.2.2∧r.2.2.2 < parts)
theorem jt.set {parts:Int}{rs0 rs:List Row}(h:jt parts rs0 rs){k:Nat}{r:Row}(hk:rs[k]?=some r){c:Int}(hc:r.1 < c∧c < parts):jt parts rs0 (rs.set k (r.1,r.2.1,r.2.2.1,c)):=by
  have kl:=(List.getElem?_eq_some_iff.mp hk).1
  refine ⟨by rw [List.length_set];exact h.len,fun j q hj=>?_,fun q hq=>?_⟩
  · by_cases e:k=j
    · subst e
      rw [List.getElem?_set_self kl] at hj;cases hj
      exact h.same k r hk
    · rw [List.getElem?_set_ne e] at hj;exact h.same j q hj
  · rcases List.mem_or_eq_of_mem_set hq with z | z
    · exact h.ok q z
    · rw [z];exact .inr hc
structure uy (parts:Int) (rs0:List Row) (i:Nat) (rs:List Row) (free used:List Int):Prop where
  c:jt parts rs0 rs
  nd:free.Nodup
  bd:∀k∈free,0≤k∧k < (rs0.length:Int)
  fr:∀k∈free,∀r,rs[k.toNat]?=some r→r.2.2.2= -1
  cov:∀k:Int,0≤k→k < (rs0.length:Int)→k∈free∨k∈used
  ulen:used.length=i
  cl:∀q:Nat,1≤q→q≤i→∃r∈rs,r.2.2.2=(q:Int)
theorem uy.one {parts:Int}{rs0:List Row}{i:Nat}{rs:List Row}{free used:List Int}(h:uy parts rs0 i rs free used)(hp:∀q:Nat,q≤i→∃(k:Nat) (r:Row),rs0[k]?=some r∧r.1=(q:Int)):∃k∈free,∀r,rs[k.toNat]?=some r→r.1 < (i:Int) + 1:=by
  refine Classical.byContradiction fun no=>?_
  -- one row of each part,all different
  have reps:∀n:Nat,n≤i + 1→∃l:List Int,l.length=n∧l.Nodup∧∀x∈l,0≤x∧x < (rs0.length:Int)∧∃r,rs0[x.toNat]?=some r∧r.1 < (n:Int):=by
    intro n
    induction n with
    | zero=>intro _;exact ⟨[],rfl,List.nodup_nil,by simp⟩
    | succ n ih=>
      intro hn
      obtain ⟨l,l1,l2,l3⟩:=ih (by omega)
      obtain ⟨k,r,hk,hr⟩:=hp n (by omega)
      have kl:=(List.getElem?_eq_some_iff.mp hk).1
      refine ⟨(k:Int)::l,by rw [List.length_cons,l1],List.nodup_cons.mpr ⟨fun z=>?_,l2⟩,fun x hx=>?_⟩
      · obtain ⟨_,_,r',h1,h2⟩:=l3 _ z
        rw [show ((k:Int)).toNat=k by omega,hk] at h1
        cases h1;omega
      · rcases List.mem_cons.mp hx with rfl | z
        · exact ⟨by omega,by omega,r,by rw [show ((k:Int)).toNat=k by omega];exact hk,by omega⟩
        · obtain ⟨a,b,r',c,d⟩:=l3 x z
          exact ⟨a,b,r',c,by omega⟩
  obtain ⟨l,l1,l2,l3⟩:=reps (i + 1) (Nat.le_refl _)
  have:=d9 l used l2 fun x hx=>by
    obtain ⟨a,b,r0,c,d⟩:=l3 x hx
    rcases h.cov x a b with z | z
    · refine absurd ⟨x,z,fun r hr=>?_⟩ no
      obtain ⟨r0',e1,e2,_⟩:=h.c.same _ r hr
      rw [c] at e1;cases e1
      omega
    · exact z
  rw [l1,h.ulen] at this
  omega
section
variable {P:Program}{w:World}{K:PySem.W.Frag}{mg:Str→Option Value}{base:Heap}{f:Addr}{fd:FuncData}
noncomputable abbrev sU:Stmt:=top lU
noncomputable abbrev C6:List Str:=["_law_purse_here","_law_rows","_law_parts","_law_free","_law_part_here","_law_some","_law_k","_law_later","_law_pick"]
theorem zZ:ax C6 ["_law_purse_here","_law_rows","_law_parts"] (ah sU):=⟨rfl,rfl,rfl,by decide +kernel,rfl,by decide +kernel,by decide +kernel⟩
structure nW (parts:Int) (rs0 rs:List Row):Prop where
  c:jt parts rs0 rs
  cl:∀q:Nat,1≤q→(q:Int) < parts→∃r∈rs,r.2.2.2=(q:Int)
noncomputable def SCL:qG:=fun K s rs ps T=>∃(n parts:Int),cB n s∧n≤10000∧ps=[⟨ae,parts⟩]∧1≤parts∧parts≤4∧rs.length≤100∧(∀r∈rs,0≤r.1∧r.1 < parts∧r.2.2.2= -1)∧(∀q:Nat,(q:Int) < parts→∃(k:Nat) (r:Row),rs[k]?=some r∧r.1=(q:Int))∧T=fun s' rs'=>bC K eM fun _=>cB (n + 200) s'∧nW parts rs rs'
theorem Cd (M:bU mg)(CD:az P w K mg base "_law_draw" 1 (dy a9 jP K))(F:bh K "_law_called" "_law_called" sU f fd)(hm:mg "_law_called"=some (.ref f))(hb:Binds K fd ["_law_purse_here","_law_rows","_law_parts"] []):az P w K mg base "_law_called" 2 (qY SCL K):=by
  have nd:=zZ.nd
  have nd1:List.Nodup [("_law_k":Str),"_law_part_here","_law_rows"]:=by decide
  refine xA F zZ hm hb (fun _ _ qs T ⟨_,_,_,_,e,_⟩=>by rw [e];rfl) (fun cdv A outer s H E a b c cs st rs0 qs T hr hS=>?_)
  obtain ⟨n,parts,hP,n1,rfl,p1,p4,hl,hrow,hpart,rfl⟩:=hS
  have n0:0≤n:=Int.le_trans hP.t0 hP.t1
  change WS _ _ [.ob (a9.bx a b st),.ob (bN c cs rs0),.im ae parts,.no,.no,.no,.no,.no,.no] _ _
  refine aj (de 3 (i4 M.list M.range (qt 1 M.len rfl) ⟨by omega,by omega⟩) ?_)
  have e0:ups 0 ((rs0.length:Int)).toNat=ups 0 rs0.length:=by rw [show ((rs0.length:Int)).toNat=rs0.length by omega]
  rw [e0]
  refine aj (du (r:=ae) (fun i Γ=>∃st rs free used v4 v5 v6,Γ=[.ob (a9.bx a b st),.ob (bN c cs rs),.im ae parts,.mu ae free,v4,v5,v6,.no,.no]∧cB (n + i) st∧uy parts rs0 i rs free used∧free.length≤100)
    (l7 M.range ak (aa 2 rfl) ⟨by decide,by decide,by omega,by omega⟩) (aM 4) ⟨st,rs0,ups 0 rs0.length,[],_,_,_,rfl,hP.mono (by omega),⟨⟨rfl,fun k r hk=>⟨r,hk,rfl,rfl,rfl⟩,fun r hr=>.inl (hrow r hr).2.2⟩,gY _,fun k hk=>bE.mp hk,fun k _ r hr=>(hrow r (List.mem_of_getElem? hr)).2.2,fun k k0 k1=>.inl (bE.mpr ⟨k0,k1⟩),rfl,fun q q1 q2=>by omega⟩,by rw [aN];exact hl⟩ ?_ ?_)
  · rintro i x Γ hx ⟨st,rs,free,used,v4,v5,v6,rfl,hP,hK,hfl⟩
    obtain ⟨hi,ex⟩:=ie hx
    have ex:x=(i:Int) + 1:=by omega
    subst ex
    have il:(i:Int) + 1 < parts:=by omega
    have hrl:=hK.c.len
    refine WS.qd 1 rfl fun hcs=>?_
    have rg:∀k∈free,∃r,rs[k.toNat]?=some r:=fun k hk=>⟨_,List.getElem?_eq_getElem (by have:=hK.bd k hk;omega)⟩
    have hkk:∀k∈free,cA rs k=some (rs.getD k.toNat cf):=fun k hk=>cH cf (hK.bd k hk).1 (by have:=hK.bd k hk;omega)
    refine aj (xF 5 (B2 (i:=1) (j:=3) (by decide) rfl rfl (aP (by omega)) (aP (by omega))) (own:=["_law_k"]) (fr:=["_law_part_here","_law_rows"]) (ix:=[4,1]) (ra:=ae) (rb:=ae) (p:=fun k=>decide ((rs.getD k.toNat cf).1 < (i:Int) + 1)) (f:=fun k=>k) (fun _ _ _ _ _ h=>h) (bc (so:=ah sU) (N0:=C6) rfl rfl (fun x h=>aV h) (by decide +kernel)) (ba (aa 3 rfl))
      (fun C s H ex=>aM 0) (fun x=>⟨.inr rfl,.inl rfl,.inl rfl,trivial⟩) (fun C s H ex x hx=>gD (aI dH (vi (bB (aa 2 rfl) (aa 0 rfl) (hkk x hx))) (aa 1 rfl))) (fun C s H ex x hx _=>aa 0 rfl) ?_)
    have hid:((free.filter fun k=>decide ((rs.getD k.toNat cf).1 < (i:Int) + 1)).map fun k=>k)=free.filter fun k=>decide ((rs.getD k.toNat cf).1 < (i:Int) + 1):=by simp
    rw [hid]
    have hne:free.filter (fun k=>decide ((rs.getD k.toNat cf).1 < (i:Int) + 1))≠[]:=fun z=>by
      obtain ⟨k,hk,hr⟩:=hK.one fun q hq=>hpart q (by omega)
      have:k∈free.filter fun k=>decide ((rs.getD k.toNat cf).1 < (i:Int) + 1):=by
        rw [List.mem_filter]
        refine ⟨hk,decide_eq_true ?_⟩
        obtain ⟨r,er⟩:=rg k hk
        rw [List.getD_eq_getElem?_getD,er];exact hr r er
      rw [z] at this;cases this
    have hsl:=List.length_filter_le (fun k=>decide ((rs.getD k.toNat cf).1 < (i:Int) + 1)) free
    have hsub:∀k∈free.filter (fun k=>decide ((rs.getD k.toNat cf).1 < (i:Int) + 1)),k∈free∧(rs.getD k.toNat cf).1 < (i:Int) + 1:=fun k hk=>⟨(List.mem_filter.mp hk).1,of_decide_eq_true (List.mem_filter.mp hk).2⟩
    generalize free.filter (fun k=>decide ((rs.getD k.toNat cf).1 < (i:Int) + 1))=sm at hne hsl hsub
    have sl:1≤sm.length:=by cases sm with
      | nil=>exact absurd rfl hne
      | cons=>simp
    obtain ⟨y,st1,y0,y1,hP1,hS⟩:=bD hP (by omega) (b:=(sm.length:Int)) (by omega) (by omega)
    obtain ⟨k,hk⟩:∃k,sm[y.toNat]?=some k:=⟨_,List.getElem?_eq_getElem (by omega)⟩
    obtain ⟨kf,kp⟩:=hsub k (List.mem_of_getElem? hk)
    have kb:=hK.bd k kf
    refine aj (aK 6 (eQ 5 (y:=k) (aY 0 CD hr (af (dU 5 M.len rfl) ao) rfl rfl (hS _)) rfl rfl (by rw [eO y0 (by omega)];exact hk)) ?_)
    obtain ⟨r,er⟩:=rg k kf
    rw [List.getD_eq_getElem?_getD,er] at kp
    have kp:r.1 < (i:Int) + 1:=kp
    obtain ⟨bk,hbk⟩:∃bk,cs[k.toNat]?=some bk:=⟨_,List.getElem?_eq_getElem (by omega)⟩
    refine aj (ou 1 (y:=(i:Int) + 1) (aa 4 rfl) (iO 1 (aa 6 rfl) rfl rfl (fi kb.1 (by omega)) hbk) rfl (jE hbk er) ?_)
    obtain ⟨j,hj,hno⟩:∃j:Nat,free[j]?=some k∧∀m,m < j→free[m]?≠some k:=by
      obtain ⟨j,hj⟩:=List.mem_iff_getElem?.mp kf
      refine ⟨j,hj,fun m hm e=>?_⟩
      have q1:=List.getElem?_eq_some_iff.mp hj
      have q2:=List.getElem?_eq_some_iff.mp e
      have:=(List.getElem_inj (h₀:=q2.1) (h₁:=q1.1) hK.nd).mp (q2.2.trans q1.2.symm)
      omega
    refine ar (vp 3 (aa 6 rfl) rfl rfl hj hno ?_)
    have jl:=(List.getElem?_eq_some_iff.mp hj)
    have em:∀z,z∈free.eraseIdx j↔z∈free∧z≠k:=fun z=>by
      rw [List.mem_eraseIdx_iff_getElem?]
      constructor
      · rintro ⟨m,m1,m2⟩
        refine ⟨List.mem_of_getElem? m2,fun e=>m1 ?_⟩
        subst e
        have q2:=List.getElem?_eq_some_iff.mp m2
        exact (List.getElem_inj (h₀:=q2.1) (h₁:=jl.1) hK.nd).mp (q2.2.trans jl.2.symm)
      · rintro ⟨m1,m2⟩
        obtain ⟨m,hm⟩:=List.mem_iff_getElem?.mp m1
        refine ⟨m,fun e=>m2 ?_,hm⟩
        subst e
        rw [hj] at hm;exact (Option.some.inj hm).symm
    refine ⟨st1,_,free.eraseIdx j,k::used,_,_,_,rfl,hP1.mono (by omega),⟨hK.c.set er ⟨by omega,by omega⟩,hK.nd.sublist (List.eraseIdx_sublist _ _),fun z hz=>hK.bd z ((em z).mp hz).1,fun z hz q hq=>?_,fun z z0 z1=>?_,by rw [List.length_cons,hK.ulen],fun q q1 q2=>?_⟩,Nat.le_trans (List.length_eraseIdx_le _ _) hfl⟩
    · obtain ⟨zf,zk⟩:=(em z).mp hz
      have zb:=hK.bd z zf
      rw [List.getElem?_set_ne (by omega)] at hq
      exact hK.fr z zf q hq
    · rcases hK.cov z z0 z1 with h | h
      · by_cases e:z=k
        · exact .inr (by rw [e];simp)
        · exact .inl ((em z).mpr ⟨h,e⟩)
      · exact .inr (List.mem_cons_of_mem _ h)
    · rcases Nat.lt_or_ge q (i + 1) with h | h
      · obtain ⟨r',hr',e'⟩:=hK.cl q q1 (by omega)
        obtain ⟨j',hj'⟩:=List.mem_iff_getElem?.mp hr'
        refine ⟨r',List.mem_iff_getElem?.mpr ⟨j',?_⟩,e'⟩
        rw [List.getElem?_set_ne (fun z=>?_)];· exact hj'
        subst z
        rw [er] at hj';cases hj'
        have:=hK.fr k kf r er
        omega
      · have:q=i + 1:=by omega
        subst this
        exact ⟨(r.1,r.2.1,r.2.2.1,(i:Int) + 1),List.mem_iff_getElem?.mpr ⟨k.toNat,List.getElem?_set_self (by omega)⟩,by show (i:Int) + 1=_;omega⟩
  · rintro Γ ⟨st,rs,free,used,v4,v5,v6,rfl,hP,hK,hfl⟩
    rw [aN] at hP hK
    have em:(parts - 1).toNat=(parts - 1).toNat:=rfl
    have hrl:=hK.c.len
    refine ar (du (r:=ae) (fun i Γ=>∃st rs v6 v7 v8,Γ=[.ob (a9.bx a b st),.ob (bN c cs rs),.im ae parts,.im (ag ae) free,v4,v5,v6,v7,v8]∧cB (n + 10 + i) st∧nW parts rs0 rs∧∀m k,i≤m→free[m]?=some k→∀r,rs[k.toNat]?=some r→r.2.2.2= -1)
      (ba (dN 3 rfl (aP (by omega)))) (aM 6) ⟨st,rs,_,_,_,rfl,hP.mono (by omega),⟨hK.c,fun q q1 q2=>hK.cl q q1 (by omega)⟩,fun m k _ hk r hr=>hK.fr k (List.mem_of_getElem? hk) r hr⟩ ?_ ?_)
    · rintro i k Γ hk ⟨st,rs,v6,v7,v8,rfl,hP,hC,hfr⟩
      have il:=(List.getElem?_eq_some_iff.mp hk).1
      have kb:=hK.bd k (List.mem_of_getElem? hk)
      have hl2:=hC.c.len
      refine WS.qd 1 rfl fun hcs=>?_
      obtain ⟨r,er⟩:∃r,rs[k.toNat]?=some r:=⟨_,List.getElem?_eq_getElem (by omega)⟩
      obtain ⟨bk,hbk⟩:∃bk,cs[k.toNat]?=some bk:=⟨_,List.getElem?_eq_getElem (by omega)⟩
      obtain ⟨r0,er0,e1,_⟩:=hC.c.same _ r er
      have hr0:=hrow r0 (List.mem_of_getElem? er0)
      have hcol:∀(Γ':Ga) (pos p1 p2 p3:Pos) (jj:Nat),Γ'[6]?=some (.im ae k)→Γ'[1]?=some (.ob (bN c cs rs))→True:=fun _ _ _ _ _ _ _ _=>trivial
      refine aj (aK 7 (cK (cK (aa 2 rfl) ak) (rZ 1 (c:=0) (y:=r.1) (iO 1 (aa 6 rfl) rfl rfl (fi kb.1 (by omega)) hbk) rfl (jE (r':=r) hbk er) rfl)) ?_)
      obtain ⟨y,st1,y0,y1,hP1,hS⟩:=bD hP (by omega) (b:=3 * (parts - 1 - r.1) + 1) (by omega) (by omega)
      refine aj (aK 8 (aY 0 CD hr (af (bZ (lq ak (aa 7 rfl) (.inl (by decide))) ak) ao) rfl rfl (hS _)) ?_)
      refine ar (bu (aI dH (aa 8 rfl) (aa 7 rfl)) (fun h=>?_) (fun h=>aU ?_))
      · have h:y < parts - 1 - r.1:=of_decide_eq_true h
        refine ar (ou 1 (y:=r.1 + 1 + y) (bZ (bZ (rZ 1 (c:=0) (y:=r.1) (iO 1 (aa 6 rfl) rfl rfl (fi kb.1 (by omega)) hbk) rfl (jE (r':=r) hbk er) rfl) ak) (aa 8 rfl)) (iO 1 (aa 6 rfl) rfl rfl (fi kb.1 (by omega)) hbk) rfl (jE hbk er) ?_)
        refine ⟨st1,_,_,_,_,rfl,hP1.mono (by omega),⟨hC.c.set er ⟨by omega,by omega⟩,fun q q1 q2=>?_⟩,fun m k' hm hk' r' hr'=>?_⟩
        · obtain ⟨r',hr',e'⟩:=hC.cl q q1 q2
          obtain ⟨j',hj'⟩:=List.mem_iff_getElem?.mp hr'
          refine ⟨r',List.mem_iff_getElem?.mpr ⟨j',?_⟩,e'⟩
          rw [List.getElem?_set_ne (fun z=>?_)];· exact hj'
          subst z
          rw [er] at hj';cases hj'
          have:=hfr i k (Nat.le_refl _) hk r er
          omega
        · have kb':=hK.bd k' (List.mem_of_getElem? hk')
          have:k.toNat≠k'.toNat:=fun z=>by
            have e:k=k':=by omega
            subst e
            have q1:=List.getElem?_eq_some_iff.mp hk
            have q2:=List.getElem?_eq_some_iff.mp hk'
            have:=(List.getElem_inj (h₀:=q1.1) (h₁:=q2.1) hK.nd).mp (q1.2.trans q2.2.symm)
            omega
          rw [List.getElem?_set_ne this] at hr'
          exact hfr m k' (by omega) hk' r' hr'
      · exact ⟨st1,_,_,_,_,rfl,hP1.mono (by omega),hC,fun m k' hm hk' r' hr'=>hfr m k' (by omega) hk' r' hr'⟩
    · rintro Γ ⟨st,rs,v6,v7,v8,rfl,hP,hC,_⟩
      exact ⟨st,rs,rfl,rfl,fun _ _ _=>⟨(),rfl,hP.mono (by omega),hC⟩⟩
end
theorem i2 {es es':List (Int×Int)}{s:Int}(h:∀t∈es,t∈es'){k:Int}(r:Reach es s k):Reach es' s k:=Reach.mono h r
structure BO (k:Nat) (places:List Int) (rs:List Row):Prop where
  len:places.length=k
  part:∀(i:Nat) (m:Int),places[i]?=some m→∃ties,eF m ties∧∀a b,(∃r∈rs,r.1=(i:Int)∧r.2.1=a∧r.2.2.1=b)↔(a,b)∈ties
  row:∀r∈rs,0≤r.1∧r.1 < (k:Int)∧(r.2.2.2= -1∨(r.1 < r.2.2.2∧r.2.2.2 < (k:Int)))
  call:∀i:Nat,0 < i→i < k→∃r∈rs,r.2.2.2=(i:Int)
structure bJ (v:aH):Prop where
  good:BO v.1.length v.1 v.2
  pl:1≤v.1.length∧v.1.length≤4
  rl:1≤v.2.length∧v.2.length≤60
  sz:∀m∈v.1,2≤m∧m≤16
theorem n9 {xs:List Int}{x:Int×Int}:x∈nums xs↔∃i:Nat,x.1=(i:Int)∧xs[i]?=some x.2:=by
  constructor
  · intro h
    obtain ⟨i,hi⟩:=List.mem_iff_getElem?.mp h
    exact ⟨i,jC hi⟩
  · rintro ⟨i,h1,h2⟩
    refine List.mem_iff_getElem?.mpr ⟨i,?_⟩
    unfold nums
    rw [List.getElem?_map,List.getElem?_zipIdx,h2]
    obtain ⟨a,b⟩:=x
    simp at h1
    simp [h1]
theorem all_map {α:Type}{xs:List α}{g:α→Bool}:((xs.filter fun _=>true).map g).all id=true↔∀x∈xs,g x=true:=by
  rw [List.filter_eq_self.mpr (by simp),List.all_map,List.all_eq_true];rfl
structure vd (ns:List Int) (r:Row):Prop where
  p0:0≤r.1
  p1:r.1 < (ns.length:Int)
  s1:r.2.1≠1
  c0: -1≤r.2.2.2
  c1:r.2.2.2 < (ns.length:Int)
  s0:0≤r.2.1
  e0:0≤r.2.2.1
  sn:r.2.1 < ns.getD r.1.toNat 0
  en:r.2.2.1 < ns.getD r.1.toNat 0
  cp:¬(0≤r.2.2.2∧r.2.2.2≤r.1)
theorem sY {ns:List Int}{r:Row}(q:vd ns r):cw ns r=true:=by
  unfold cw
  have:=q.p0;have:=q.p1;have:=q.s1;have:=q.c0;have:=q.c1;have:=q.s0;have:=q.e0;have h1:=q.sn;have h2:=q.en;have:=q.cp
  rw [List.getD_eq_getElem?_getD] at h1 h2
  rw [if_neg (by simp;omega),if_neg (by simp [List.getD_eq_getElem?_getD];omega)]
  simp
  omega
theorem bJ.eN {v:aH}(h:bJ v){r:Row}(hr:r∈v.2):vd v.1 r:=by
  have q:=h.good.row r hr
  obtain ⟨m,hm⟩:∃m,v.1[r.1.toNat]?=some m:=⟨_,List.getElem?_eq_getElem (by omega)⟩
  obtain ⟨ts,hg,hts⟩:=h.good.part _ _ hm
  have b:=hg.bd (r.2.1,r.2.2.1) ((hts _ _).mp ⟨r,hr,by omega,rfl,rfl⟩)
  have e:v.1.getD r.1.toNat 0=m:=by rw [List.getD_eq_getElem?_getD,hm];rfl
  refine ⟨q.1,q.2.1,b.2.2.1,by omega,by omega,b.1,b.2.2.2.1,by rw [e];exact b.2.1,by rw [e];exact b.2.2.2.2,by omega⟩
theorem gx {rs:List Row}{p a b:Int}:(a,b)∈fwd rs p↔∃r∈rs,r.1=p∧r.2.1=a∧r.2.2.1=b:=by
  unfold fwd
  simp only [List.mem_map,List.mem_filter,decide_eq_true_eq,Prod.mk.injEq]
  constructor
  · rintro ⟨r,⟨h1,h2⟩,h3,h4⟩;exact ⟨r,h1,h2,h3,h4⟩
  · rintro ⟨r,h1,h2,h3,h4⟩;exact ⟨r,⟨h1,h2⟩,h3,h4⟩
theorem pS {rs:List Row}{p a b:Int}:(a,b)∈bwd rs p↔∃r∈rs,r.1=p∧r.2.2.1=a∧r.2.1=b:=by
  unfold bwd
  simp only [List.mem_map,List.mem_filter,decide_eq_true_eq,Prod.mk.injEq]
  constructor
  · rintro ⟨r,⟨h1,h2⟩,h3,h4⟩;exact ⟨r,h1,h2,h3,h4⟩
  · rintro ⟨r,h1,h2,h3,h4⟩;exact ⟨r,⟨h1,h2⟩,h3,h4⟩
theorem bJ.toEnd {v:aH}(h:bJ v){i:Nat}{m:Int}(hi:v.1[i]?=some m){k:Int}(k0:0≤k)(k1:k < m):Reach (bwd v.2 i) 1 k:=by
  obtain ⟨ts,hg,hts⟩:=h.good.part i m hi
  refine i2 (fun t ht=>?_) (hg.bw k k0 k1)
  obtain ⟨a,b⟩:=t
  obtain ⟨r,hr,e0,e1,e2⟩:=(hts b a).mpr (fg.mp ht)
  exact pS.mpr ⟨r,hr,e0,e2,e1⟩
theorem bJ.r8 {v:aH}(h:bJ v){i:Nat}{m:Int}(hi:v.1[i]?=some m){k:Int}(k0:0≤k)(k1:k < m):Reach (fwd v.2 i) 0 k:=by
  obtain ⟨ts,hg,hts⟩:=h.good.part i m hi
  refine i2 (fun t ht=>?_) (hg.fw k k0 k1)
  obtain ⟨a,b⟩:=t
  obtain ⟨r,hr,e0,e1,e2⟩:=(hts a b).mpr ht
  exact gx.mpr ⟨r,hr,e0,e1,e2⟩
open Classical in
theorem kH {es:List (Int×Int)}{s n:Int}(hes:∀a b,(a,b)∈es→0≤b∧b < n)(h0:0≤s)(h1:s < n)(h:∀k,0≤k→k < n→Reach es s k):gR es s n=true:=by
  unfold gR
  rw [decide_eq_true_eq]
  refine ⟨ups 0 n.toNat,gY _,fun k=>⟨fun hk=>?_,fun hk=>?_⟩,by rw [aN];omega⟩
  · have:=bE.mp hk
    exact h k (by omega) (by omega)
  · have:0≤k∧k < n:=by
      cases hk with
      | base=>exact ⟨h0,h1⟩
      | step _ m=>exact hes _ _ m
    exact bE.mpr (by omega)
theorem bJ.BC {v:aH}(h:bJ v):eh v=true:=by
  have pl:=h.pl
  have rl:=h.rl
  have hsz:eV v=true:=by
    unfold eV
    rw [if_neg (by simp;omega),all_map]
    intro m hm
    have:=h.sz m hm
    simp;omega
  unfold eh
  rw [if_neg (by rw [hsz];decide)]
  have h2:(List.map (cw v.1) (List.filter (fun _=>true) v.2)).all id=true:=all_map.mpr fun r hr=>sY (h.eN hr)
  rw [if_neg (by rw [h2];decide)]
  have h3:(List.map (called v.2) (List.filter (fun _=>true) (ups (0 + 1) ((v.1.length:Int) - (0 + 1)).toNat))).all id=true:=all_map.mpr fun p hp=>by
    unfold ups at hp
    obtain ⟨k,hk,rfl⟩:=List.mem_map.mp hp
    have hk:=List.mem_range.mp hk
    obtain ⟨r,hr1,hr2⟩:=h.good.call (k + 1) (by omega) (by omega)
    unfold called
    rw [List.filter_eq_self.mpr (by simp),List.any_map,List.any_eq_true]
    exact ⟨r,hr1,by simp [hr2];omega⟩
  rw [if_neg (by rw [h3];decide)]
  refine all_map.mpr fun x hx=>?_
  obtain ⟨i,h1,hi⟩:=n9.mp hx
  have nb:=h.sz _ (List.mem_of_getElem? hi)
  have hd:∀r∈v.2,r.1=(i:Int)→v.1.getD r.1.toNat 0=x.2:=fun r hr hp=>by
    rw [hp,List.getD_eq_getElem?_getD,show ((i:Int)).toNat=i by omega,hi];rfl
  unfold jY
  rw [h1,Bool.and_eq_true]
  refine ⟨kH (fun a b hab=>?_) (by decide) (by omega) fun k k0 k1=>h.r8 hi k0 k1,kH (fun a b hab=>?_) (by decide) (by omega) fun k k0 k1=>h.toEnd hi k0 k1⟩
  · obtain ⟨r,hr,hp,e1,e2⟩:=gx.mp hab
    have q:=h.eN hr
    have q1:=q.en;rw [hd r hr hp] at q1
    rw [← e2];exact ⟨q.e0,q1⟩
  · obtain ⟨r,hr,hp,e1,e2⟩:=pS.mp hab
    have q:=h.eN hr
    have q1:=q.sn;rw [hd r hr hp] at q1
    rw [← e2];exact ⟨q.s0,q1⟩
noncomputable def cL (rs:List Row)(p:Nat):Prop:=∃rk:Int→Int,∀r∈rs,r.1=(p:Int)→rk r.2.1 < rk r.2.2.1
structure f7 (loose:Bool) (i:Nat) (places:List Int) (rs:List Row):Prop where
  len:places.length=i
  sz:∀m∈places,2≤m∧m≤16
  part:∀(p:Nat) (m:Int),places[p]?=some m→∃ties,eF m ties∧∀a b,(∃r∈rs,r.1=(p:Int)∧r.2.1=a∧r.2.2.1=b)↔(a,b)∈ties
  row:∀r∈rs,0≤r.1∧r.1 < (i:Int)∧r.2.2.2= -1
  has:∀p:Nat,p < i→∃(k:Nat) (r:Row),rs[k]?=some r∧r.1=(p:Int)
  up:loose=true→∀p:Nat,p < i→cL rs p
theorem f7.nil (loose:Bool):f7 loose 0 [] []:=⟨rfl,by simp,by simp,by simp,fun p h=>by omega,fun _ p h=>by omega⟩
theorem f7.more {loose:Bool}{i m:Nat}{places:List Int}{rs:List Row}(h:f7 loose i places rs){size:Int}{ties:List (Int×Int)}(hp:jb loose m size ties):f7 loose (i + 1) (places++[size]) (rs++ties.map fun (t:Int×Int)=>((i:Int),t.1,t.2,(-1:Int))):=by
  have hl:=h.len
  have nw:∀r,r∈ties.map (fun (t:Int×Int)=>((i:Int),t.1,t.2,(-1:Int)))↔r.1=(i:Int)∧r.2.2.2= -1∧(r.2.1,r.2.2.1)∈ties:=fun r=>by
    rw [List.mem_map]
    constructor
    · rintro ⟨t,ht,rfl⟩;exact ⟨rfl,rfl,ht⟩
    · rintro ⟨a,b,c⟩
      refine ⟨_,c,?_⟩
      obtain ⟨r1,r2,r3,r4⟩:=r
      simp only at a b
      subst a;subst b;rfl
  refine ⟨by rw [List.length_append,hl];rfl,fun z hz=>?_,fun p z hz=>?_,fun r hr=>?_,fun p hp'=>?_,fun e p hp'=>?_⟩
  · rcases List.mem_append.mp hz with q | q
    · exact h.sz z q
    · rw [List.mem_singleton.mp q];exact ⟨hp.good.m2,hp.le⟩
  · rcases Nat.lt_or_ge p i with pl | pl
    · rw [List.getElem?_append_left (by omega)] at hz
      obtain ⟨ts,g1,g2⟩:=h.part p z hz
      refine ⟨ts,g1,fun a b=>?_⟩
      rw [← g2 a b]
      constructor
      · rintro ⟨r,hr,r1,r2⟩
        rcases List.mem_append.mp hr with q | q
        · exact ⟨r,q,r1,r2⟩
        · have:=((nw r).mp q).1;omega
      · rintro ⟨r,hr,r1⟩;exact ⟨r,List.mem_append_left _ hr,r1⟩
    · have pe:p=i:=by
        have:=(List.getElem?_eq_some_iff.mp hz).1
        rw [List.length_append,hl] at this
        simp at this;omega
      subst pe
      rw [List.getElem?_append_right (by omega),hl,Nat.sub_self] at hz
      have hz:size=z:=by simpa using hz
      subst hz
      refine ⟨ties,hp.good,fun a b=>?_⟩
      constructor
      · rintro ⟨r,hr,r1,r2,r3⟩
        rcases List.mem_append.mp hr with q | q
        · have:=(h.row r q).2.1;omega
        · have:=((nw r).mp q).2.2
          rw [r2,r3] at this;exact this
      · intro hab
        exact ⟨((p:Int),a,b, -1),List.mem_append_right _ ((nw _).mpr ⟨rfl,rfl,hab⟩),rfl,rfl,rfl⟩
  · rcases List.mem_append.mp hr with q | q
    · have:=h.row r q;exact ⟨this.1,by omega,this.2.2⟩
    · have:=(nw r).mp q;exact ⟨by omega,by omega,this.2.1⟩
  · rcases Nat.lt_or_ge p i with pl | pl
    · obtain ⟨k,r,a,b⟩:=h.has p pl
      exact ⟨k,r,by rw [List.getElem?_append_left (List.getElem?_eq_some_iff.mp a).1];exact a,b⟩
    · have pe:p=i:=by omega
      subst pe
      have tl:=hp.len
      have hm:((p:Int),(ties[0]'(by omega)).1,(ties[0]'(by omega)).2,(-1:Int))∈rs++ties.map fun (t:Int×Int)=>((p:Int),t.1,t.2,(-1:Int)):=List.mem_append_right _ (List.mem_map.mpr ⟨_,List.getElem_mem (by omega),rfl⟩)
      obtain ⟨k,hk⟩:=List.mem_iff_getElem?.mp hm
      exact ⟨k,_,hk,rfl⟩
  · rcases Nat.lt_or_ge p i with pl | pl
    · obtain ⟨rk,hrk⟩:=h.up e p pl
      refine ⟨rk,fun r hr r1=>?_⟩
      rcases List.mem_append.mp hr with q | q
      · exact hrk r q r1
      · have:=((nw r).mp q).1;omega
    · have pe:p=i:=by omega
      subst pe
      obtain ⟨rk,hrk⟩:=hp.up e
      refine ⟨rk,fun r hr r1=>?_⟩
      rcases List.mem_append.mp hr with q | q
      · have:=(h.row r q).2.1;omega
      · exact hrk _ ((nw r).mp q).2.2
structure xX (loose:Bool) (v:aH):Prop where
  g:bJ v
  le:v.2.length≤30
  up:loose=true→∀p:Nat,p < v.1.length→cL v.2 p
theorem xK {loose:Bool}{parts:Nat}{places:List Int}{rs0 rs rs':List Row}(h:f7 loose parts places rs0)(p1:1≤parts)(p4:parts≤4)(hc:nW (parts:Int) rs0 rs)(hl:rs0.length≤30)(hm:∀r,r∈rs'↔r∈rs)(hl':rs'.length=rs.length):xX loose (places,rs'):=by
  have hlen:=h.len
  have fw:∀r∈rs,∃r0∈rs0,r.1=r0.1∧r.2.1=r0.2.1∧r.2.2.1=r0.2.2.1:=fun r hr=>by
    obtain ⟨k,hk⟩:=List.mem_iff_getElem?.mp hr
    obtain ⟨r0,a,b⟩:=hc.c.same k r hk
    exact ⟨r0,List.mem_of_getElem? a,b⟩
  have bw:∀r0∈rs0,∃r∈rs,r.1=r0.1∧r.2.1=r0.2.1∧r.2.2.1=r0.2.2.1:=fun r0 hr=>by
    obtain ⟨k,hk⟩:=List.mem_iff_getElem?.mp hr
    have kl:=(List.getElem?_eq_some_iff.mp hk).1
    have kl2:k < rs.length:=by rw [hc.c.len];exact kl
    obtain ⟨r0',a,b⟩:=hc.c.same k _ (List.getElem?_eq_getElem kl2)
    rw [hk] at a;cases a
    exact ⟨_,List.getElem_mem kl2,b⟩
  have n1:1≤rs'.length:=by
    obtain ⟨k,r,a,_⟩:=h.has 0 (by omega)
    have:=(List.getElem?_eq_some_iff.mp a).1
    rw [hl',hc.c.len];omega
  refine ⟨⟨⟨rfl,fun i m hi=>?_,fun r hr=>?_,fun i i0 i1=>?_⟩,by show 1≤places.length∧places.length≤4;omega,by show 1≤rs'.length∧rs'.length≤60;rw [hl',hc.c.len] at *;omega,h.sz⟩,by show rs'.length≤30;rw [hl',hc.c.len];exact hl,fun e p hp=>?_⟩
  · obtain ⟨ties,g1,g2⟩:=h.part i m hi
    refine ⟨ties,g1,fun a b=>?_⟩
    rw [← g2 a b]
    constructor
    · rintro ⟨r,hr,r1,r2,r3⟩
      obtain ⟨r0,h0,e1,e2,e3⟩:=fw r ((hm r).mp hr)
      exact ⟨r0,h0,by omega,by omega,by omega⟩
    · rintro ⟨r0,h0,r1,r2,r3⟩
      obtain ⟨r,hr,e1,e2,e3⟩:=bw r0 h0
      exact ⟨r,(hm r).mpr hr,by omega,by omega,by omega⟩
  · have hr:=(hm r).mp hr
    obtain ⟨r0,h0,e1,_⟩:=fw r hr
    have a:=h.row r0 h0
    have b:=hc.c.ok r hr
    show 0≤r.1∧r.1 < (places.length:Int)∧(r.2.2.2= -1∨(r.1 < r.2.2.2∧r.2.2.2 < (places.length:Int)))
    omega
  · have i1:i < places.length:=i1
    obtain ⟨r,hr,e⟩:=hc.cl i i0 (by omega)
    exact ⟨r,(hm r).mpr hr,e⟩
  · have hp:p < places.length:=hp
    obtain ⟨rk,hrk⟩:=h.up e p (by omega)
    refine ⟨rk,fun r hr r1=>?_⟩
    obtain ⟨r0,h0,e1,e2,e3⟩:=fw r ((hm r).mp hr)
    have:=hrk r0 h0 (by omega)
    rw [e2,e3];exact this
section
variable {P:Program}{w:World}{K:PySem.W.Frag}{mg:Str→Option Value}{base:Heap}{f:Addr}{fd:FuncData}
noncomputable abbrev pI:Stmt:=top o8
noncomputable abbrev yh:List Str:=["_law_purse_here","_law_loose","_law_parts","_law_left","_law_places","_law_rows","_law_part_here","_law_many","_law_size","_law_told"]
theorem Ae:ax yh ["_law_purse_here","_law_loose"] (ah pI):=⟨rfl,rfl,rfl,by decide +kernel,rfl,by decide +kernel,by decide +kernel⟩
noncomputable def CH:gZ Pu:=fun K s ps T=>∃(n:Int) (loose:Bool),cB n s∧n≤1000∧ps=[⟨aO,loose⟩]∧T=fun s'=>bC K bg fun v=>cB (n + 2000) s'∧xX loose v
theorem Bz (M:bU mg)(CD:az P w K mg base "_law_draw" 1 (dy a9 jP K))(CO:az P w K mg base "_law_order" 2 (dy a9 wj K))(CP:az P w K mg base "_law_part" 3 (dy a9 Dj K))(CC:az P w K mg base "_law_called" 2 (qY SCL K))(F:bh K "_law_web" "_law_web" pI f fd)(hm:mg "_law_web"=some (.ref f))(hb:Binds K fd ["_law_purse_here","_law_loose"] []):az P w K mg base "_law_web" 4 (dy a9 CH K):=by
  have nd:=Ae.nd
  have nd1:List.Nodup [("_law_one":Str),"_law_other","_law_part_here"]:=by decide
  have nd2:List.Nodup [("_law_k":Str),"_law_rows"]:=by decide
  have CD:=CD.mono (show 1≤3 by decide)
  have CO:=CO.mono (show 2≤3 by decide)
  have CC:=CC.mono (show 2≤3 by decide)
  refine gN F Ae hm hb (fun xs qs T ⟨_,_,_,_,e,_⟩=>by rw [e];rfl) (fun cdv A outer s H E a b st qs T hr hS=>?_)
  obtain ⟨n,loose,hP,n1,rfl,rfl⟩:=hS
  have n0:0≤n:=Int.le_trans hP.t0 hP.t1
  change WS _ _ [.ob (a9.bx a b st),.im aO loose,.no,.no,.no,.no,.no,.no,.no,.no] _ _
  obtain ⟨d,st1,d0,d1,hP1,hS1⟩:=bD hP (by omega) (b:=4) (by decide) (by decide)
  refine aj (aK 2 (bZ ak (aY 0 CD hr (af ak ao) rfl rfl (hS1 _))) ?_)
  obtain ⟨parts,hparts⟩:∃parts:Nat,1 + d=(parts:Int):=⟨(1 + d).toNat,by omega⟩
  rw [hparts]
  refine aj (aK 3 (cK ak (aa 2 rfl)) ?_)
  refine aj (de 4 (r:=ae) (aB aF (by decide)) (aj (de 5 (r:=ae) (aB aF (by decide)) ?_)))
  refine WS.wM 5 rfl fun c=>?_
  refine aj (du (r:=ae) (fun i Γ=>∃st left places c cs rs v6 v7 v8 v9,Γ=[.ob (a9.bx a b st),.im aO loose,.im ae (parts:Int),.im ae left,.mu ae places,.ob (bN c cs rs),v6,v7,v8,v9]∧cB (n + 1 + 202 * i) st∧f7 loose i places rs∧0≤left∧(rs.length:Int) + left=29 - parts + i)
    (d8 M.range (aa 2 rfl) ⟨by omega,by omega⟩) (aM 6) ⟨st1,_,[],c,[],[],_,_,_,_,rfl,hP1.mono (by omega),f7.nil loose,by omega,by simp⟩ ?_ ?_)
  · rintro i x Γ hx ⟨st,left,places,c,cs,rs,v6,v7,v8,v9,rfl,hP,hW,l0,hl⟩
    obtain ⟨hi,rfl⟩:=ie hx
    have e0:(0:Int) + (i:Int)=(i:Int):=by omega
    rw [e0]
    change WS _ _ [.ob (a9.bx a b st),.im aO loose,.im ae (parts:Int),.im ae left,.mu ae places,.ob (bN c cs rs),.im ae (i:Int),v7,v8,v9] _ _
    obtain ⟨c3,st2,c0,c1,hP2,hS2⟩:=bD hP (by omega) (b:=3) (by decide) (by decide)
    obtain ⟨q,hq,q0,q1⟩:∃q:Int,cA [(4:Int),8,30] c3=some q∧4≤q∧q≤30:=by
      rcases (show c3=0∨c3=1∨c3=2 by omega) with rfl | rfl | rfl
      · exact ⟨4,rfl,by decide,by decide⟩
      · exact ⟨8,rfl,by decide,by decide⟩
      · exact ⟨30,rfl,by decide,by decide⟩
    obtain ⟨y,st3,y0,y1,hP3,hS3⟩:=bD hP2 (by omega) (b:=q) (by omega) (by omega)
    refine aj (aK 7 (wQ M.min (af (aa 3 rfl) (af (aY 0 CD hr (af (bB (aC.im (aB (av ak (av ak (av ak aF))) (by show 3≤sizeLine;decide))) (aY 0 CD hr (af ak ao) rfl rfl (hS2 _)) hq) ao) rfl rfl (hS3 _)) ao))) ?_)
    obtain ⟨m,hm'⟩:∃m:Nat,(if y < left then y else left)=(m:Int):=⟨(if y < left then y else left).toNat,by split<;>omega⟩
    rw [hm']
    have ml:(m:Int)≤left:=by rw [← hm'];split<;>omega
    refine aj (aK 3 (cK (aa 3 rfl) (aa 7 rfl)) ?_)
    refine aj (ky 0 CP hr (af (aa 7 rfl) (af (aa 1 rfl) ao)) rfl rfl ⟨n + 1 + 202 * i + 1 + 1,m,loose,hP3,by omega,rfl,by omega,rfl⟩ (jy 8 9) ?_)
    rintro st4 ⟨size,told⟩ ⟨hP4,hPO⟩
    have tl:told.length=m + 1:=hPO.len
    have wl:=hW.len
    have ple:parts≤4:=by omega
    refine aj (eA 4 (aa 8 rfl) rfl rfl (Nat.lt_of_le_of_lt (show places.length≤100 by omega) (by decide)) ?_)
    refine ar (rz 5 (own:=["_law_one","_law_other"]) (fr:=["_law_part_here"]) (ix:=[6]) (ra:=fz ae) (f:=fun (t:Int×Int)=>((i:Int),t.1,t.2,(-1:Int))) (bc (so:=ah pI) (N0:=yh) rfl rfl (fun x h=>aV h) (by decide +kernel)) (ba (aa 9 rfl))
      (fun C s H ex=>lM 0 1) (fun x=>⟨.inr rfl,.inr rfl,.inl rfl,trivial⟩) (fun x=>⟨trivial,trivial,trivial,trivial⟩) (fun C s H ex x hx=>aB (av (aa 2 rfl) (av (aa 0 rfl) (av (aa 1 rfl) (av (cP ak) aF)))) (by show 4≤sizeLine;decide)) rfl (aP (by show rs.length + told.length≤_;omega)) fun dd bs=>?_)
    exact ⟨st4,_,_,_,_,_,_,_,_,_,rfl,hP4.mono (by omega),hW.more hPO,by omega,by rw [List.length_append,List.length_map];show ((rs.length + told.length:Nat):Int) + _=_;omega⟩
  · rintro Γ ⟨st,left,places,c,cs,rs,v6,v7,v8,v9,rfl,hP,hW,l0,hl⟩
    rw [aN,show ((parts:Int)).toNat=parts by omega] at hP hW hl
    have wl:=hW.len
    refine aj (uw 0 5 CC hr (by decide) (af (aa 2 rfl) ao) rfl rfl ⟨n + 1 + 202 * parts,(parts:Int),hP,by omega,rfl,by omega,by omega,by omega,fun r hr=>hW.row r hr,fun q hq=>hW.has q (by omega),rfl⟩ ?_)
    rintro st1 rs1 ⟨hP1,hC⟩
    have rl:=hC.c.len
    change WS _ _ [.ob (a9.bx a b st1),.im aO loose,.im ae (parts:Int),.im ae left,.mu ae places,.ob (bN c cs rs1),v6,v7,v8,v9] _ _
    refine WS.outer 5 rfl ?_
    refine WS.xP 5 rfl (aP (by omega)) ?_
    change WS _ _ [.ob (a9.bx a b st1),.im aO loose,.im ae (parts:Int),.im ae left,.mu ae places,.im (ag gm) rs1,v6,v7,v8,v9] _ _
    obtain ⟨xs,st2,hP2,hX,hS⟩:=pL hP1 (by omega) (by omega) (m:=rs1.length) (by omega)
    have xl:=hX.len
    have hid:((xs.filter fun _=>true).map fun k=>rs1.getD k.toNat cf)=xs.map fun k=>rs1.getD k.toNat cf:=by rw [List.filter_eq_self.mpr (by simp)]
    refine ar (dP 0 (B:=a9) (y:=(places,xs.map fun k=>rs1.getD k.toNat cf)) (cQ (r:=ag ae) (r':=ag aA) (af (dN 4 rfl (aP (by omega))) (af (EV.cast (aC.im (bj (own:=["_law_k"]) (fr:=["_law_rows"]) (ix:=[5]) (ra:=ae) (rb:=aA) (p:=fun _=>true) (f:=fun k=>rs1.getD k.toNat cf) (bc (so:=ah pI) (N0:=yh) rfl rfl (fun x h=>aV h) (by decide +kernel)) (ba (aY 0 CO hr (af (cj M.len (aa 5 rfl)) ao) rfl rfl (hS _)))
      (fun C s H ex=>aM 0) (fun x=>⟨.inr rfl,.inl rfl,trivial⟩) (fun C s H ex x hx=>bP) (fun C s H ex x hx _=>l8 M.tuple (bB (aa 1 rfl) (aa 0 rfl) (cH cf ((hX.mem x).mp hx).1 ((hX.mem x).mp hx).2))))) hid) ao))) rfl ⟨hP2.mono (by omega),xK hW (by omega) (by omega) hC (by omega) (fun r=>?_) (by rw [List.length_map];exact xl)⟩)
    rw [List.mem_map]
    constructor
    · rintro ⟨k,hk,rfl⟩
      have kb:=(hX.mem k).mp hk
      rw [List.getD_eq_getElem?_getD,List.getElem?_eq_getElem (by omega)]
      exact List.getElem_mem _
    · intro hr'
      obtain ⟨j,hj⟩:=List.mem_iff_getElem?.mp hr'
      have jl:=(List.getElem?_eq_some_iff.mp hj).1
      exact ⟨(j:Int),(hX.mem _).mpr (by omega),by rw [show ((j:Int)).toNat=j by omega,List.getD_eq_getElem?_getD,hj];rfl⟩
end
end K1
namespace Fc
open PySem PySem.Spec L2
open PyProof.Rows hiding St
section
variable {X:Cx}{Γ Γ1 Γ2 Γ3:Ga}{α β γ δ:Type}{N:Ga→Prop}{T:RT}
theorem o5 {a:Expr}{p pos:Pos}{r:Row}(hm:X.mg "list"=none)(ha:EV X a Γ aA r Γ1)(hs:autoParam (starEach [a] X.env=[(false,eval a X.env)]) Fc.ai)(hg:autoParam (Gl X "list") Fc.ai):aC X (.Call (.Name "list" p) [a] [] pos) Γ ae (nH r) Γ1:=fun σ H0 R0 H R E Q q=>by
  refine eS (gd jc hg hm PyProof.Rows.boot_list (aT aL bL hs) (by decide) (by decide) hs) (ha σ H0 R0 H R E _ fun v H1 R1 E1 s1 e1=>?_)
  obtain ⟨b,rfl,hb⟩:=e1
  refine ⟨b,_,rfl,.inr (dE.of (E1.sub _ _ hb)),fun l hl=>?_⟩
  exact q l _ _ R1 (E1.grow (Ext.cV E1.sub hl _)) s1 aD (E1.sub.free hl) (E1.ext.h.free hl) (E1.off hl) (paired_ints (nH r)) (by show 4≤sizeLine;decide)
theorem EV.DN {e:Expr}{r:Row}(h:EV X e Γ (ag ae) (nH r) Γ1):EV X e Γ gm r Γ1:=EV.rep h fun K R q=>by
  obtain ⟨b,vs,e,hb,pp,_⟩:=q
  exact ⟨b,e,by rw [hb,dW pp];rfl⟩
end
end Fc
namespace K1
open PySem L2 Fc
open PySem.Spec hiding Row
open PyProof.Rows hiding St
open PySem.Builtin.Int (intBits)
noncomputable def rowOf (v:aH)(k:Int):Row:=v.2.getD k.toNat cf
section
variable {P:Program}{w:World}{K:PySem.W.Frag}{mg:Str→Option Value}{base:Heap}{f:Addr}{fd:FuncData}
noncomputable abbrev rM:Stmt:=top m8
theorem zB:ax ["_law_web_here"] ["_law_web_here"] (ah rM):=⟨rfl,rfl,rfl,by decide +kernel,rfl,by decide +kernel,by decide +kernel⟩
noncomputable def Cy:bW:=fun K ps T=>∃v:aH,ps=[⟨bg,v⟩]∧T=bC K bg (· =v)
theorem A0 (M:bU mg)(F:bh K "_law_copy" "_law_copy" rM f fd)(hm:mg "_law_copy"=some (.ref f))(hb:Binds K fd ["_law_web_here"] []):az P w K mg base "_law_copy" 1 (aE Cy K):=by
  have nd:=zB.nd
  have nd1:List.Nodup [("_law_row":Str)]:=by decide
  refine bM F zB hm hb (fun qs T ⟨_,e,_⟩=>by rw [e];rfl) (fun cdv A outer s H E qs T hr hS=>?_)
  obtain ⟨v,rfl,rfl⟩:=hS
  change WS _ _ [.im (ay (ag ae) (ag aA)) v] _ _
  have hid:((v.2.filter fun _=>true).map fun r=>r)=v.2:=by rw [List.filter_eq_self.mpr (by simp)];simp
  exact ar (bA (r:=ay (ag ae) (ag aA)) (cQ (af (aC.im (fK M.list (cU (r:=ag ae) (r':=ag aA) (aa 0 rfl)))) (af (EV.cast (aC.im (bj (own:=["_law_row"]) (fr:=[]) (ix:=[]) (ra:=aA) (rb:=aA) (p:=fun _=>true) (f:=fun r=>r) (bc (so:=ah rM) (N0:=["_law_web_here"]) rfl rfl (fun x h=>aV h) (by decide +kernel)) (ba (bI (r:=ag ae) (r':=ag aA) (aa 0 rfl)))
    (fun C s H ex=>aM 0) (fun x=>⟨.inr rfl,trivial⟩) (fun C s H ex x hx=>bP) (fun C s H ex x hx _=>l8 M.tuple (EV.DN (aC.im (o5 M.list (aa 0 rfl))))))) hid) ao))) rfl)
end
section
variable {P:Program}{w:World}{K:PySem.W.Frag}{mg:Str→Option Value}{base:Heap}{f:Addr}{fd:FuncData}
noncomputable abbrev pU:Stmt:=top oF
noncomputable abbrev wc:List Str:=["_law_web_here","_law_part_here","_law_place"]
theorem yx:ax wc wc (ah pU):=⟨rfl,rfl,rfl,by decide +kernel,rfl,by decide +kernel,by decide +kernel⟩
noncomputable def fromF (v:aH)(p q:Int):List Int:=(ups 0 v.2.length).filter fun k=>decide (((rowOf v k).1,(rowOf v k).2.1)=(p,q))
noncomputable def sD:bW:=fun K ps T=>∃(v:aH) (p q:Int),ps=[⟨bg,v⟩,⟨ae,p⟩,⟨ae,q⟩]∧v.2.length≤60∧T=bC K (ag ae) (· =fromF v p q)
theorem Bn (M:bU mg)(F:bh K "_law_from" "_law_from" pU f fd)(hm:mg "_law_from"=some (.ref f))(hb:Binds K fd wc []):az P w K mg base "_law_from" 1 (aE sD K):=by
  have nd:=yx.nd
  have nd1:List.Nodup [("_law_k":Str),"_law_part_here","_law_place","_law_web_here"]:=by decide
  refine bM F yx hm hb (fun qs T ⟨_,_,_,e,_⟩=>by rw [e];rfl) (fun cdv A outer s H E qs T hr hS=>?_)
  obtain ⟨v,p,q,rfl,rl,rfl⟩:=hS
  have hu:(A.deeper (envOfC "_law_from" (ah pU) s.heap.objs.size f cdv)).units + 1 < cLine:=Nat.lt_of_le_of_lt (Nat.add_le_add_left (by decide:1≤64) _) hr.units
  change WS _ _ [.im (ay (ag ae) (ag aA)) v,.im ae p,.im ae q] _ _
  have el:((v.2.length:Int)).toNat=v.2.length:=by omega
  have hid:(((ups 0 ((v.2.length:Int)).toNat).filter fun k=>decide (((rowOf v k).1,(rowOf v k).2.1)=(p,q))).map fun k=>k)=fromF v p q:=by rw [el];simp [fromF]
  exact ar (bA (EV.cast (aC.im (bj (own:=["_law_k"]) (fr:=["_law_part_here","_law_place","_law_web_here"]) (ix:=[1,2,0]) (ra:=ae) (rb:=ae) (p:=fun k=>decide (((rowOf v k).1,(rowOf v k).2.1)=(p,q))) (f:=fun k=>k) (bc (so:=ah pU) (N0:=wc) rfl rfl (fun x h=>aV h) (by decide +kernel)) (d8 M.range (cj M.len (bI (aa 0 rfl))) ⟨by omega,by omega⟩)
    (fun C s H ex=>aM 0) (fun x=>⟨.inr rfl,.inl rfl,.inl rfl,.inl rfl,trivial⟩)
    (fun C s H ex x hx=>gD (aI (y:=(p,q)) (wC eq_int eq_int hu hu) (vh (bB (bI (aa 3 rfl)) (aa 0 rfl) (cH cf (by have:=bE.mp hx;omega) (by have:=bE.mp hx;omega)))) (cQ (af (aa 1 rfl) (af (aa 2 rfl) ao)))))
    (fun C s H ex x hx _=>aa 0 rfl))) hid) rfl)
end
end K1
namespace Fc
open PySem PySem.Spec L2
open PyProof.Rows hiding St
section
variable {X:Cx}{Γ Γ1 Γ2 Γ3:Ga}{α β γ δ:Type}{N:Ga→Prop}{T:RT}
end
end Fc
namespace K1
open PySem L2 Fc
open PySem.Spec hiding Row
open PyProof.Rows hiding St
open PySem.Builtin.Int (intBits)
section
variable {P:Program}{w:World}{K:PySem.W.Frag}{mg:Str→Option Value}{base:Heap}{f:Addr}{fd:FuncData}
end
end K1
namespace Fc
open PySem PySem.Spec L2
open PyProof.Rows hiding St
section
variable {X:Cx}{Γ Γ1 Γ2 Γ3:Ga}{α β γ δ:Type}{N:Ga→Prop}{T:RT}
theorem pP {a b:Expr}{pos:Pos}{F:List (Int×Int)}{k:Int}(hu:X.A.units + 1 < cLine)(ha:EV X a Γ ae k Γ1)(hb:EV X b Γ1 jk F Γ2)(hm:behindInMarks .In b=false:=by first | exact kW _ | with_unfolding_all rfl):EV X (.Compare a [.In] [b] pos) Γ aO (bX F k).isSome Γ2:=by
  intro σ H0 R0 H R E Q q
  refine eS (tN (oH hu aL aL) hm) (ha σ H0 R0 H R E _ fun v H1 R1 E1 s1 e1=>hb σ H0 R0 H1 R1 E1 _ fun u H2 R2 E2 s2 e2=>?_)
  cases e1
  obtain ⟨p,rfl,hp⟩:=e2
  refine ⟨p,_,rfl,eZ.k (k:=Sum.inl k) (E2.sub _ _ hp),?_⟩
  rw [iB,ig]
  exact q _ H2 R2 E2 (s1.trans s2) rfl
theorem nk {a:Expr}{p pos:Pos}{F:List (Int×Int)}(hm:X.mg "len"=none)(ha:EV X a Γ jk F Γ1)(hs:autoParam (starEach [a] X.env=[(false,eval a X.env)]) Fc.ai)(hg:autoParam (Gl X "len") Fc.ai):EV X (.Call (.Name "len" p) [a] [] pos) Γ ae (F.length:Int) Γ1:=
  EV.cast (lS (kvs:=da F) hm (EV.rep ha fun _ _ q=>q) hs hg) (by unfold da;rw [List.length_map])
theorem jD {i:Nat}{F:List (Int×Int)}(hΓ:Γ[i]?=some (.di (da F)))(σ:St)(H0 R0 H R:Hp)(E:aq X.K σ H0 R0 H R Γ):aq X.K σ H H H H ((Γ.map kM).set i (.im jk F)):=by
  obtain ⟨a,ea,ha,hR⟩:=E.ent i _ hΓ
  exact E.frz.jv (i:=i) (e0:=.no) (by rw [List.getElem?_map,hΓ];rfl) ⟨.ref a,ea,a,rfl,ha⟩ fun b w=>by cases w
end
end Fc
namespace K1
open PySem L2 Fc
open PySem.Spec hiding Row
open PyProof.Rows hiding St
open PySem.Builtin.Int (intBits)
theorem uj {a b:Option Int}(h:a.map V.int=b.map V.int):a=b:=by
  cases a<;>cases b<;>simp at h<;>simp [h]
theorem uU (F:List (Int×Int))(k v j:Int):bX (h8 F k v) j=if j=k then some v else bX F j:=by
  have h:=va (cM (da F)) (Sum.inl k:Key) (Sum.inl j) (.int v)
  rw [tI,gE,gE] at h
  apply uj
  rw [h]
  by_cases e:j=k
  · rw [if_pos (by rw [e]),if_pos e];rfl
  · rw [if_neg (fun z=>e (Sum.inl.inj z)),if_neg e]
theorem gQ {F:List (Int×Int)}{k:Int}:(bX F k).isSome=true↔k∈F.map (·.1):=by
  unfold bX
  rw [Option.isSome_map,List.find?_isSome]
  simp only [decide_eq_true_eq,List.mem_map]
theorem nX (rk:Int→Int):∀(l:List Int),l≠[]→∃x∈l,∀y∈l,rk y≤rk x
  | [],h=>absurd rfl h
  | [a],_=>⟨a,by simp,fun y hy=>by rw [List.mem_singleton.mp hy];exact Int.le_refl _⟩
  | a::b::l,_=>by
    obtain ⟨x,hx,h⟩:=nX rk (b::l) (by simp)
    by_cases z:rk a≤rk x
    · exact ⟨x,List.mem_cons_of_mem _ hx,fun y hy=>by
        rcases List.mem_cons.mp hy with rfl | hy
        · exact z
        · exact h y hy⟩
    · exact ⟨a,List.mem_cons_self,fun y hy=>by
        rcases List.mem_cons.mp hy with rfl | hy
        · exact Int.le_refl _
        · have:=h y hy;omega⟩
noncomputable def cu (v:aH)(k:Int):Int:=(rowOf v k).2.2.1
noncomputable def goal (v:aH)(p q:Int):List Int:=(fromF v p q).map (cu v)
structure eL (v:aH) (p:Int) (g:Int→Int):Prop where
  one:g 1=1
  step:∀q,0≤q→q < v.1.getD p.toNat 0→q≠1→g q=((goal v p q).map g).sum
theorem cC {v:aH}{p q k:Int}(h:k∈fromF v p q):0≤k∧k < (v.2.length:Int)∧(rowOf v k).1=p∧(rowOf v k).2.1=q∧rowOf v k∈v.2:=by
  unfold fromF at h
  obtain ⟨h1,h2⟩:=List.mem_filter.mp h
  have kb:=bE.mp h1
  have h2:=of_decide_eq_true h2
  refine ⟨kb.1,kb.2,congrArg Prod.fst h2,congrArg Prod.snd h2,?_⟩
  unfold rowOf
  rw [List.getD_eq_getElem?_getD,List.getElem?_eq_getElem (by omega)]
  exact List.getElem_mem _
theorem ki {v:aH}(hv:bJ v){p q z:Int}(h:z∈goal v p q):0≤z∧z < v.1.getD p.toNat 0∧q≠1∧∃r∈v.2,r.1=p∧r.2.1=q∧r.2.2.1=z:=by
  obtain ⟨k,hk,rfl⟩:=List.mem_map.mp h
  obtain ⟨_,_,h1,h2,h3⟩:=cC hk
  have r:=hv.eN h3
  have a:=r.e0;have b:=r.en;have c:=r.s1
  rw [h1] at b
  rw [h2] at c
  exact ⟨a,b,c,_,h3,h1,h2,rfl⟩
theorem eL.uniq {v:aH}(hv:bJ v){p:Int}(p0:0≤p)(hr:cL v.2 p.toNat){g g':Int→Int}(h:eL v p g)(h':eL v p g'):∀q,0≤q→q < v.1.getD p.toNat 0→g q=g' q:=by
  obtain ⟨rk,hrk⟩:=hr
  intro q q0 q1
  refine Classical.byContradiction fun ne=>?_
  have hne:((ups 0 (v.1.getD p.toNat 0).toNat).filter fun z=>decide (g z≠g' z))≠[]:=fun e=>by
    have:q∈(ups 0 (v.1.getD p.toNat 0).toNat).filter fun z=>decide (g z≠g' z):=List.mem_filter.mpr ⟨bE.mpr ⟨q0,by omega⟩,decide_eq_true ne⟩
    rw [e] at this;cases this
  obtain ⟨x,hx,hmax⟩:=nX rk _ hne
  obtain ⟨x1,x2⟩:=List.mem_filter.mp hx
  have xb:=bE.mp x1
  have x2:g x≠g' x:=of_decide_eq_true x2
  have xn:x≠1:=fun e=>x2 (by rw [e,h.one,h'.one])
  refine x2 ?_
  rw [h.step x xb.1 (by omega) xn,h'.step x xb.1 (by omega) xn]
  congr 1
  refine List.map_congr_left fun z hz=>Classical.byContradiction fun nz=>?_
  obtain ⟨a,b,_,r,r0,r1,r2,r3⟩:=ki hv hz
  have:=hmax z (List.mem_filter.mpr ⟨bE.mpr ⟨a,by omega⟩,decide_eq_true nz⟩)
  have:=hrk r r0 (by omega)
  rw [r2,r3] at this
  omega
noncomputable def gF (F:List (Int×Int))(q:Int):Int:=(bX F q).getD 0
structure dw (v:aH) (p:Int) (F:List (Int×Int)):Prop where
  one:bX F 1=some 1
  nd:(F.map (·.1)).Nodup
  bd:∀q∈F.map (·.1),0≤q∧q < v.1.getD p.toNat 0
  ok:∀q,q∈F.map (·.1)→q≠1→(∀z∈goal v p q,z∈F.map (·.1))∧gF F q=((goal v p q).map (gF F)).sum
theorem j4 {F:List (Int×Int)}{k y:Int}(hk:k∉F.map (·.1))(z:Int):bX (F++[(k,y)]) z=if z=k then some y else bX F z:=by
  have hn:(bX F k).isSome=false:=by
    cases e:(bX F k).isSome with
    | false=>rfl
    | true=>exact absurd (gQ.mp e) hk
  have:=uU F k y z
  unfold h8 at this
  rw [hn] at this
  simpa using this
theorem dw.add {v:aH}{p:Int}{F:List (Int×Int)}(h:dw v p F){q:Int}(hq:q∉F.map (·.1))(q0:0≤q)(q1:q < v.1.getD p.toNat 0)(hg:∀z∈goal v p q,z∈F.map (·.1)):dw v p (F++[(q,((goal v p q).map (gF F)).sum)]):=by
  have keep:∀z,z∈F.map (·.1)→gF (F++[(q,((goal v p q).map (gF F)).sum)]) z=gF F z:=fun z hz=>by
    unfold gF
    rw [j4 hq,if_neg (show¬z=q from fun e=>hq (e▸hz))]
  have one:(1:Int)∈F.map (·.1):=gQ.mp (by rw [h.one];rfl)
  have mp:(F++[(q,((goal v p q).map (gF F)).sum)]).map (·.1)=F.map (·.1)++[q]:=by rw [List.map_append];rfl
  refine ⟨?_,?_,fun z hz=>?_,fun z hz zn=>?_⟩
  · rw [j4 hq,if_neg (show¬(1:Int)=q from fun e=>hq (e▸one))];exact h.one
  · rw [mp];exact ik h.nd hq
  · rw [mp] at hz
    rcases List.mem_append.mp hz with w | w
    · exact h.bd z w
    · rw [List.mem_singleton.mp w];exact ⟨q0,q1⟩
  · rw [mp] at hz ⊢
    rcases List.mem_append.mp hz with w | w
    · obtain ⟨a,b⟩:=h.ok z w zn
      refine ⟨fun y hy=>List.mem_append_left _ (a y hy),?_⟩
      rw [keep z w,b]
      congr 1
      exact List.map_congr_left fun y hy=>(keep y (a y hy)).symm
    · rw [List.mem_singleton.mp w]
      refine ⟨fun y hy=>List.mem_append_left _ (hg y hy),?_⟩
      have e:gF (F++[(q,((goal v p q).map (gF F)).sum)]) q=((goal v p q).map (gF F)).sum:=by unfold gF;rw [j4 hq,if_pos rfl];rfl
      rw [e]
      congr 1
      exact List.map_congr_left fun y hy=>(keep y (hg y hy)).symm
theorem dw.le {v:aH}{p:Int}{F:List (Int×Int)}(h:dw v p F)(hs:0≤v.1.getD p.toNat 0):(F.length:Int)≤v.1.getD p.toNat 0:=by
  have:=d9 (F.map (·.1)) (ups 0 (v.1.getD p.toNat 0).toNat) h.nd fun x hx=>bE.mpr (by have:=h.bd x hx;omega)
  rw [List.length_map,aN] at this
  omega
theorem dw.all {v:aH}{p:Int}{F:List (Int×Int)}(h:dw v p F)(hs:v.1.getD p.toNat 0≤(F.length:Int)):∀q,0≤q→q < v.1.getD p.toNat 0→q∈F.map (·.1):=by
  intro q q0 q1
  refine Classical.byContradiction fun no=>?_
  have:=d9 (q::F.map (·.1)) (ups 0 (v.1.getD p.toNat 0).toNat) (List.nodup_cons.mpr ⟨no,h.nd⟩) fun x hx=>by
    rcases List.mem_cons.mp hx with rfl | hx
    · exact bE.mpr (by omega)
    · exact bE.mpr (by have:=h.bd x hx;omega)
  rw [List.length_cons,List.length_map,aN] at this
  omega
theorem dw.eq {v:aH}{p:Int}{F:List (Int×Int)}(h:dw v p F)(hs:v.1.getD p.toNat 0≤(F.length:Int)):eL v p (gF F):=by
  refine ⟨by unfold gF;rw [h.one];rfl,fun q q0 q1 qn=>(h.ok q (h.all hs q q0 q1) qn).2⟩
theorem dw.next {v:aH}(hv:bJ v){p:Int}(p0:0≤p)(hr:cL v.2 p.toNat){F:List (Int×Int)}(h:dw v p F)(hs:(F.length:Int) < v.1.getD p.toNat 0):∃q,0≤q∧q < v.1.getD p.toNat 0∧q∉F.map (·.1)∧∀z∈goal v p q,z∈F.map (·.1):=by
  obtain ⟨rk,hrk⟩:=hr
  have hne:((ups 0 (v.1.getD p.toNat 0).toNat).filter fun z=>decide (z∉F.map (·.1)))≠[]:=fun e=>by
    have all:∀z∈ups 0 (v.1.getD p.toNat 0).toNat,z∈F.map (·.1):=fun z hz=>Classical.byContradiction fun no=>by
      have:z∈(ups 0 (v.1.getD p.toNat 0).toNat).filter fun z=>decide (z∉F.map (·.1)):=List.mem_filter.mpr ⟨hz,decide_eq_true no⟩
      rw [e] at this;cases this
    have:=d9 _ _ (gY _) all
    rw [aN,List.length_map] at this
    omega
  obtain ⟨x,hx,hmax⟩:=nX rk _ hne
  obtain ⟨x1,x2⟩:=List.mem_filter.mp hx
  have xb:=bE.mp x1
  refine ⟨x,xb.1,by omega,of_decide_eq_true x2,fun z hz=>Classical.byContradiction fun no=>?_⟩
  obtain ⟨a,b,_,r,r0,r1,r2,r3⟩:=ki hv hz
  have:=hmax z (List.mem_filter.mpr ⟨bE.mpr ⟨a,by omega⟩,decide_eq_true no⟩)
  have:=hrk r r0 (by omega)
  rw [r2,r3] at this
  omega
section
variable {P:Program}{w:World}{K:PySem.W.Frag}{mg:Str→Option Value}{base:Heap}{f:Addr}{fd:FuncData}
noncomputable abbrev ma:Stmt:=top qM
noncomputable abbrev vx:List Str:=["_law_web_here","_law_part_here","_law_on_here","_law_place","_law_goals"]
theorem z4:ax vx ["_law_web_here","_law_part_here"] (ah ma):=⟨rfl,rfl,rfl,by decide +kernel,rfl,by decide +kernel,by decide +kernel⟩
noncomputable def nS:bW:=fun K ps T=>∃(v:aH) (p:Int),ps=[⟨bg,v⟩,⟨ae,p⟩]∧bJ v∧0≤p∧p < (v.1.length:Int)∧cL v.2 p.toNat∧T=bC K jk (fun F=>dw v p F∧v.1.getD p.toNat 0≤(F.length:Int))
theorem Bq    (M:bU mg)(CF:az P w K mg base "_law_from" 1 (aE sD K))(F:bh K "_law_on" "_law_on" ma f fd)(hm:mg "_law_on"=some (.ref f))(hb:Binds K fd ["_law_web_here","_law_part_here"] []):az P w K mg base "_law_on" 2 (aE nS K):=by
  have nd:=z4.nd
  have nd1:List.Nodup [("_law_k":Str),"_law_web_here"]:=by decide
  have nd2:List.Nodup [("_law_goal":Str),"_law_on_here"]:=by decide
  refine bM F z4 hm hb (fun qs T ⟨_,_,e,_⟩=>by rw [e];rfl) (fun cdv A outer s H E qs T hr hS=>?_)
  obtain ⟨v,p,rfl,hv,p0,p1,hR,rfl⟩:=hS
  have hu:(A.deeper (envOfC "_law_on" (ah ma) s.heap.objs.size f cdv)).units + 1 < cLine:=Nat.lt_of_le_of_lt (Nat.add_le_add_left (by decide:1≤64) _) hr.units
  have pl:=hv.pl
  have rl:=hv.rl
  have hs:=hv.sz (v.1.getD p.toNat 0) (by rw [List.getD_eq_getElem?_getD,List.getElem?_eq_getElem (by omega)];exact List.getElem_mem _)
  change WS _ _ [.im (ay (ag ae) (ag aA)) v,.im ae p,.no,.no,.no] _ _
  refine aj (lJ 2 rS dQ ?_)
  have o0:dw v p [(1,1)]:=⟨rfl,by simp,fun q hq=>by (have:q=1:=by simpa using hq);omega,fun q hq qn=>absurd (show q=1 by simpa using hq) qn⟩
  refine aj (gu (fun m Γ=>∃F v3 v4,Γ=[.im (ay (ag ae) (ag aA)) v,.im ae p,.di (da F),v3,v4]∧dw v p F∧m=(v.1.getD p.toNat 0 - (F.length:Int)).toNat) ⟨[(1,1)],_,_,rfl,o0,rfl⟩ ?_)
  rintro m Γ ⟨F,v3,v4,rfl,hO,rfl⟩
  have hle:=hO.le (by omega)
  refine ⟨_,_,TV.frz (jD (i:=2) rfl) (aI dH (nk M.len (aa 2 rfl)) (bB (cU (aa 0 rfl)) (aa 1 rfl) (cD p0 p1))),fun h=>?_,fun h=>?_⟩
  · have h : (F.length:Int) < v.1.getD p.toNat 0:=of_decide_eq_true h
    obtain ⟨qs,s0,s1,sn,sg⟩:=hO.next hv p0 hR h
    refine ar (du (r:=ae) (fun i Γ=>∃G v3 v4,Γ=[.im (ay (ag ae) (ag aA)) v,.im ae p,.di (da G),v3,v4]∧dw v p G∧(∀z∈F.map (·.1),z∈G.map (·.1))∧F.length≤G.length∧(qs < (i:Int)→F.length < G.length))
      (d8 M.range (bB (cU (aa 0 rfl)) (aa 1 rfl) (cD p0 p1)) ⟨by omega,by omega⟩) (aM 3) ⟨F,_,_,rfl,hO,fun z hz=>hz,Nat.le_refl _,fun e=>by omega⟩ ?_ ?_)
    · rintro i q Γ hq ⟨G,v3,v4,rfl,hG,hsub,hfl,hq1⟩
      have qb:=bE.mp (List.mem_of_getElem? hq)
      obtain ⟨hi,eq⟩:=ie hq
      have hid:((((fromF v p q).filter fun _=>true).map fun k=>(rowOf v k).2.2.1))=goal v p q:=by rw [List.filter_eq_self.mpr (by simp)];rfl
      have hk:∀k∈fromF v p q,cA v.2 k=some (rowOf v k):=fun k hk=>cH cf (cC hk).1 (cC hk).2.1
      refine aj (tP 4 (own:=["_law_k"]) (fr:=["_law_web_here"]) (ix:=[0]) (ra:=ae) (rb:=ae) (p:=fun _=>true) (f:=fun k=>(rowOf v k).2.2.1) (bc (so:=ah ma) (N0:=vx) rfl rfl (fun x h=>aV h) (by decide +kernel)) (ba (aW CF hr (af (aa 0 rfl) (af (aa 1 rfl) (af (aa 3 rfl) ao))) ⟨v,p,q,rfl,by omega,rfl⟩))
        (fun C s H ex=>aM 0) (fun x=>⟨.inr rfl,.inl rfl,trivial⟩) (fun C s H ex x hx=>bP) (fun C s H ex x hx _=>dh (bB (bI (aa 1 rfl)) (aa 0 rfl) (hk x hx))) ?_)
      rw [hid]
      have gl:(goal v p q).length≤60:=by
        unfold goal fromF
        rw [List.length_map]
        refine Nat.le_trans (List.length_filter_le _ _) ?_
        rw [aN];omega
      refine WS.freeze 4 rfl (aP (by omega)) ?_
      change WS _ _ [.im (ay (ag ae) (ag aA)) v,.im ae p,.di (da G),.im ae q,.im (ag ae) (goal v p q)] _ _
      have mem:∀z,(bX G z).isSome=true↔z∈G.map (·.1):=fun z=>gQ
      have hglen:=hG.le (by omega)
      refine ar (bu (TW.tv (gB (lF 2 true hu (aa 3 rfl) rfl) (fun _=>gw (TV.frz (jD (i:=2) rfl) (aZ (ee M.all (aC.im (bj (own:=["_law_goal"]) (fr:=["_law_on_here"]) (ix:=[2]) (ra:=ae) (rb:=aO) (p:=fun _=>true) (f:=fun z=>(bX G z).isSome) (bc (so:=ah ma) (N0:=vx) rfl rfl (fun x h=>aV h) (by decide +kernel)) (ba (aa 4 rfl))
        (fun C s H ex=>aM 0) (fun x=>⟨.inr rfl,.inl rfl,trivial⟩) (fun C s H ex x hx=>bP) (fun C s H ex x hx _=>pP hu (aa 0 rfl) (aa 1 rfl)))))))))) (fun h=>?_) (fun h=>aU ?_))
      · obtain ⟨h1,h2⟩:=Bool.and_eq_true_iff.mp h
        have h1:q∉G.map (·.1):=fun w=>by
          have:=(mem q).mpr w
          rw [← ig] at this
          simp [this] at h1
        have h2:∀z∈goal v p q,z∈G.map (·.1):=fun z hz=>by
          rw [List.all_eq_true] at h2
          exact (mem z).mp (h2 _ (List.mem_map.mpr ⟨z,List.mem_filter.mpr ⟨hz,rfl⟩,rfl⟩))
        have hg2:∀z∈goal v p q,bX G z=some (gF G z):=fun z hz=>by
          have:=(mem z).mpr (h2 z hz)
          unfold gF
          cases e:bX G z with
          | none=>rw [e] at this;cases this
          | some y=>rfl
        have hid2:(((goal v p q).filter fun _=>true).map fun z=>gF G z).sum=((goal v p q).map (gF G)).sum:=by rw [List.filter_eq_self.mpr (by simp)]
        refine ar (rK 2 hu (aa 3 rfl) (EV.frz (jD (i:=2) rfl) (fun _ _ _ _ _ h=>h) (EV.cast (oj M.sum (aC.im (bj (own:=["_law_goal"]) (fr:=["_law_on_here"]) (ix:=[2]) (ra:=ae) (rb:=ae) (p:=fun _=>true) (f:=fun z=>gF G z) (bc (so:=ah ma) (N0:=vx) rfl rfl (fun x h=>aV h) (by decide +kernel)) (ba (aa 4 rfl))
          (fun C s H ex=>aM 0) (fun x=>⟨.inr rfl,.inl rfl,trivial⟩) (fun C s H ex x hx=>bP) (fun C s H ex x hx _=>nU hu (aa 1 rfl) (aa 0 rfl) (hg2 x hx))))) hid2)) rfl (Nat.lt_of_le_of_lt (show G.length≤1000 by omega) (by decide)) ?_)
        have ep:h8 G q ((goal v p q).map (gF G)).sum=G++[(q,((goal v p q).map (gF G)).sum)]:=by
          unfold h8
          rw [if_neg (fun e=>h1 ((mem q).mp e))]
        refine ⟨G++[(q,((goal v p q).map (gF G)).sum)],_,_,by rw [ep];rfl,hG.add h1 qb.1 (by omega) h2,fun z hz=>?_,by rw [List.length_append];omega,fun _=>by rw [List.length_append];simp;omega⟩
        rw [List.map_append];exact List.mem_append_left _ (hsub z hz)
      · refine ⟨G,_,_,rfl,hG,hsub,hfl,fun hlt=>?_⟩
        by_cases e:qs < (i:Int)
        · exact hq1 e
        · have eqq:q=qs:=by omega
          subst eqq
          -- it stands there already
          have hin:q∈G.map (·.1):=Classical.byContradiction fun no=>by
            have a1:(if true=true then !fm (da G) q else fm (da G) q)=true:=by
              rw [if_pos rfl,ig]
              cases e2:(bX G q).isSome with
              | false=>rfl
              | true=>exact absurd ((mem q).mp e2) no
            have a2:((((goal v p q).filter fun _=>true).map fun z=>(bX G z).isSome).all id)=true:=by
              rw [List.all_eq_true]
              intro y hy
              obtain ⟨z,hz,rfl⟩:=List.mem_map.mp hy
              exact (mem z).mpr (hsub z (sg z (List.mem_filter.mp hz).1))
            rw [a1,a2] at h
            exact absurd h (by decide)
          have:=d9 (q::F.map (·.1)) (G.map (·.1)) (List.nodup_cons.mpr ⟨sn,hO.nd⟩) fun x hx=>by
            rcases List.mem_cons.mp hx with rfl | hx
            · exact hin
            · exact hsub x hx
          rw [List.length_cons,List.length_map,List.length_map] at this
          omega
    · rintro Γ ⟨G,v3,v4,rfl,hG,_,_,hq1⟩
      rw [aN] at hq1
      have:=hq1 (by omega)
      have:=hG.le (by omega)
      exact ⟨_,by omega,G,_,_,rfl,hG,rfl⟩
  · have h:¬(F.length:Int) < v.1.getD p.toNat 0:=of_decide_eq_false h
    exact ar (pN 2 rfl ⟨hO,by omega⟩)
end
noncomputable def cG (v:aH)(p:Int)(g:Int→Int)(k:Int):Int:=if (rowOf v k).1=p then (((fromF v p (rowOf v k).2.1).filter fun j=>decide (j < k)).map fun j=>g (cu v j)).sum else 0
noncomputable def dt (v:aH)(p:Int)(g:Int→Int):List Int:=(ups 0 v.2.length).map (cG v p g)
theorem mq (v:aH)(p q:Int):(fromF v p q).Pairwise (· < ·):=by
  unfold fromF
  exact (nM _).filter _
theorem before {v:aH}{p q:Int}{i:Nat}{k:Int}(h:(fromF v p q)[i]?=some k):(fromF v p q).filter (fun j=>decide (j < k))=(fromF v p q).take i:=by
  have hp:=mq v p q
  generalize fromF v p q=l at h hp
  induction l generalizing i with
  | nil=>simp at h
  | cons a l ih=>
    obtain ⟨h1,h2⟩:=List.pairwise_cons.mp hp
    cases i with
    | zero=>
      have e:a=k:=by simpa using h
      subst e
      rw [List.take_zero,List.filter_eq_nil_iff]
      intro x hx
      rcases List.mem_cons.mp hx with rfl | hx
      · simp
      · have:=h1 x hx;simp;omega
    | succ i=>
      have h:l[i]?=some k:=by simpa using h
      have:=h1 k (List.mem_of_getElem? h)
      rw [List.filter_cons,decide_eq_true (show a < k by omega),if_pos rfl,List.take_succ_cons,ih h h2]
structure rf (v:aH) (p:Int) (g:Int→Int) (n:Int) (q:Int) (i:Nat) (xs:List Int):Prop where
  len:xs.length=v.2.length
  val:∀k,0≤k→k < (v.2.length:Int)→xs.getD k.toNat 0=if (rowOf v k).1=p∧((rowOf v k).2.1 < n∨((rowOf v k).2.1=q∧k∈(fromF v p q).take i)) then cG v p g k else 0
section
variable {P:Program}{w:World}{K:PySem.W.Frag}{mg:Str→Option Value}{base:Heap}{f:Addr}{fd:FuncData}
noncomputable def CJ:bW:=fun K ps T=>∃(v:aH) (p:Int),ps=[⟨bg,v⟩,⟨ae,p⟩]∧bJ v∧0≤p∧p < (v.1.length:Int)∧cL v.2 p.toNat∧T=bC K ae (fun n=>∃g,eL v p g∧n=g 0)
noncomputable def k6:bW:=fun K ps T=>∃(v:aH) (p:Int),ps=[⟨bg,v⟩,⟨ae,p⟩]∧bJ v∧0≤p∧p < (v.1.length:Int)∧cL v.2 p.toNat∧T=jm K ae (fun ws=>∃g,eL v p g∧ws=dt v p g)
theorem hZ {X:Cx}{Γ Γ1:Ga}{N:Ga→Prop}{T:RT}(i:Nat){S:bW}{x y:Str}{k:Nat}{e:Expr}{es:List Expr}{p p1 p2 pos:Pos}{ps:List Pk}{r:Rep Int}{Pd:List Int→Prop}(C:az X.prog X.w X.K X.mg X.base x k (aE S X.K))(hr:bt k X.A)(ha:HA X (e::es) Γ ps Γ1)(hS:S X.K ps (jm X.K r Pd))(h:∀ys,Pd ys→ys.length≤sizeLine→N (Γ1.set i (.mu r ys)))
    (hg:autoParam (Gl X x) Fc.ai) (hdb:autoParam ((x==("__debug__":Str))=false) Fc.aw) (he:autoParam (starEach (e::es) X.env=(false,eval e X.env)::starEach es X.env) Fc.ai) (hpl:autoParam ((backTo p2 (starEach es X.env)).any (·.1)=false) Fc.ai)
    (hN:autoParam (X.N.Nodup) Fc.dY) (hi:autoParam (X.N[i]?=some y) Fc.ai) (hx:autoParam (Loc X.env.scope y) Fc.dA)
    (hs:autoParam (swapsWith (.Call (.Name x p) (e::es) [] p2) (some (.Name y p1)) pos.line X.env=pure false) Fc.ai) (hf:autoParam (X.fn y=true∨X.env.scope.names.lookup y=some .local) Fc.fZ):
    W1 X (.Assign [.Name y p1] (.Call (.Name x p) (e::es) [] p2) pos) Γ N T:=fun σ H0 R0 H R E D dn dr=>
  sS (fv hN hi hx aL hs hf) (dv C hr ha hS E (fun H1 R1 v H' R' E1 s1 xx t=>by
    obtain ⟨a,vs,ys,rfl,h0,h1,h2,p,z,hP⟩:=t
    have E2:=E1.grow xx
    exact dn _ H' R' _ (E2.setG (v:=.ref a) (en:=.mu r ys) i ⟨a,vs,rfl,h1,h2,p⟩ (fun c hc=>by rw [show c=a by have:=c8.mp (show c∈refOf (some (.ref a)) from hc);cases this;rfl];exact E1.ext.h.free h0) fun c hc j e _ qj w=>by
      have:c=a:=by have:=c8.mp (show c∈refOf (some (.ref a)) from hc);cases this;rfl
      subst this
      exact (Ent.cX (E1.ent j e qj) w).1 h0) (s1.trans xx.r) (h ys hP z)) hg hdb he hpl)
theorem fq {X:Cx}{Γ Γ1:Ga}{S:bW}{x:Str}{k:Nat}{e b:Expr}{es:List Expr}{p p2 pos:Pos}{ps:List Pk}{Pd:List (Int×Int)→Prop}{kk y:Int}(hu:X.A.units + 1 < cLine)(C:az X.prog X.w X.K X.mg X.base x k (aE S X.K))(hr:bt k X.A)(ha:HA X (e::es) Γ ps Γ1)(hS:S X.K ps (bC X.K jk Pd))(hb:EV X b Γ1 ae kk Γ1)(h:∀F,Pd F→bX F kk=some y)
    (hg:autoParam (Gl X x) Fc.ai) (hdb:autoParam ((x==("__debug__":Str))=false) Fc.aw) (he:autoParam (starEach (e::es) X.env=(false,eval e X.env)::starEach es X.env) Fc.ai) (hpl:autoParam ((backTo p2 (starEach es X.env)).any (·.1)=false) Fc.ai) (hs:autoParam (qC b) Fc.nr):EV X (.Subscript (.Call (.Name x p) (e::es) [] p2) b pos) Γ ae y Γ1:=fun σ H0 R0 H R E Q q=>
  eS (pM hu aL aL hs) (dv C hr ha hS E (fun H1 R1 v H' R' E1 s1 xx t=>by
    obtain ⟨F,e1,hF⟩:=t
    refine hb σ H0 R0 H' R' (E1.grow xx) _ fun u H2 R2 E2 s2 e2=>?_
    obtain ⟨a,rfl,hp⟩:=jk.mono s2 e1
    cases e2
    have g:=eZ.k (k:=Sum.inl kk) (E2.sub _ _ hp)
    rw [gE,h F hF] at g
    exact ⟨a,_,rfl,g,q _ H2 R2 E2 (s1.trans (xx.r.trans s2)) rfl⟩) hg hdb he hpl)
end
end K1
namespace Fc
open PySem PySem.Spec L2
open PyProof.Rows hiding St
section
variable {X:Cx}{Γ Γ1 Γ2 Γ3:Ga}{α β γ δ:Type}{N:Ga→Prop}{T:RT}
end
section
variable {X:Cx}{Γ Γ1 Γ2 Γ3:Ga}{α β γ δ:Type}{N:Ga→Prop}{T:RT}
noncomputable def fC (K:PySem.W.Frag)(r:Rep α)(H R:Hp)(as:List Addr)(xss:List (List α)):Prop:=as.length=xss.length∧∀(i:Nat) (b:Addr) (xs:List α),as[i]?=some b→xss[i]?=some xs→∃ws,H b=some (.lst ws)∧PySem.Paired (r.R K R) ws xs
theorem fC.one {K:PySem.W.Frag}{r:Rep α}{H R:Hp}{as:List Addr}{xss:List (List α)}(h:fC K r H R as xss){b:Addr}(hb:b∈as):∃ws,H b=some (.lst ws):=by
  obtain ⟨i,hi,rfl⟩:=List.mem_iff_getElem.mp hb
  obtain ⟨ws,h1,_⟩:=h.2 i _ _ (List.getElem?_eq_getElem hi) (List.getElem?_eq_getElem (by rw [← h.1];exact hi))
  exact ⟨ws,h1⟩
theorem fC.loc {K:PySem.W.Frag}{r:Rep α}{H R H' R':Hp}{as:List Addr}{xss:List (List α)}(h:fC K r H R as xss)(e:∀a∈as,H' a=H a)(s:au R R'):fC K r H' R' as xss:=
  ⟨h.1,fun i b xs h1 h2=>by
    obtain ⟨ws,q1,q2⟩:=h.2 i b xs h1 h2
    exact ⟨ws,(e b (List.mem_of_getElem? h1)).trans q1,Paired.map (fun _ _=>r.mono s) q2⟩⟩
theorem fC.put {K:PySem.W.Frag}{r:Rep α}{H R:Hp}{as:List Addr}{xss:List (List α)}(h:fC K r H R as xss)(nd:as.Nodup){j:Nat}{b:Addr}{xs:List α}{ws:List V}(hb:as[j]?=some b)(hp:PySem.Paired (r.R K R) ws xs):fC K r (upd H b (.lst ws)) R as (xss.set j xs):=by
  refine ⟨by rw [List.length_set];exact h.1,fun i c q h1 h2=>?_⟩
  by_cases hij:i=j
  · subst hij
    rw [hb] at h1;cases h1
    have hl:i < xss.length:=by rw [← h.1];exact (List.getElem?_eq_some_iff.mp hb).1
    rw [List.getElem?_set_self hl] at h2;cases h2
    exact ⟨ws,aD,hp⟩
  · rw [List.getElem?_set_ne (Ne.symm hij)] at h2
    have:c≠b:=fun z=>by
      subst z
      have l1:=(List.getElem?_eq_some_iff.mp h1)
      have l2:=(List.getElem?_eq_some_iff.mp hb)
      exact hij ((List.getElem_inj (h₀:=l1.1) (h₁:=l2.1) nd).mp (l1.2.trans l2.2.symm))
    rw [aJ this];exact h.2 i c q h1 h2
theorem fC.snoc {K:PySem.W.Frag}{r:Rep α}{H R:Hp}{as:List Addr}{xss:List (List α)}(h:fC K r H R as xss){b:Addr}{xs:List α}{ws:List V}(hb:H b=some (.lst ws))(hp:PySem.Paired (r.R K R) ws xs):fC K r H R (as++[b]) (xss++[xs]):=by
  refine ⟨by rw [List.length_append,List.length_append,h.1];rfl,fun i c q h1 h2=>?_⟩
  rcases Nat.lt_or_ge i as.length with hl | hl
  · rw [List.getElem?_append_left hl] at h1
    rw [List.getElem?_append_left (by rw [← h.1];exact hl)] at h2
    exact h.2 i c q h1 h2
  · rw [List.getElem?_append_right hl] at h1
    rw [List.getElem?_append_right (by rw [← h.1];exact hl)] at h2
    have e:i - as.length=0:=by
      have:=(List.getElem?_eq_some_iff.mp h1).1
      simp at this;omega
    rw [e] at h1
    rw [← h.1,e] at h2
    simp at h1 h2
    rw [← h1,← h2];exact ⟨ws,hb,hp⟩
noncomputable def kX (r:Rep α)(a:Addr)(as:List Addr)(xss:List (List α)):i5 where
  fp:=a::as
  R:=fun K H R v=>v= .ref a∧H a=some (.lst (as.map .ref))∧fC K r H R as xss∧(a::as).Nodup
  loc:=fun hH hR ⟨e,h1,h2,h3⟩=>⟨e,(hH a List.mem_cons_self).trans h1,h2.loc (fun b hb=>hH b (List.mem_cons_of_mem _ hb)) hR,h3⟩
  has :=fun ⟨e,h1,h2,h3⟩ b hb=>by
    rcases List.mem_cons.mp hb with rfl | hb
    · rw [h1];exact Option.some_ne_none _
    · obtain ⟨r,hr⟩:=h2.one hb
      rw [hr];exact Option.some_ne_none _
theorem z3 {as:List Addr}{k:Int}{j:Nat}{b:Addr}(hk:f6 as.length k=some j)(hb:as[j]?=some b):cA (as.map V.ref) k=some (.ref b):=by
  unfold cA
  rw [List.length_map,hk]
  show (as.map V.ref)[j]?=_
  rw [List.getElem?_map,hb];rfl
theorem AL (i:Nat){x:Str}{b:Expr}{p1 p2:Pos}{r:Rep α}{a:Addr}{as:List Addr}{xss:List (List α)}{k:Int}{j:Nat}{σ:St}{H0 R0 H R:Hp}{Q:VK}(hb:EV X b Γ ae k Γ)(hΓ:Γ[i]?=some (.ob (kX r a as xss)))(hk:f6 xss.length k=some j)(E:aq X.K σ H0 R0 H R Γ)
    (q:∀c H' R',aq X.K σ H0 R0 H' R' Γ→au R R'→as[j]?=some c→Q (.ref c) H')
    (hN:X.N[i]?=some x) (hv:ck X.env.scope x) (hd:(x==("__debug__":Str))=false) (hcd:(x==("__classdict__":Str))=false) (hsx:fO b):dG X (.Subscript (.Name x p1) b p2) σ H Q:=by
  obtain ⟨⟨v,ea,rfl,ha,hr,_⟩,hR⟩:=E.ent i _ hΓ
  refine eS (fP eG (br hN hv hd hcd) aL hsx) ⟨.ref a,at_of ea,hb σ H0 R0 H R E _ fun u H2 R2 E2 s2 e2=>?_⟩
  obtain ⟨⟨v,ea2,e3,ha2,hr2,nd⟩,hR2⟩:=E2.ent i _ hΓ
  have hl:j < as.length:=by rw [hr2.1];exact (lG hk).2.1
  exact ⟨a,_,k,.ref as[j],rfl,e2,bq.of ha2,z3 (by rw [hr2.1];exact hk) (List.getElem?_eq_getElem hl),q _ H2 R2 E2 s2 (List.getElem?_eq_getElem hl)⟩
theorem qu (i:Nat){x:Str}{b e:Expr}{p1 p2 ap cp pos:Pos}{r:Rep α}{a:Addr}{as:List Addr}{xss:List (List α)}{xs:List α}{k:Int}{j:Nat}{y:α}(hb:EV X b Γ ae k Γ)(he:EV X e Γ r y Γ)(hΓ:Γ[i]?=some (.ob (kX r a as xss)))(hk:f6 xss.length k=some j)(hx:xss[j]?=some xs)(hz:xs.length < sizeLine)(h:N (Γ.set i (.ob (kX r a as (xss.set j (xs++[y]))))))
    (hN:autoParam (X.N[i]?=some x) Fc.ai) (hv:autoParam (ck X.env.scope x) Fc.bO)
    (hd:autoParam ((x==("__debug__":Str))=false) Fc.aw) (hcd:autoParam ((x==("__classdict__":Str))=false) Fc.aw) (hsx:autoParam (fO b) Fc.nr)
    (hsw:autoParam (swapsWith (.Call (.Attribute (.Subscript (.Name x p1) b p2) "append" ap) [e] [] cp) none pos.line X.env=pure false) Fc.ai)
    (hbase:autoParam (attributeBase (.Subscript (.Name x p1) b p2) "append" X.env (eval (.Subscript (.Name x p1) b p2) X.env)=eval (.Subscript (.Name x p1) b p2) X.env) Fc.ai)
    (hfew:autoParam (((backTo cp (starEach [e] X.env)).all (fun x=> !x.1)&&(backToKw cp (keywordEach [] X.env)).all (fun x=>x.1.isSome)
      &&decide ([e].length + ([]:List Keyword).length + (if ([]:List Keyword).isEmpty then 0 else 1) < 30))=true) Fc.ai)
    (hline:autoParam ((ap.endLine==cp.line)=true) Fc.ai) (hs:autoParam (starEach [e] X.env=(false,eval e X.env)::starEach [] X.env) Fc.ai):W1 X (.Expr (.Call (.Attribute (.Subscript (.Name x p1) b p2) "append" ap) [e] [] cp) pos) Γ N T:=fun σ H0 R0 H R E D dn dr=>by
  refine sS (fc (kR PySem.F.plainAttrs_list PySem.F.slot_list_append PySem.F.type_list_append mx aL (aT aL bL hs) hbase hfew hline hs rfl) hsw) ?_
  refine AL i hb hΓ hk E (fun c H1 R1 E1 s1 hc=>?_) hN hv hd hcd hsx
  obtain ⟨⟨v,ea1,rfl,ha1,hr1,nd1⟩,hR1⟩:=E1.ent i _ hΓ
  obtain ⟨ws1,q1,q2⟩:=hr1.2 j c xs hc hx
  refine ⟨.inl ⟨rfl,_,bq.of q1⟩,he σ H0 R0 H1 R1 E1 _ fun u H2 R2 E2 s2 e2=>?_⟩
  obtain ⟨⟨v,ea2,rfl,ha2,hr2,nd2⟩,hR2⟩:=E2.ent i _ hΓ
  obtain ⟨ws2,q1,q2⟩:=hr2.2 j c xs hc hx
  obtain ⟨n1,n2⟩:=List.nodup_cons.mp nd2
  have cm:c∈as:=List.mem_of_getElem? hc
  refine ⟨c,ws2,u,rfl,rfl,q1,by rw [q2.length];exact hz,?_⟩
  refine dn σ _ R2 _ (E2.nv (en:=.ob (kX r a as (xss.set j (xs++[y])))) hΓ (List.mem_cons_of_mem _ cm) ⟨⟨.ref a,ea2,rfl,?_,hr2.put n2 hc (cI q2 (.cons e2 .nil)),nd2⟩,hR2⟩ fun c w=>.inl w) (s1.trans s2) h
  rw [aJ (show a≠c from fun z=>n1 (z▸cm))];exact ha2
noncomputable def Ct (K:PySem.W.Frag)(r:Rep α)(P:List (List α)→Prop):RT:=fun H0 v H' R'=>∃a as xss,v= .ref a∧(∀b∈a::as,H0 b=none∧R' b=none)∧H' a=some (.lst (as.map .ref))∧fC K r H' R' as xss∧(a::as).Nodup∧P xss
theorem yX (i:Nat){x:Str}{p1 pos:Pos}{r:Rep α}{P:List (List α)→Prop}{a:Addr}{as:List Addr}{xss:List (List α)}(hΓ:Γ[i]?=some (.ob (kX r a as xss)))(h:P xss)(hN:autoParam (X.N[i]?=some x) Fc.ai)(hv:autoParam (ck X.env.scope x) Fc.bO)
    (hd:autoParam ((x==("__debug__":Str))=false) Fc.aw) (hcd:autoParam ((x==("__classdict__":Str))=false) Fc.aw):W1 X (.Return (some (.Name x p1)) pos) Γ N (Ct X.K r P):=fun σ H0 R0 H R E D dn dr=>by
  obtain ⟨⟨v,ea,rfl,ha,hr,nd⟩,hR⟩:=E.ent i _ hΓ
  exact sS (dO (br hN hv hd hcd)) ⟨.ref a,at_of ea,dr _ H R E.ext ⟨a,as,xss,rfl,fun b hb=>⟨E.nw i _ b hΓ hb,hR b hb⟩,ha,hr,nd,h⟩⟩
noncomputable def h7 (R H:Hp)(l:List Addr):Hp:=fun b=>if b∈l then H b else R b
theorem xi (i:Nat){x:Str}{p1 pos:Pos}{r:Rep α}{P:List (List α)→Prop}{a:Addr}{as:List Addr}{xss:List (List α)}(hΓ:Γ[i]?=some (.ob (kX r a as xss)))(hz:xss.length≤sizeLine)(hzi:∀xs∈xss,xs.length≤sizeLine)(h:P xss)(hN:autoParam (X.N[i]?=some x) Fc.ai)(hv:autoParam (ck X.env.scope x) Fc.bO)
    (hd:autoParam ((x==("__debug__":Str))=false) Fc.aw) (hcd:autoParam ((x==("__classdict__":Str))=false) Fc.aw):W1 X (.Return (some (.Name x p1)) pos) Γ N (jm X.K (ag r) P):=fun σ H0 R0 H R E D dn dr=>by
  obtain ⟨⟨v,ea,rfl,ha,hr,nd⟩,hR⟩:=E.ent i _ hΓ
  obtain ⟨n1,n2⟩:=List.nodup_cons.mp nd
  have sR:au R (h7 R H as):=fun b o q=>by
    unfold h7
    split
    · rename_i hb
      rw [hR b (List.mem_cons_of_mem _ hb)] at q;cases q
    · exact q
  have sH:au (h7 R H as) H:=fun b o q=>by
    unfold h7 at q
    split at q
    · exact q
    · exact E.sub b o q
  have pr :PySem.Paired ((ag r).R X.K (h7 R H as)) (as.map .ref) xss:=by
    have key:∀(bs:List Addr) (yss:List (List α)),(∀b∈bs,b∈as)→fC X.K r H R bs yss→(∀xs∈yss,xs.length≤sizeLine)→PySem.Paired ((ag r).R X.K (h7 R H as)) (bs.map .ref) yss:=by
      intro bs
      induction bs with
      | nil=>intro yss _ h _;cases yss with
        | nil=>exact .nil
        | cons _ _=>exact absurd h.1 (by simp)
      | cons b bs ih=>intro yss hm h hz;cases yss with
        | nil=>exact absurd h.1 (by simp)
        | cons ys yss=>
          obtain ⟨ws,q1,q2⟩:=h.2 0 b ys rfl rfl
          refine .cons ⟨b,ws,rfl,?_,Paired.map (fun _ _=>r.mono sR) q2,hz ys List.mem_cons_self⟩ (ih yss (fun c hc=>hm c (List.mem_cons_of_mem _ hc)) ⟨by simpa using h.1,fun i c xs h1 h2=>h.2 (i + 1) c xs (by simpa using h1) (by simpa using h2)⟩ fun xs hx=>hz xs (List.mem_cons_of_mem _ hx))
          unfold h7
          rw [if_pos (hm b List.mem_cons_self)];exact q1
    exact key as xss (fun _ h=>h) hr hzi
  refine sS (dO (br hN hv hd hcd)) ⟨.ref a,at_of ea,dr _ H (h7 R H as) ⟨E.ext.h,E.ext.r.trans sR,sH,fun b hb=>?_⟩ ⟨a,_,xss,rfl,E.nw i _ a hΓ List.mem_cons_self,ha,?_,pr,hz,h⟩⟩
  · unfold h7
    rw [if_neg fun z=>hb (E.nw i _ b hΓ (List.mem_cons_of_mem _ z))]
    exact E.ext.old b hb
  · unfold h7
    rw [if_neg n1];exact hR a List.mem_cons_self
end
noncomputable def FlE:Ent→Prop
  | .no=>True
  | .im _ _=>True
  | _=>False
noncomputable def nc:Ga→Prop
  | []=>True
  | e::r=>FlE e∧nc r
theorem nc.fp:∀{Γ:Ga},nc Γ→∀(i:Nat) (e:Ent),Γ[i]?=some e→∀o,e.fp o=[]
  | e::_,⟨h,_⟩,0,_,q,o=>by
    cases q
    cases e with
    | no=>rfl
    | im _ _=>rfl
    | mu _ _=>exact h.elim
    | di _=>exact h.elim
    | ob _=>exact h.elim
  | _::r,⟨_,h⟩,i + 1,e,q,o=>nc.fp h i e (by simpa using q) o
  | [],_,i,e,q,o=>by simp at q
theorem aq.vZ {K:PySem.W.Frag}{σ:St}{H0 R0 H R:Hp}{Γ:Ga}(E:aq K σ H0 R0 H R Γ)(fl:nc Γ):aq K σ H R H R Γ:=
  ⟨⟨au.refl _,au.refl _,E.sub,fun _ _=>rfl⟩,E.ent,(fun i e a q w=>by rw [fl.fp i e q] at w;cases w),(fun i j e e' a q q' w w'=>by rw [fl.fp i e q] at w;cases w),E.len⟩
section
variable {X:Cx}{Γ Γ1 Γ2 Γ3:Ga}{α β γ δ:Type}{N:Ga→Prop}{T:RT}
noncomputable def yJ (X:Cx)(e:Expr)(Γ:Ga){α:Type}(r:Rep α)(P:List α→Prop)(Γ':Ga):Prop:=
  ∀(σ:St) (H0 R0 H R:Hp),aq X.K σ H0 R0 H R Γ→∀Q:VK,(∀a vs ys H' R',aq X.K σ H0 R0 H' R' Γ'→au R R'→H' a=some (.lst vs)→R' a=none→H0 a=none→Off a σ Γ'→PySem.Paired (r.R X.K R') vs ys→ys.length≤sizeLine→P ys→Q (.ref a) H')→dG X e σ H Q
theorem aC.evr {e:Expr}{r:Rep α}{ys:List α}{P:List α→Prop}(h:aC X e Γ r ys Γ1)(hp:P ys):yJ X e Γ r P Γ1:=fun σ H0 R0 H R E Q q=>h σ H0 R0 H R E Q fun a vs H' R' E' s' h1 h2 h3 h4 h5 h6=>q a vs ys H' R' E' s' h1 h2 h3 h4 h5 h6 hp
theorem qQ {tg elt:Expr}{scope:Scope}{cl:List (Str×Addr)}{own fr:List Str}{ix:List Nat}{ra:Rep α}{rb:Rep β}{xs:List α}{P:α→List β→Prop}{bf:α→Ga→Ga}{J:It}{σ:St}{H0 R0 H1 R1:Hp}{Q:VK}(E1:aq X.K σ H0 R0 H1 R1 Γ1)(src:Src X.K J R1 ra xs)(hz:xs.length≤sizeLine)
    (hb:∀(C:Addr) (s:Shared) (H:Hp) (ex:List Addr),BG (aG X scope cl C (own++fr) s H ex) tg ra bf) (hw:∀x,Wk (bf x (bQ own ix Γ1)) (bQ own ix Γ1)) (hfl:∀x,nc (bf x (bQ own ix Γ1)))
    (he:∀(C:Addr) (s:Shared) (H:Hp) (ex:List Addr) x,x∈xs→yJ (aG X scope cl C (own++fr) s H ex) elt (bf x (bQ own ix Γ1)) rb (P x) (bf x (bQ own ix Γ1)))
    (q:∀a bs yss H' R',Ext H1 R1 H' R'→H' a=none→fC X.K rb H' R' bs yss→bs.Nodup→(∀b∈bs,H1 b=none∧R' b=none)→PySem.Paired P xs yss→(∀ys∈yss,ys.length≤sizeLine)→Q (.ref a) (upd H' a (.lst (bs.map .ref)))):
    ∃ W :Nat→Nat→List V→St→Hp→Prop,(∃m,W 0 m [] (eJ own ix σ) H1)∧∀i m ys σ' H',W i m ys σ' H'→
      ys.length≤sizeLine∧((J.stop i H'∧∀p,H' p=none→Q (.ref p) (upd H' p (.lst ys)))∨
      (J.go i H'∧∀x H2,J.yld i H' x H2→(fun v σ H Q=>∀C s Hh ex,gU (aG X scope cl C (own++fr) s Hh ex) tg v σ H Q:TG) x σ' H2 fun σ2 H3=>(fun σ H Q=>∀C s Hh ex,ic (aG X scope cl C (own++fr) s Hh ex) [] σ H Q:TT) σ2 H3 fun b H4=>
        if b=true then (fun σ H Q=>∀C s Hh ex,dG (aG X scope cl C (own++fr) s Hh ex) elt σ H Q:TE) σ2 H4 fun v H5=>∃m',m' < m∧W (i + 1) m' (ys++[v]) σ2 H5 else∃m',m' < m∧W (i + 1) m' ys σ2 H4)):=by
  refine ⟨fun i m ys σ' H'=>m=xs.length - i∧i≤xs.length∧∃R' bs yss,aq X.K σ' H1 R1 H' R' (bQ own ix Γ1)∧ys=bs.map .ref∧fC X.K rb H' R' bs yss∧bs.Nodup∧(∀b∈bs,H1 b=none∧R' b=none)∧PySem.Paired P (xs.take i) yss∧∀ys∈yss,ys.length≤sizeLine,⟨_,rfl,Nat.zero_le _,R1,[],[],jZ E1 own ix,rfl,⟨rfl,fun i b r h1=>by simp at h1⟩,List.nodup_nil,(fun b hb=>by cases hb),(.nil:PySem.Paired P [] []),(fun ys hy=>by cases hy)⟩,?_⟩
  rintro i m ys σ' H' ⟨rfl,hle,R',bs,yss,E',rfl,hrs,hnd,hbs,pq,hsz⟩
  have hbl:bs.length=i:=by rw [hrs.1,← pq.length,List.length_take];omega
  have hys:(bs.map V.ref).length≤sizeLine:=by rw [List.length_map,hbl];omega
  obtain ⟨sgo,sstop⟩:=src H' R' E'.ext.r E'.sub i
  refine ⟨hys,?_⟩
  by_cases hlt:i < xs.length
  · obtain ⟨go,yl⟩:=sgo _ (List.getElem?_eq_getElem hlt)
    have hmem:xs[i]∈xs:=List.getElem_mem hlt
    have tk:(xs.take (i + 1))=xs.take i++[xs[i]]:=by rw [List.take_succ,List.getElem?_eq_getElem hlt];rfl
    refine .inr ⟨go,fun v H2 hy C s Hh ex=>?_⟩
    obtain ⟨R2,x2,hr⟩:=yl v H2 hy
    refine hb C s Hh ex σ' H1 R1 H2 R2 _ v _ (E'.grow x2) hr _ fun σ2 E2=>?_
    intro C s Hh ex
    refine (bP (X:=aG X scope cl C (own++fr) s Hh ex)) σ2 H2 R2 H2 R2 (E2.vZ (hfl _)) _ fun H4 R4 E4 s4=>?_
    rw [if_pos rfl]
    intro C s Hh ex
    refine he C s Hh ex _ hmem σ2 H4 R4 H4 R4 (E4.vZ (hfl _)) _ fun a vs zs H5 R5 E5 s5 ha hR h0 off pp hz' hP=>?_
    have x5:Ext H' R' H5 R5:=x2.trans (E4.ext.trans E5.ext)
    have x25:Ext H2 R2 H5 R5:=E4.ext.trans E5.ext
    have hin:∀b∈bs,H' b≠none:=fun b hb=>by
      obtain ⟨r,hr⟩:=hrs.one hb
      rw [hr];exact Option.some_ne_none _
    have hold:∀b∈bs,b≠a:=fun b hb e=>by
      have:H4 b≠none:=au.some (x2.h.trans E4.ext.h) (hin b hb)
      exact this (e▸h0)
    refine ⟨xs.length - (i + 1),by omega,rfl,hlt,R5,bs++[a],yss++[zs],(E2.grow x25).weak (hw _),by rw [List.map_append];rfl,?_,?_,fun b hb=>?_,?_,fun ys hy=>?_⟩
    · refine fC.snoc (fC.loc hrs (fun c hc=>?_) x5.r) ha pp
      cases e:H' c with
      | none=>exact absurd e (hin c hc)
      | some u=>exact x5.h c u e
    · exact ik hnd fun z=>hold a z rfl
    · rcases List.mem_append.mp hb with z | z
      · exact ⟨(hbs b z).1,(x5.old b (hin b z)).trans (hbs b z).2⟩
      · rw [List.mem_singleton.mp z]
        exact ⟨(E'.ext.h.trans (x2.h.trans E4.ext.h)).free h0,hR⟩
    · rw [tk]
      exact cI pq (.cons hP .nil)
    · rcases List.mem_append.mp hy with z | z
      · exact hsz ys z
      · rw [List.mem_singleton.mp z];exact hz'
  · have e:i=xs.length:=by omega
    subst e
    rw [List.take_length] at pq
    exact .inl ⟨sstop (Nat.le_refl _),fun a ha=>q a bs yss H' R' E'.ext ha hrs hnd hbs pq hsz⟩
theorem xa (i:Nat){y:Str}{py spos:Pos}{tg elt iter:Expr}{scope:Scope}{pos:Pos}{cl:List (Str×Addr)}{own fr:List Str}{ix:List Nat}{ra:Rep α}{rb:Rep β}{xs:List α}{P:α→List β→Prop}{bf:α→Ga→Ga}
    (S:cO X scope cl own fr ix) (hit:IV X tg iter Γ ra xs Γ1)
    (hb:∀(C:Addr) (s:Shared) (H:Hp) (ex:List Addr),BG (aG X scope cl C (own++fr) s H ex) tg ra bf) (hw:∀x,Wk (bf x (bQ own ix Γ1)) (bQ own ix Γ1)) (hfl:∀x,nc (bf x (bQ own ix Γ1)))
    (he:∀(C:Addr) (s:Shared) (H:Hp) (ex:List Addr) x,x∈xs→yJ (aG X scope cl C (own++fr) s H ex) elt (bf x (bQ own ix Γ1)) rb (P x) (bf x (bQ own ix Γ1)))
    (h:∀a bs yss,PySem.Paired P xs yss→(∀ys∈yss,ys.length≤sizeLine)→N (Γ1.set i (.ob (kX rb a bs yss))))
    (hsw:autoParam (swapsWith (.ListComp elt [⟨tg,iter,[],0⟩] scope pos) (some (.Name y py)) spos.line X.env=pure true) Fc.ai)
    (hN:autoParam (X.N.Nodup) Fc.dY) (hi':X.N[i]?=some y:=by rfl) (hx:autoParam (Loc X.env.scope y) Fc.dA)
    (hc:autoParam (X.calm=true) Fc.ai) (hs:autoParam (∀x,foldedSetIterable iter X.env x=pure x) Fc.cZ) (hf:autoParam (X.fn y=true∨X.env.scope.names.lookup y=some .local) Fc.fZ):
    W1 X (.Assign [.Name y py] (.ListComp elt [⟨tg,iter,[],0⟩] scope pos) spos) Γ N T:=fun σ H0 R0 H R E D dn dr=>by
  obtain ⟨wi,hi,hit⟩:=hit
  refine sS (iK (i:=i) (g:=fun v σ H Q=>∀C s Hh ex,gU (aG X scope cl C (own++fr) s Hh ex) tg v σ H Q) (tc:=fun σ H Q=>∀C s Hh ex,ic (aG X scope cl C (own++fr) s Hh ex) [] σ H Q) (te:=fun σ H Q=>∀C s Hh ex,dG (aG X scope cl C (own++fr) s Hh ex) elt σ H Q) hsw hN hi' hx hc S hi
    (fun C s H ex=>⟨fun pins s1 σ H v u Q I r h=>h C s _ ex pins s1 u I r,fun pins s1 σ H Q I h=>h C s _ ex pins s1 I,fun pins s1 σ H Q I h=>h C s _ ex pins s1 I⟩) hs hf) ?_
  refine hit σ H0 R0 H R E _ fun J H1 R1 E1 s1 hz src=>qQ (Q:=fun v H'=>D.nx (σ.set i (some v)) H') E1 src hz hb hw hfl he fun a bs yss H' R' xx ha hg hnd hbs pq hsz=>?_
  have E2:=E1.grow xx
  have E3:=E2.grow (Ext.cV E2.sub ha (.lst (bs.map .ref)))
  have inb:∀c∈bs,H' c≠none:=fun c hc=>by
    obtain ⟨r,hr⟩:=hg.one hc
    rw [hr];exact Option.some_ne_none _
  have nab:a∉bs:=fun z=>inb a z ha
  refine dn _ _ R' _ (E3.setG (en:=.ob (kX rb a bs yss)) i ⟨⟨.ref a,rfl,rfl,aD,hg.loc (fun c hc=>aJ fun z=>nab (z▸hc)) (au.refl _),List.nodup_cons.mpr ⟨nab,hnd⟩⟩,fun b hb=>?_⟩ (fun b hb=>?_) fun b hb j e _ qj w=>?_) (s1.trans xx.r) (h a bs yss pq hsz)
  · rcases List.mem_cons.mp hb with rfl | hb
    · exact E2.sub.free ha
    · exact (hbs b hb).2
  · rcases List.mem_cons.mp hb with rfl | hb
    · exact E2.ext.h.free ha
    · exact E1.ext.h.free (hbs b hb).1
  · rcases List.mem_cons.mp hb with rfl | hb
    · exact E2.off ha j e qj w
    · exact (Ent.cX (E1.ent j e qj) w).1 (hbs b hb).1
end
section
variable {X:Cx}{Γ Γ1 Γ2 Γ3:Ga}{α β γ δ:Type}{N:Ga→Prop}{T:RT}
theorem yw (i:Nat){x:Str}{e:Expr}{p1 pos:Pos}{a c:Int}(he:EV X e Γ ae c Γ)(hΓ:Γ[i]?=some (.im ae a))(h:N (Γ.set i (.im ae (a + c))))
    (hN:autoParam (X.N.Nodup) Fc.dY) (hi:autoParam (X.N[i]?=some x) Fc.ai) (hx:autoParam (Loc X.env.scope x) Fc.dA)
    (hf:autoParam (X.fn x=true∨X.env.scope.names.lookup x=some .local) Fc.fZ):
    W1 X (.AugAssign (.Name x p1) .Add e pos) Γ N T:=fun σ H0 R0 H R E D dn dr=>by
  obtain ⟨v,ea,hr⟩:=E.ent i _ hΓ
  cases (show v=V.int a from hr)
  refine sS (tw hN hi hx aL zT hf) ⟨.int a,at_of ea,he σ H0 R0 H R E _ fun u H2 R2 E2 s2 e2=>?_⟩
  cases (show u=V.int c from e2)
  exact ⟨a,c,rfl,rfl,dn _ H2 R2 _ (E2.set i (r:=ae) (x:=a + c) rfl) s2 h⟩
theorem w_subN (i:Nat){x:Str}{e:Expr}{p1 pos:Pos}{a c:Int}(he:EV X e Γ ae c Γ)(hΓ:Γ[i]?=some (.im ae a))(h:N (Γ.set i (.im ae (a - c))))
    (hN:autoParam (X.N.Nodup) Fc.dY) (hi:autoParam (X.N[i]?=some x) Fc.ai) (hx:autoParam (Loc X.env.scope x) Fc.dA)
    (hf:autoParam (X.fn x=true∨X.env.scope.names.lookup x=some .local) Fc.fZ):
    W1 X (.AugAssign (.Name x p1) .Sub e pos) Γ N T:=fun σ H0 R0 H R E D dn dr=>by
  obtain ⟨v,ea,hr⟩:=E.ent i _ hΓ
  cases (show v=V.int a from hr)
  refine sS (tw hN hi hx aL Ap hf) ⟨.int a,at_of ea,he σ H0 R0 H R E _ fun u H2 R2 E2 s2 e2=>?_⟩
  cases (show u=V.int c from e2)
  exact ⟨a,c,rfl,rfl,dn _ H2 R2 _ (E2.set i (r:=ae) (x:=a - c) rfl) s2 h⟩
end
section
variable {X:Cx}{Γ Γ1 Γ2 Γ3:Ga}{α β γ δ:Type}{N:Ga→Prop}{T:RT}
noncomputable def DX:Rep (Int→Bool):=⟨fun K H v g=>∃kvs,kY.R K H v kvs∧∀k,fm kvs k=g k,fun s ⟨kvs,a,b⟩=>⟨kvs,kY.mono s a,b⟩⟩
theorem wX {a b:Expr}{pos:Pos}{g:Int→Bool}{k:Int}(hu:X.A.units + 1 < cLine)(ha:EV X a Γ ae k Γ1)(hb:EV X b Γ1 DX g Γ2)(hm:behindInMarks .In b=false:=by first | exact kW _ | with_unfolding_all rfl):EV X (.Compare a [.In] [b] pos) Γ aO (g k) Γ2:=by
  intro σ H0 R0 H R E Q q
  refine eS (tN (oH hu aL aL) hm) (ha σ H0 R0 H R E _ fun v H1 R1 E1 s1 e1=>hb σ H0 R0 H1 R1 E1 _ fun u H2 R2 E2 s2 e2=>?_)
  cases e1
  obtain ⟨kvs,⟨p,rfl,hp⟩,hk⟩:=e2
  refine ⟨p,_,rfl,eZ.k (k:=Sum.inl k) (E2.sub _ _ hp),?_⟩
  rw [iB,hk]
  exact q _ H2 R2 E2 (s1.trans s2) rfl
theorem uS {S:bW}{x:Str}{k:Nat}{e:Expr}{es:List Expr}{p pos:Pos}{ps:List Pk}{r:Rep α}{Pd:α→Prop}{r':Rep β}{y:β}(C:az X.prog X.w X.K X.mg X.base x k (aE S X.K))(hr:bt k X.A)(ha:HA X (e::es) Γ ps Γ1)(hS:S X.K ps (bC X.K r Pd))(hc:∀(R:Hp) v z,Pd z→r.R X.K R v z→r'.R X.K R v y)
    (hg:autoParam (Gl X x) Fc.ai) (hdb:autoParam ((x==("__debug__":Str))=false) Fc.aw) (he:autoParam (starEach (e::es) X.env=(false,eval e X.env)::starEach es X.env) Fc.ai) (hpl:autoParam ((backTo pos (starEach es X.env)).any (·.1)=false) Fc.ai):EV X (.Call (.Name x p) (e::es) [] pos) Γ r' y Γ1:=fun σ H0 R0 H R E Q q=>
  dv C hr ha hS E (fun H1 R1 v H' R' E1 s1 xx t=>by
    obtain ⟨z,e1,hz⟩:=t
    exact q v H' R' (E1.grow xx) (s1.trans xx.r) (hc _ _ _ hz e1)) hg hdb he hpl
end
end Fc
namespace K1
open PySem L2 Fc
open PySem.Spec hiding Row
open PyProof.Rows hiding St
open PySem.Builtin.Int (intBits)
section
variable {P:Program}{w:World}{K:PySem.W.Frag}{mg:Str→Option Value}{base:Heap}{f:Addr}{fd:FuncData}
noncomputable abbrev vy:Stmt:=top jV
theorem zX:ax ["web"] ["web"] (ah vy):=⟨rfl,rfl,rfl,by decide +kernel,rfl,by decide +kernel,by decide +kernel⟩
noncomputable def zU:bW:=fun K ps T=>∃v:aH,ps=[⟨bg,v⟩]∧bJ v∧T=bC K eM (fun _=>True)
theorem AO (CW:az P w K mg base "is_web" 5 (aE Al K))(F:bh K "need_web" "need_web" vy f fd)(hm:mg "need_web"=some (.ref f))(hb:Binds K fd ["web"] []):az P w K mg base "need_web" 6 (aE zU K):=by
  have nd:=zX.nd
  refine oq F zX hm hb (fun qs T ⟨_,e,_⟩=>by rw [e];rfl) (fun cdv A outer s H E qs T hr hS=>?_)
  obtain ⟨v,rfl,hv,rfl⟩:=hS
  have pl:=hv.pl
  have rl:=hv.rl
  refine ⟨fun _ _ _=>⟨(),rfl,trivial⟩,?_⟩
  change WS _ _ [.im bg v] _ _
  refine ar (bu (bH (aZ (aW CW hr (af (aa 0 rfl) ao) ⟨v,rfl,by omega,by omega,rfl⟩))) (fun h=>?_) (fun h=>aU trivial))
  rw [hv.BC] at h;exact absurd h (by decide)
end
section
variable {P:Program}{w:World}{K:PySem.W.Frag}{mg:Str→Option Value}{base:Heap}{f:Addr}{fd:FuncData}
noncomputable abbrev sZ:Stmt:=top qN
theorem qw:ax ["web","part"] ["web","part"] (ah sZ):=⟨rfl,rfl,rfl,by decide +kernel,rfl,by decide +kernel,by decide +kernel⟩
noncomputable def Cz:bW:=fun K ps T=>∃(v:aH) (p:Int),ps=[⟨bg,v⟩,⟨ae,p⟩]∧0≤p∧p < (v.1.length:Int)∧T=bC K aO (· =true)
theorem B8 (M:bU mg)(CI:az P w K mg base "is_whole" 1 (aE qa K))(F:bh K "is_part" "is_part" sZ f fd)(hm:mg "is_part"=some (.ref f))(hb:Binds K fd ["web","part"] []):az P w K mg base "is_part" 2 (aE Cz K):=by
  have nd:=qw.nd
  refine bM F qw hm hb (fun qs T ⟨_,_,e,_⟩=>by rw [e];rfl) (fun cdv A outer s H E qs T hr hS=>?_)
  obtain ⟨v,p,rfl,p0,p1,rfl⟩:=hS
  change WS _ _ [.im (ay (ag ae) (ag aA)) v,.im ae p] _ _
  refine ar (bA (ei (aW CI hr (af (aa 1 rfl) ao) ⟨p,rfl,rfl⟩) (fun _=>ef (eY eW dH ak (aa 1 rfl) (cj M.len (cU (aa 0 rfl)))))) ?_)
  simp [p0,p1]
noncomputable abbrev p7:Stmt:=top n8
theorem lA:ax ["web","part"] ["web","part"] (ah p7):=⟨rfl,rfl,rfl,by decide +kernel,rfl,by decide +kernel,by decide +kernel⟩
noncomputable def CV:bW:=fun K ps T=>∃(v:aH) (p:Int),ps=[⟨bg,v⟩,⟨ae,p⟩]∧bJ v∧0≤p∧p < (v.1.length:Int)∧T=bC K eM (fun _=>True)
theorem Ca (CN:az P w K mg base "need_web" 6 (aE zU K))(CI:az P w K mg base "is_part" 2 (aE Cz K))(F:bh K "need_part" "need_part" p7 f fd)(hm:mg "need_part"=some (.ref f))(hb:Binds K fd ["web","part"] []):az P w K mg base "need_part" 7 (aE CV K):=by
  have nd:=lA.nd
  have CI:=CI.mono (show 2≤6 by decide)
  refine oq F lA hm hb (fun qs T ⟨_,_,e,_⟩=>by rw [e];rfl) (fun cdv A outer s H E qs T hr hS=>?_)
  obtain ⟨v,p,rfl,hv,p0,p1,rfl⟩:=hS
  refine ⟨fun _ _ _=>⟨(),rfl,trivial⟩,?_⟩
  change WS _ _ [.im bg v,.im ae p] _ _
  refine aj (fM CN hr (af (aa 0 rfl) ao) ⟨v,rfl,hv,rfl⟩ ?_)
  refine ar (bu (bH (aZ (aW CI hr (af (aa 0 rfl) (af (aa 1 rfl) ao)) ⟨v,p,rfl,p0,p1,rfl⟩))) (fun h=>?_) (fun h=>aU trivial))
  exact absurd h (by decide)
end
end K1
namespace Fc
open PySem PySem.Spec L2
theorem qZ {X:Cx}{scope:Scope}{cl:List (Str×Addr)}{own fr:List Str}{ix:List Nat}(S:cO X scope cl own fr ix){C:Addr}{N':List Str}{s:Shared}{H:Hp}{ex:List Addr}(x:Str)(hx:(aG X scope cl C N' s H ex).env.scope.names.lookup x=some .cell):∃c,(aG X scope cl C N' s H ex).env.cells.lookup x=some c:=by
  have hx:(relabel scope X.env).names.lookup x=some .cell:=hx
  obtain ⟨k',e,z⟩:=eD hx
  rcases z with rfl | ⟨rfl,_⟩
  · have:∀(l:List (Str×NameKind)),l.lookup x=some .cell→∃y∈l,y.2= .cell:=by
      intro l
      induction l with
      | nil=>intro h;cases h
      | cons a l ih=>
        intro h
        rw [List.lookup_cons] at h
        split at h
        · exact ⟨a,List.mem_cons_self,Option.some.inj h⟩
        · obtain ⟨y,hy,e⟩:=ih h
          exact ⟨y,List.mem_cons_of_mem _ hy,e⟩
    obtain ⟨y,hy,e2⟩:=this _ e
    exact absurd e2 (S.ncell y hy)
  · exact S.has x e
end Fc
namespace K1
open PySem L2 Fc
open PySem.Spec hiding Row
open PyProof.Rows hiding St
open PySem.Builtin.Int (intBits)
open Classical in
noncomputable def cW (v:aH)(p:Int):Bool:=decide (cL v.2 p.toNat)
noncomputable def d5 (v:aH)(p:Int)(left:List Int)(q:Int):Bool:=(((fromF v p q).filter fun _=>true).map fun k=>decide ((rowOf v k).2.2.1∈left)).any id
theorem mw {v:aH}{p:Int}{left:List Int}{q:Int}:d5 v p left q=true↔∃r∈v.2,r.1=p∧r.2.1=q∧r.2.2.1∈left:=by
  unfold d5
  rw [List.filter_eq_self.mpr (by simp),List.any_map,List.any_eq_true]
  unfold fromF
  constructor
  · rintro ⟨k,hk,h⟩
    obtain ⟨k1,k2⟩:=List.mem_filter.mp hk
    have kb:=bE.mp k1
    have k2:=of_decide_eq_true k2
    refine ⟨rowOf v k,?_,congrArg Prod.fst k2,congrArg Prod.snd k2,by simpa using h⟩
    unfold rowOf
    rw [List.getD_eq_getElem?_getD,List.getElem?_eq_getElem (by omega)]
    exact List.getElem_mem _
  · rintro ⟨r,hr,r1,r2,r3⟩
    obtain ⟨j,hj⟩:=List.mem_iff_getElem?.mp hr
    have jl:=(List.getElem?_eq_some_iff.mp hj).1
    have e:rowOf v (j:Int)=r:=by unfold rowOf;rw [show ((j:Int)).toNat=j by omega,List.getD_eq_getElem?_getD,hj];rfl
    refine ⟨(j:Int),List.mem_filter.mpr ⟨bE.mpr ⟨by omega,by omega⟩,decide_eq_true (by rw [e,r1,r2])⟩,?_⟩
    simp only [Function.comp,id,e]
    exact decide_eq_true r3
noncomputable def lI (v:aH)(p:Int)(left:List Int):Prop:=∃(rk:Int→Int) (b:Int),(∀q,q∉left→b≤rk q)∧∀r∈v.2,r.1=p→r.2.1∉left→r.2.2.1∉left∧rk r.2.1 < rk r.2.2.1
theorem lI.next {v:aH}{p:Int}{left:List Int}(h:lI v p left):lI v p (left.filter (d5 v p left)):=by
  obtain ⟨rk,b,hb,h⟩:=h
  refine ⟨fun q=>if q∈left then b - 1 else rk q,b - 1,fun q _=>?_,fun r hr r1 hn=>?_⟩
  · show b - 1≤if q∈left then b - 1 else rk q
    split
    · omega
    · rename_i z;have:=hb q z;omega
  · by_cases z:r.2.1∈left
    · have no:r.2.2.1∉left:=fun w=>hn (List.mem_filter.mpr ⟨z,mw.mpr ⟨r,hr,r1,rfl,w⟩⟩)
      refine ⟨fun w=>no (List.mem_filter.mp w).1,?_⟩
      show (if r.2.1∈left then b - 1 else rk r.2.1) < (if r.2.2.1∈left then b - 1 else rk r.2.2.1)
      rw [if_pos z,if_neg no]
      have:=hb _ no;omega
    · obtain ⟨h1,h2⟩:=h r hr r1 z
      refine ⟨fun w=>h1 (List.mem_filter.mp w).1,?_⟩
      show (if r.2.1∈left then b - 1 else rk r.2.1) < (if r.2.2.1∈left then b - 1 else rk r.2.2.1)
      rw [if_neg z,if_neg h1];exact h2
theorem pQ (rk:Int→Int):∀(l:List Int),l≠[]→∃x∈l,∀y∈l,rk y≤rk x
  | [],h=>absurd rfl h
  | [a],_=>⟨a,by simp,fun y hy=>by rw [List.mem_singleton.mp hy];exact Int.le_refl _⟩
  | a::b::l,_=>by
    obtain ⟨x,hx,h⟩:=pQ rk (b::l) (by simp)
    by_cases z:rk a≤rk x
    · exact ⟨x,List.mem_cons_of_mem _ hx,fun y hy=>by
        rcases List.mem_cons.mp hy with rfl | hy
        · exact z
        · exact h y hy⟩
    · exact ⟨a,List.mem_cons_self,fun y hy=>by
        rcases List.mem_cons.mp hy with rfl | hy
        · exact Int.le_refl _
        · have:=h y hy;omega⟩
theorem tJ {v:aH}{p:Int}(p0:0≤p){left:List Int}(h:lI v p left)(hs:∀q∈left,d5 v p left q=true):decide (left=[])=cW v p:=by
  have ep:((p.toNat:Nat):Int)=p:=by omega
  unfold cW
  classical
  rw [Bool.eq_iff_iff,decide_eq_true_eq]
  show _↔decide (cL v.2 p.toNat)=true
  rw [decide_eq_true_eq]
  constructor
  · intro e
    obtain ⟨rk,b,_,h2⟩:=h
    exact ⟨rk,fun r hr r1=>(h2 r hr (by omega) (by rw [e];simp)).2⟩
  · rintro ⟨rk,hrk⟩
    refine Classical.byContradiction fun ne=>?_
    obtain ⟨x,hx,hmax⟩:=pQ rk left ne
    obtain ⟨r,hr,r1,r2,r3⟩:=mw.mp (hs x hx)
    have a:=hrk r hr (by omega)
    have b:=hmax _ r3
    rw [r2] at a;omega
section
variable {P:Program}{w:World}{K:PySem.W.Frag}{mg:Str→Option Value}{base:Heap}{f:Addr}{fd:FuncData}
noncomputable abbrev nO:Stmt:=top kg
noncomputable abbrev yW:List Str:=["_law_web_here","_law_part_here","_law_left","_law_many"]
theorem zd:ax yW ["_law_web_here","_law_part_here"] (ah nO):=⟨rfl,rfl,rfl,by decide +kernel,rfl,by decide +kernel,by decide +kernel⟩
noncomputable def AE:bW:=fun K ps T=>∃(v:aH) (p:Int),ps=[⟨bg,v⟩,⟨ae,p⟩]∧bJ v∧0≤p∧p < (v.1.length:Int)∧T=bC K aO (· =cW v p)
theorem Bu (M:bU mg)(CF:az P w K mg base "_law_from" 1 (aE sD K))(F:bh K "_law_is_loose" "_law_is_loose" nO f fd)(hm:mg "_law_is_loose"=some (.ref f))(hb:Binds K fd ["_law_web_here","_law_part_here"] []):az P w K mg base "_law_is_loose" 2 (aE AE K):=by
  have nd:=zd.nd
  have nd1:List.Nodup [("_law_place":Str),"_law_left","_law_part_here","_law_web_here"]:=by decide
  have nd2:List.Nodup [("_law_k":Str),"_law_left","_law_web_here"]:=by decide
  refine bM F zd hm hb (fun qs T ⟨_,_,e,_⟩=>by rw [e];rfl) (fun cdv A outer s H E qs T hr hS=>?_)
  obtain ⟨v,p,rfl,hv,p0,p1,rfl⟩:=hS
  have hu:(A.deeper (envOfC "_law_is_loose" (ah nO) s.heap.objs.size f cdv)).units + 1 < cLine:=Nat.lt_of_le_of_lt (Nat.add_le_add_left (by decide:1≤64) _) hr.units
  have pl:=hv.pl
  have rl:=hv.rl
  have hs:=hv.sz (v.1.getD p.toNat 0) (by rw [List.getD_eq_getElem?_getD,List.getElem?_eq_getElem (by omega)];exact List.getElem_mem _)
  change WS _ _ [.im (ay (ag ae) (ag aA)) v,.im ae p,.no,.no] _ _
  refine aj (aK 2 (aC.im (i4 M.list M.range (bB (cU (aa 0 rfl)) (aa 1 rfl) (cD p0 p1)) ⟨by omega,by omega⟩)) (aj (aK 3 ak ?_)))
  have o0:lI v p (ups 0 (v.1.getD p.toNat 0).toNat):=by
    refine ⟨fun _=>0,0,fun _ _=>Int.le_refl _,fun r hr r1 hn=>absurd (bE.mpr ?_) hn⟩
    have q:=hv.eN hr
    have a:=q.s0;have b:=q.sn
    rw [r1] at b
    omega
  refine aj (gu (fun m Γ=>∃left many,Γ=[.im (ay (ag ae) (ag aA)) v,.im ae p,.im (ag ae) left,.im ae many]∧lI v p left∧left.length≤16∧m=left.length + (if many=(left.length:Int) then 0 else 1)∧(many=(left.length:Int)→∀q∈left,d5 v p left q=true)) ⟨_,_,rfl,o0,by rw [aN];omega,rfl,fun e=>by rw [aN] at e;omega⟩ ?_)
  · rintro m Γ ⟨left,many,rfl,hO,hl,rfl,hst⟩
    refine ⟨_,_,aI nV (aa 3 rfl) (cj M.len (aa 2 rfl)),fun h=>?_,fun h=>?_⟩
    · have h:many≠(left.length:Int):=by simpa using h
      refine aj (aK 3 (cj M.len (aa 2 rfl)) ?_)
      have hk:∀q k,k∈fromF v p q→cA v.2 k=some (rowOf v k):=fun q k hk=>by
        have:=bE.mp (List.mem_filter.mp hk).1
        exact cH cf this.1 this.2
      refine ar (aK 2 (aC.im (bj (own:=["_law_place"]) (fr:=["_law_left","_law_part_here","_law_web_here"]) (ix:=[2,1,0]) (ra:=ae) (rb:=ae) (p:=d5 v p left) (f:=fun k=>k) (bc (so:=ah nO) (N0:=yW) rfl rfl (fun x h=>aV h) (by decide +kernel)) (ba (aa 2 rfl))
        (fun C s H ex=>aM 0) (fun x=>⟨.inr rfl,.inl rfl,.inl rfl,.inl rfl,trivial⟩)
        (fun C s H ex x hx=>gD (aZ (mU M.any (aC.im (bj (own:=["_law_k"]) (fr:=["_law_left","_law_web_here"]) (ix:=[1,3]) (ra:=ae) (rb:=aO) (p:=fun _=>true) (f:=fun k=>decide ((rowOf v k).2.2.1∈left)) (bc (so:=_) (N0:=_) rfl rfl (fun x h=>qZ (own:=["_law_place"]) (fr:=["_law_left","_law_part_here","_law_web_here"]) (ix:=[2,1,0]) (bc (so:=ah nO) (N0:=yW) rfl rfl (fun x h=>aV h) (by decide +kernel)) x h) (by trivial)) (ba (aW CF hr (af (aa 3 rfl) (af (aa 2 rfl) (af (aa 0 rfl) ao))) ⟨v,p,x,rfl,by omega,rfl⟩))
          (fun C s H ex=>aM 0) (fun x=>⟨.inr rfl,.inl rfl,.inl rfl,trivial⟩) (fun C s H ex x hx=>bP) (fun C s H ex k hk' _=>dz D0 (dh (bB (bI (aa 2 rfl)) (aa 0 rfl) (hk x k hk'))) (aa 1 rfl)))))))
        (fun C s H ex x hx _=>aa 0 rfl))) ?_)
      have hid:((left.filter (d5 v p left)).map fun k=>k)=left.filter (d5 v p left):=by simp
      have hle:=List.length_filter_le (d5 v p left) left
      refine ⟨(left.filter (d5 v p left)).length + (if (left.length:Int)=((left.filter (d5 v p left)).length:Int) then 0 else 1),?_,left.filter (d5 v p left),(left.length:Int),by rw [hid];rfl,hO.next,by omega,rfl,fun e=>?_⟩
      · rw [if_neg h]
        split<;>omega
      · have e2:left.filter (d5 v p left)=left:=List.filter_sublist.eq_of_length (by omega)
        rw [e2]
        intro q hq
        have:=List.mem_filter.mp (show q∈left.filter (d5 v p left) by rw [e2];exact hq)
        exact this.2
    · have h:many=(left.length:Int):=by simpa using h
      refine ar (bA (dz (qL (r:=ae) eq_int hu) (aa 2 rfl) (aC.im (aB aF (by decide)))) ?_)
      exact tJ p0 hO (hst h)
end
theorem Reach.head {es:List (Int×Int)}{a b:Int}(h:(a,b)∈es){k:Int}(r:Reach es b k):Reach es a k:=Reach.sub (.step .base h) (fun _ _ x y=>.step x y) r
open Classical in
noncomputable def eX (es:List (Int×Int))(a:Int):Nat:=((ups 0 16).filter fun k=>decide (Reach es a k)).length
open Classical in
theorem pH {es:List (Int×Int)}{a b:Int}(h:(a,b)∈es)(hn:¬Reach es b a)(a0:0≤a)(a1:a < 16):eX es b < eX es a:=by
  unfold eX
  have nd:∀g:Int→Bool,((ups 0 16).filter g).Nodup:=fun g=>(gY 16).filter g
  have:=fN (xs:=a::(ups 0 16).filter fun k=>decide (Reach es b k)) (ys:=(ups 0 16).filter fun k=>decide (Reach es a k)) (List.nodup_cons.mpr ⟨fun hm=>hn (of_decide_eq_true (List.mem_filter.mp hm).2),nd _⟩) fun x hx=>by
    rcases List.mem_cons.mp hx with rfl | hx
    · exact List.mem_filter.mpr ⟨bE.mpr ⟨a0,by omega⟩,decide_eq_true .base⟩
    · obtain ⟨m1,m2⟩:=List.mem_filter.mp hx
      exact List.mem_filter.mpr ⟨m1,decide_eq_true (Reach.head h (of_decide_eq_true m2))⟩
  rw [List.length_cons] at this
  omega
theorem oK {v:aH}(hv:bJ v){p:Int}(p0:0≤p):cL v.2 p.toNat↔∀t∈fwd v.2 p,¬Reach (fwd v.2 p) t.2 t.1:=by
  have ep:((p.toNat:Nat):Int)=p:=by omega
  constructor
  · rintro ⟨rk,hrk⟩ ⟨a,b⟩ ht hR
    have up:∀x y,(x,y)∈fwd v.2 p→rk x < rk y:=fun x y h=>by
      obtain ⟨r,hr,r1,r2,r3⟩:=gx.mp h
      rw [← r2,← r3];exact hrk r hr (by omega)
    have:rk b≤rk a:=Reach.sub (P:=fun k=>rk b≤rk k) (Int.le_refl _) (fun x y hx hxy=>Int.le_trans hx (Int.le_of_lt (up x y hxy))) hR
    have:=up a b ht
    omega
  · intro h
    refine ⟨fun q=> -(eX (fwd v.2 p) q:Int),fun r hr r1=>?_⟩
    have ht:(r.2.1,r.2.2.1)∈fwd v.2 p:=gx.mpr ⟨r,hr,by omega,rfl,rfl⟩
    have rp:=hv.eN hr
    have s0:=rp.s0;have sn:=rp.sn;have q1:=rp.p1;have q0:=rp.p0
    have sz:=hv.sz (v.1.getD r.1.toNat 0) (by rw [List.getD_eq_getElem?_getD,List.getElem?_eq_getElem (by omega)];exact List.getElem_mem _)
    have:=pH ht (h _ ht) s0 (by omega)
    show -(eX (fwd v.2 p) r.2.1:Int) < -(eX (fwd v.2 p) r.2.2.1:Int)
    omega
open Classical in
noncomputable def iC (es:List (Int×Int))(s k:Int):Bool:=decide (Reach es s k)
section
variable {P:Program}{w:World}{K:PySem.W.Frag}{mg:Str→Option Value}{base:Heap}{f:Addr}{fd:FuncData}
noncomputable def vO:bW:=fun K ps T=>∃(v:aH) (p:Int),ps=[⟨bg,v⟩,⟨ae,p⟩]∧bJ v∧0≤p∧p < (v.1.length:Int)∧T=bC K aO (· =cW v p)
noncomputable abbrev nY:Stmt:=top jM
noncomputable abbrev za:List Str:=["web","part","leads"]
theorem zH:ax za ["web","part"] (ah nY):=⟨rfl,rfl,rfl,by decide +kernel,rfl,by decide +kernel,by decide +kernel⟩
theorem Ba (M:bU mg)(CN:az P w K mg base "need_part" 7 (aE CV K))(CR:az P w K mg base "reached" 1 (aE zP K))(F:bh K "is_loose" "is_loose" nY f fd)(hm:mg "is_loose"=some (.ref f))(hb:Binds K fd ["web","part"] []):az P w K mg base "is_loose" 8 (aE vO K):=by
  have nd:=zH.nd
  have nd1:List.Nodup [("row":Str),"part"]:=by decide
  have nd2:List.Nodup [("lead":Str),"leads"]:=by decide
  have CR:=CR.mono (show 1≤7 by decide)
  refine bM F zH hm hb (fun qs T ⟨_,_,e,_⟩=>by rw [e];rfl) (fun cdv A outer s H E qs T hr hS=>?_)
  obtain ⟨v,p,rfl,hv,p0,p1,rfl⟩:=hS
  have hu:(A.deeper (envOfC "is_loose" (ah nY) s.heap.objs.size f cdv)).units + 1 < cLine:=Nat.lt_of_le_of_lt (Nat.add_le_add_left (by decide:1≤64) _) hr.units
  have rl:=hv.rl
  change WS _ _ [.im (ay (ag ae) (ag aA)) v,.im ae p,.no] _ _
  refine aj (fM CN hr (af (aa 0 rfl) (af (aa 1 rfl) ao)) ⟨v,p,rfl,hv,p0,p1,rfl⟩ ?_)
  refine aj (aK 2 (aC.im (bj (own:=["row"]) (fr:=["part"]) (ix:=[1]) (p:=fun r=>decide (r.1=p)) (f:=fun r=>(r.2.1,r.2.2.1)) (bc (so:=ah nY) (N0:=za) rfl rfl (fun x h=>aV h) (by decide +kernel)) (ba (bI (aa 0 rfl)))
      (fun C s H ex=>aM 0) (fun x=>⟨.inr rfl,.inl rfl,trivial⟩) (fun C s H ex x hx=>gD (aI bT (gy (aa 0 rfl)) (aa 1 rfl))) (fun C s H ex x hx _=>cQ (af (fH (aa 0 rfl)) (af (dh (aa 0 rfl)) ao))))) ?_)
  change WS _ _ [.im (ay (ag ae) (ag aA)) v,.im ae p,.im (ag kd) (fwd v.2 p)] _ _
  have fl:(fwd v.2 p).length≤100000:=by
    unfold fwd
    rw [List.length_map]
    have:=List.length_filter_le (fun r:Row=>decide (r.1=p)) v.2
    omega
  refine ar (bA (sG (mU M.any (aC.im (bj (own:=["lead"]) (fr:=["leads"]) (ix:=[2]) (ra:=kd) (rb:=aO) (p:=fun _=>true) (f:=fun t=>iC (fwd v.2 p) t.2 t.1) (bc (so:=ah nY) (N0:=za) rfl rfl (fun x h=>aV h) (by decide +kernel)) (ba (aa 2 rfl))
      (fun C s H ex=>aM 0) (fun x=>⟨.inr rfl,.inl rfl,trivial⟩) (fun C s H ex x hx=>bP) (fun C s H ex x hx _=>wX (g:=iC (fwd v.2 p) x.2) hu (cU (aa 0 rfl)) (uS CR hr (af (aa 1 rfl) (af (bI (aa 0 rfl)) ao)) ⟨_,_,rfl,fl,rfl⟩ fun R u z hz hR=>⟨z,hR,fun k=>?_⟩)))))) ?_)
  · rw [Bool.eq_iff_iff]
    unfold iC
    classical
    show _↔decide (Reach (fwd v.2 p) x.2 k)=true
    rw [decide_eq_true_iff,← hz.2 k]
    unfold fm
    rw [List.any_eq_true,List.mem_map]
    constructor
    · rintro ⟨q,h,e⟩;exact ⟨q,h,of_decide_eq_true e⟩
    · rintro ⟨q,h,e⟩;exact ⟨q,h,decide_eq_true e⟩
  · unfold cW
    classical
    rw [Bool.eq_iff_iff]
    show _↔decide (cL v.2 p.toNat)=true
    rw [decide_eq_true_eq,oK hv p0,Bool.not_eq_true',List.any_eq_false]
    constructor
    · intro h t ht hR
      refine h (iC (fwd v.2 p) t.2 t.1) (List.mem_map.mpr ⟨t,List.mem_filter.mpr ⟨ht,rfl⟩,rfl⟩) ?_
      unfold iC;exact decide_eq_true hR
    · intro h b hb
      obtain ⟨t,ht,rfl⟩:=List.mem_map.mp hb
      unfold iC
      have:=h t (List.mem_filter.mp ht).1
      simpa using this
end
theorem jU {α β:Type}{P:α→List β→Prop}(hp:∀x ys,P x ys→ys=[]):∀{xs:List α} {yss:List (List β)},PySem.Paired P xs yss→yss=List.replicate xs.length []
  | _,_,.nil=>rfl
  | _,_,.cons h t=>by rw [List.length_cons,List.replicate_succ,jU hp t,hp _ _ h]
noncomputable def gk (v:aH)(p:Int)(i:Nat)(q:Int):List Int:=(ups 0 i).filter fun k=>decide (((rowOf v k).1,(rowOf v k).2.1)=(p,q))
theorem vg (i:Nat):ups 0 (i + 1)=ups 0 i++[(i:Int)]:=by
  unfold ups
  rw [List.range_succ,List.map_append]
  simp
theorem kO (v:aH)(p:Int)(i:Nat)(q:Int):gk v p (i + 1) q=gk v p i q++(if (rowOf v (i:Int)).1=p∧(rowOf v (i:Int)).2.1=q then [(i:Int)] else []):=by
  unfold gk
  rw [vg,List.filter_append]
  congr 1
  by_cases h:(rowOf v (i:Int)).1=p∧(rowOf v (i:Int)).2.1=q
  · rw [if_pos h,List.filter_cons_of_pos (by simp [h.1,h.2])];rfl
  · rw [if_neg h,List.filter_cons_of_neg (by simp;exact fun a b=>h ⟨a,b⟩)];rfl
noncomputable def fG (v:aH)(p:Int)(n i:Nat):List (List Int):=(ups 0 n).map (gk v p i)
noncomputable def dZ (v:aH)(p:Int):List (List Int):=(ups 0 (v.1.getD p.toNat 0).toNat).map (fromF v p)
theorem gP (v:aH)(p:Int)(n i:Nat):(fG v p n i).length=n:=by unfold fG;rw [List.length_map,aN]
theorem iu {n j:Nat}(h:j < n):(ups 0 n)[j]?=some (j:Int):=by unfold ups;rw [List.getElem?_map,List.getElem?_range h];simp
theorem lE {v:aH}{p:Int}{n i j:Nat}(h:j < n):(fG v p n i)[j]?=some (gk v p i (j:Int)):=by unfold fG;rw [List.getElem?_map,iu h];rfl
theorem sf {v:aH}{p:Int}{n i:Nat}(h:(rowOf v (i:Int)).1≠p):fG v p n (i + 1)=fG v p n i:=by
  unfold fG
  refine List.map_congr_left fun q hq=>?_
  rw [kO,if_neg (fun z=>h z.1),List.append_nil]
theorem uL {v:aH}{p:Int}{n i:Nat}(h:(rowOf v (i:Int)).1=p)(s0:0≤(rowOf v (i:Int)).2.1)(s1:(rowOf v (i:Int)).2.1 < (n:Int)):(fG v p n i).set (rowOf v (i:Int)).2.1.toNat (gk v p i (rowOf v (i:Int)).2.1++[(i:Int)])=fG v p n (i + 1):=by
  apply List.ext_getElem?
  intro j
  by_cases hj:j < n
  · rw [lE hj,kO]
    by_cases e:(rowOf v (i:Int)).2.1.toNat=j
    · subst e
      rw [List.getElem?_set_self (by rw [gP];exact hj),if_pos ⟨h,by omega⟩]
      rw [show (((rowOf v (i:Int)).2.1.toNat:Nat):Int)=(rowOf v (i:Int)).2.1 by omega]
    · rw [List.getElem?_set_ne e,lE hj,if_neg (fun z=>e (by have:=z.2;omega)),List.append_nil]
  · rw [List.getElem?_eq_none (by rw [List.length_set,gP];omega),List.getElem?_eq_none (by rw [gP];omega)]
theorem lX (v:aH)(p:Int)(i:Nat)(q:Int):(gk v p i q).length≤i:=by
  unfold gk
  refine Nat.le_trans (List.length_filter_le _ _) ?_
  rw [aN];exact Nat.le_refl _
section
variable {P:Program}{w:World}{K:PySem.W.Frag}{mg:Str→Option Value}{base:Heap}{f:Addr}{fd:FuncData}
noncomputable abbrev sT:Stmt:=top kN
noncomputable abbrev Cr:List Str:=["web","part","leaving","number","row"]
theorem xU:ax Cr ["web","part"] (ah sT):=⟨rfl,rfl,rfl,by decide +kernel,rfl,by decide +kernel,by decide +kernel⟩
noncomputable def vF (fr:Bool):bW:=fun K ps T=>∃(v:aH) (p:Int),ps=[⟨bg,v⟩,⟨ae,p⟩]∧bJ v∧0≤p∧p < (v.1.length:Int)∧T=if fr=true then jm K (ag ae) (· =dZ v p) else Ct K ae (· =dZ v p)
theorem B3 (fr:Bool)(M:bU mg)(F:bh K "rows_leaving" "rows_leaving" sT f fd)(hm:mg "rows_leaving"=some (.ref f))(hb:Binds K fd ["web","part"] []):az P w K mg base "rows_leaving" 1 (aE (vF fr) K):=by
  have nd:=xU.nd
  have ndc:List.Nodup [("place":Str)]:=by decide
  refine bM F xU hm hb (fun qs T ⟨_,_,e,_⟩=>by rw [e];rfl) (fun cdv A outer s H E qs T hr hS=>?_)
  obtain ⟨v,p,rfl,hv,p0,p1,rfl⟩:=hS
  have pl:=hv.pl
  have rl:=hv.rl
  have hn:cA v.1 p=some (v.1.getD p.toNat 0):=cD p0 p1
  have nb:=hv.sz (v.1.getD p.toNat 0) (by rw [List.getD_eq_getElem?_getD,List.getElem?_eq_getElem (by omega)];exact List.getElem_mem _)
  generalize hN:v.1.getD p.toNat 0=n at hn nb
  change WS _ _ [.im (ay (ag ae) (ag aA)) v,.im ae p,.no,.no,.no] _ _
  refine aj (xa 2 (own:=["place"]) (fr:=[]) (ix:=[]) (ra:=ae) (rb:=ae) (P:=fun _ ys=>ys=[]) (bc (so:=ah sT) (N0:=Cr) rfl rfl (fun x h=>aV h) (by decide +kernel)) (d8 M.range (bB (cU (aa 0 rfl)) (aa 1 rfl) hn) ⟨by omega,by omega⟩)
    (fun C s H ex=>aM 0) (fun x=>⟨.inr rfl,trivial⟩) (fun x=>⟨trivial,trivial⟩) (fun C s H ex x hx=>aC.evr (aB aF (by decide)) rfl) fun a bs yss pq _=>?_)
  have ey:=jU (fun _ _ h=>h) pq
  rw [aN] at ey
  have e0:List.replicate n.toNat ([]:List Int)=fG v p n.toNat 0:=by
    unfold fG gk
    apply List.ext_getElem?
    intro j
    rw [List.getElem?_replicate,List.getElem?_map]
    by_cases hj:j < n.toNat
    · rw [if_pos hj,iu hj];rfl
    · rw [if_neg hj,List.getElem?_eq_none (by rw [aN];omega)];rfl
  rw [e0] at ey
  subst ey
  refine aj (du (r:=ay ae aA) (fun i Γ=>∃v3 v4,Γ=[.im (ay (ag ae) (ag aA)) v,.im ae p,.ob (kX ae a bs (fG v p n.toNat i)),v3,v4])
    (lC M.enumerate (bI (aa 0 rfl))) (jy 3 4) ⟨_,_,rfl⟩ ?_ ?_)
  · rintro i x Γ hx ⟨v3,v4,rfl⟩
    obtain ⟨e1,e2⟩:=jC hx
    have il:=(List.getElem?_eq_some_iff.mp e2).1
    have er:rowOf v i=x.2:=by unfold rowOf;rw [List.getD_eq_getElem?_getD,show ((i:Int)).toNat=i by omega,e2];rfl
    refine ar (bu (aI bT (gy (aa 4 rfl)) (aa 1 rfl)) (fun h=>?_) (fun h=>aU ?_))
    · have h:x.2.1=p:=of_decide_eq_true h
      have rp:=hv.eN (List.mem_of_getElem? e2)
      have q0:=rp.s0
      have q1:=rp.sn
      rw [h,hN] at q1
      have len:=gP v p n.toNat i
      refine ar (qu 2 (fH (aa 4 rfl)) (aa 3 rfl) rfl (fi q0 (by omega)) (lE (j:=x.2.2.1.toNat) (by omega)) (Nat.lt_of_le_of_lt (Nat.le_trans (lX v p i _) (show i≤100 by omega)) (by decide)) ?_)
      refine ⟨.im ae x.1,.im aA x.2,?_⟩
      have:=uL (v:=v) (p:=p) (n:=n.toNat) (i:=i) (by rw [er];exact h) (by rw [er];exact q0) (by rw [er];omega)
      rw [er] at this
      rw [e1,show ((x.2.2.1.toNat:Nat):Int)=x.2.2.1 by omega,this]
      rfl
    · have h:x.2.1≠p:=of_decide_eq_false h
      refine ⟨.im ae x.1,.im aA x.2,?_⟩
      rw [sf (by rw [er];exact h)]
      rfl
  · rintro Γ ⟨v3,v4,rfl⟩
    rw [fQ]
    have e:fG v p n.toNat v.2.length=dZ v p:=by unfold dZ;rw [hN];rfl
    rw [e]
    have ll:(dZ v p).length≤16:=by rw [← e,gP];omega
    cases fr with
    | false=>exact ar (yX 2 rfl rfl)
    | true=>
      refine ar (xi 2 rfl (aP (by omega)) (fun xs hx=>?_) rfl)
      rw [← e] at hx
      obtain ⟨q,_,rfl⟩:=List.mem_map.mp hx
      exact aP (Nat.le_trans (lX v p _ q) (by omega))
end
end K1
namespace Fc
open PySem PySem.Spec L2
open PyProof.Rows hiding St
section
variable {X:Cx}{Γ Γ1 Γ2 Γ3:Ga}{α β γ δ:Type}{N:Ga→Prop}{T:RT}
theorem qX {x:Str}{pos:Pos}{n:Int}{t:Tok}(hm:X.mg x=some (.int n t))(hg:autoParam (Gl X x) Fc.ai)(hd:autoParam ((x==("__debug__":Str))=false) Fc.aw):mK X (.Name x pos) Γ n:=fun σ H0 R0 H R E H' Q q=>eS (gA (v:=.int n) hg hm ⟨t,rfl⟩ hd) q
theorem pk {S:bW}{x:Str}{k:Nat}{e:Expr}{es:List Expr}{p p2 pos:Pos}{ps:List Pk}{r:Rep α}{Pd Pd':List α→Prop}(C:az X.prog X.w X.K X.mg X.base x k (aE S X.K))(hr:bt k X.A)(ha:HA X (e::es) Γ ps Γ1)(hS:S X.K ps (jm X.K r Pd))(h:∀z,Pd z→Pd' z)
    (hg:autoParam (Gl X x) Fc.ai) (hdb:autoParam ((x==("__debug__":Str))=false) Fc.aw) (he:autoParam (starEach (e::es) X.env=(false,eval e X.env)::starEach es X.env) Fc.ai) (hpl:autoParam ((backTo p2 (starEach es X.env)).any (·.1)=false) Fc.ai):
    W1 X (.Return (some (.Call (.Name x p) (e::es) [] p2)) pos) Γ N (jm X.K r Pd'):=fun σ H0 R0 H R E D dn dr=>
  sS (dO aL) (dv C hr ha hS E (fun H1 R1 v H' R' E1 s1 xx t=>by
    obtain ⟨a,vs,ys,rfl,h0,h1,h2,p,z,hP⟩:=t
    exact dr _ H' R' ((E1.grow xx).ext) ⟨a,vs,ys,rfl,E1.ext.h.free h0,h1,h2,p,z,h ys hP⟩) hg hdb he hpl)
end
end Fc
namespace K1
open PySem L2 Fc
open PySem.Spec hiding Row
open PyProof.Rows hiding St
open PySem.Builtin.Int (intBits)
theorem BD {v:aH}(hv:bJ v){p:Int}(p0:0≤p)(p1:p < (v.1.length:Int))(hR:cL v.2 p.toNat):∃g,eL v p g:=by
  have hs:=hv.sz (v.1.getD p.toNat 0) (by rw [List.getD_eq_getElem?_getD,List.getElem?_eq_getElem (by omega)];exact List.getElem_mem _)
  have o0:dw v p [(1,1)]:=⟨rfl,by simp,fun q hq=>by (have:q=1:=by simpa using hq);omega,fun q hq qn=>absurd (show q=1 by simpa using hq) qn⟩
  have go:∀(m:Nat) (F:List (Int×Int)),dw v p F→m=(v.1.getD p.toNat 0 - (F.length:Int)).toNat→∃g,eL v p g:=by
    intro m
    induction m with
    | zero=>exact fun F h e=>⟨_,h.eq (by omega)⟩
    | succ m ih=>
      intro F h e
      obtain ⟨q,q0,q1,qn,qg⟩:=h.next hv p0 hR (by omega)
      exact ih _ (h.add qn q0 q1 qg) (by rw [List.length_append,List.length_singleton];omega)
  exact go _ _ o0 rfl
open Classical in
noncomputable def onG (v:aH)(p:Int):Int→Int:=if h:∃g,eL v p g then Classical.choose h else fun _=>0
theorem kT {v:aH}(hv:bJ v){p:Int}(p0:0≤p)(p1:p < (v.1.length:Int))(hR:cL v.2 p.toNat):eL v p (onG v p):=by
  have h:=BD hv p0 p1 hR
  unfold onG
  rw [dif_pos h]
  exact Classical.choose_spec h
theorem dw.get {v:aH}(hv:bJ v){p:Int}(p0:0≤p)(p1:p < (v.1.length:Int))(hR:cL v.2 p.toNat){F:List (Int×Int)}(h1:dw v p F)(h2:v.1.getD p.toNat 0≤(F.length:Int)){q:Int}(q0:0≤q)(q1:q < v.1.getD p.toNat 0):bX F q=some (onG v p q):=by
  have e:=(h1.eq h2).uniq hv p0 hR (kT hv p0 p1 hR) q q0 q1
  have:=gQ.mpr (h1.all h2 q q0 q1)
  unfold gF at e
  cases e2:bX F q with
  | none=>rw [e2] at this;cases this
  | some y=>rw [e2] at e;exact congrArg some e
theorem fJ {v:aH}{p:Int}:(dZ v p).length=(v.1.getD p.toNat 0).toNat:=by unfold dZ;rw [List.length_map,aN]
theorem sC {v:aH}{p:Int}{i:Nat}{x:List Int}(h:(dZ v p)[i]?=some x):i < (v.1.getD p.toNat 0).toNat∧x=fromF v p (i:Int):=by
  have il:=(List.getElem?_eq_some_iff.mp h).1
  rw [fJ] at il
  unfold dZ at h
  rw [List.getElem?_map,iu il] at h
  exact ⟨il,(Option.some.inj h).symm⟩
section
variable {P:Program}{w:World}{K:PySem.W.Frag}{mg:Str→Option Value}{base:Heap}{f:Addr}{fd:FuncData}
noncomputable abbrev tD:Stmt:=top i3
theorem qR:ax ["web","part"] ["web","part"] (ah tD):=⟨rfl,rfl,rfl,by decide +kernel,rfl,by decide +kernel,by decide +kernel⟩
noncomputable def wq:bW:=fun K ps T=>∃(v:aH) (p:Int),ps=[⟨bg,v⟩,⟨ae,p⟩]∧bJ v∧0≤p∧p < (v.1.length:Int)∧cL v.2 p.toNat∧T=bC K eM (fun _=>True)
theorem Bg (CI:az P w K mg base "is_loose" 8 (aE vO K))(F:bh K "need_loose" "need_loose" tD f fd)(hm:mg "need_loose"=some (.ref f))(hb:Binds K fd ["web","part"] []):az P w K mg base "need_loose" 9 (aE wq K):=by
  have nd:=qR.nd
  refine oq F qR hm hb (fun qs T ⟨_,_,e,_⟩=>by rw [e];rfl) (fun cdv A outer s H E qs T hr hS=>?_)
  obtain ⟨v,p,rfl,hv,p0,p1,hR,rfl⟩:=hS
  refine ⟨fun _ _ _=>⟨(),rfl,trivial⟩,?_⟩
  change WS _ _ [.im bg v,.im ae p] _ _
  refine ar (bu (bH (aZ (aW CI hr (af (aa 0 rfl) (af (aa 1 rfl) ao)) ⟨v,p,rfl,hv,p0,p1,rfl⟩))) (fun h=>?_) (fun h=>aU trivial))
  have:cW v p=true:=by
    unfold cW
    classical
    exact decide_eq_true hR
  rw [this] at h
  exact absurd h (by decide)
noncomputable abbrev md:Stmt:=top qi
noncomputable abbrev vT:List Str:=["web","part","leaving","known","place","numbers","following"]
theorem y9:ax vT ["web","part"] (ah md):=⟨rfl,rfl,rfl,by decide +kernel,rfl,by decide +kernel,by decide +kernel⟩
theorem B0    (M:bU mg)(CL:az P w K mg base "rows_leaving" 1 (aE (vF true) K))(F:bh K "ways_on" "ways_on" md f fd)(hm:mg "ways_on"=some (.ref f))(hb:Binds K fd ["web","part"] []):az P w K mg base "ways_on" 2 (aE nS K):=by
  have nd:=y9.nd
  have nd1:List.Nodup [("number":Str),"web"]:=by decide
  have nd2:List.Nodup [("to":Str),"known"]:=by decide
  obtain ⟨t2,hEND⟩:=M.end_
  refine bM F y9 hm hb (fun qs T ⟨_,_,e,_⟩=>by rw [e];rfl) (fun cdv A outer s H E qs T hr hS=>?_)
  obtain ⟨v,p,rfl,hv,p0,p1,hR,rfl⟩:=hS
  have hu:(A.deeper (envOfC "ways_on" (ah md) s.heap.objs.size f cdv)).units + 1 < cLine:=Nat.lt_of_le_of_lt (Nat.add_le_add_left (by decide:1≤64) _) hr.units
  have pl:=hv.pl
  have rl:=hv.rl
  have hs:=hv.sz (v.1.getD p.toNat 0) (by rw [List.getD_eq_getElem?_getD,List.getElem?_eq_getElem (by omega)];exact List.getElem_mem _)
  have ll:=fJ (v:=v) (p:=p)
  change WS _ _ [.im (ay (ag ae) (ag aA)) v,.im ae p,.no,.no,.no,.no,.no] _ _
  refine aj (aK 2 (aC.im (ka CL hr (af (aa 0 rfl) (af (aa 1 rfl) ao)) ⟨v,p,rfl,hv,p0,p1,rfl⟩)) ?_)
  refine aj (lJ 3 (qX hEND) dQ ?_)
  have o0:dw v p [(1,1)]:=⟨rfl,by simp,fun q hq=>by (have:q=1:=by simpa using hq);omega,fun q hq qn=>absurd (show q=1 by simpa using hq) qn⟩
  refine aj (gu (fun m Γ=>∃F v4 v5 v6,Γ=[.im (ay (ag ae) (ag aA)) v,.im ae p,.im (ag (ag ae)) (dZ v p),.di (da F),v4,v5,v6]∧dw v p F∧m=(v.1.getD p.toNat 0 - (F.length:Int)).toNat) ⟨[(1,1)],_,_,_,rfl,o0,rfl⟩ ?_)
  rintro m Γ ⟨F,v4,v5,v6,rfl,hO,rfl⟩
  have hle:=hO.le (by omega)
  refine ⟨_,_,TV.frz (jD (i:=3) rfl) (aI dH (nk M.len (aa 3 rfl)) (cj M.len (aa 2 rfl))),fun h=>?_,fun h=>?_⟩
  · have h : (F.length:Int) < v.1.getD p.toNat 0:=by have:=of_decide_eq_true h;omega
    obtain ⟨qs,s0,s1,sn,sg⟩:=hO.next hv p0 hR h
    refine ar (du (r:=ay ae (ag ae)) (fun i Γ=>∃G v4 v5 v6,Γ=[.im (ay (ag ae) (ag aA)) v,.im ae p,.im (ag (ag ae)) (dZ v p),.di (da G),v4,v5,v6]∧dw v p G∧(∀z∈F.map (·.1),z∈G.map (·.1))∧F.length≤G.length∧(qs < (i:Int)→F.length < G.length))
      (lC M.enumerate (aa 2 rfl)) (jy 4 5) ⟨F,_,_,_,rfl,hO,fun z hz=>hz,Nat.le_refl _,fun e=>by omega⟩ ?_ ?_)
    · rintro i x Γ hx ⟨G,v4,v5,v6,rfl,hG,hsub,hfl,hq1⟩
      obtain ⟨e1,e2⟩:=jC hx
      obtain ⟨il,e3⟩:=sC e2
      obtain ⟨q,ns⟩:=x
      have e1:q=(i:Int):=e1
      have e3:ns=fromF v p (i:Int):=e3
      rw [← e1] at e3
      subst e3
      have hid:((((fromF v p q).filter fun _=>true).map fun k=>(rowOf v k).2.2.1))=goal v p q:=by rw [List.filter_eq_self.mpr (by simp)];rfl
      have hk:∀k∈fromF v p q,cA v.2 k=some (rowOf v k):=fun k hk=>cH cf (cC hk).1 (cC hk).2.1
      change WS _ _ [.im (ay (ag ae) (ag aA)) v,.im ae p,.im (ag (ag ae)) (dZ v p),.di (da G),.im ae q,.im (ag ae) (fromF v p q),v6] _ _
      refine aj (tP 6 (own:=["number"]) (fr:=["web"]) (ix:=[0]) (ra:=ae) (rb:=ae) (p:=fun _=>true) (f:=fun k=>(rowOf v k).2.2.1) (bc (so:=ah md) (N0:=vT) rfl rfl (fun x h=>aV h) (by decide +kernel)) (ba (aa 5 rfl))
        (fun C s H ex=>aM 0) (fun x=>⟨.inr rfl,.inl rfl,trivial⟩) (fun C s H ex x hx=>bP) (fun C s H ex x hx _=>dh (bB (bI (aa 1 rfl)) (aa 0 rfl) (hk x hx))) ?_)
      rw [hid]
      have gl:(goal v p q).length≤60:=by
        unfold goal fromF
        rw [List.length_map]
        refine Nat.le_trans (List.length_filter_le _ _) ?_
        rw [aN];omega
      refine WS.freeze 6 rfl (aP (by omega)) ?_
      change WS _ _ [.im (ay (ag ae) (ag aA)) v,.im ae p,.im (ag (ag ae)) (dZ v p),.di (da G),.im ae q,.im (ag ae) (fromF v p q),.im (ag ae) (goal v p q)] _ _
      have mem:∀z,(bX G z).isSome=true↔z∈G.map (·.1):=fun z=>gQ
      have hglen:=hG.le (by omega)
      refine ar (bu (TW.tv (gB (lF 3 true hu (aa 4 rfl) rfl) (fun _=>gw (TV.frz (jD (i:=3) rfl) (aZ (ee M.all (aC.im (bj (own:=["to"]) (fr:=["known"]) (ix:=[3]) (ra:=ae) (rb:=aO) (p:=fun _=>true) (f:=fun z=>(bX G z).isSome) (bc (so:=ah md) (N0:=vT) rfl rfl (fun x h=>aV h) (by decide +kernel)) (ba (aa 6 rfl))
        (fun C s H ex=>aM 0) (fun x=>⟨.inr rfl,.inl rfl,trivial⟩) (fun C s H ex x hx=>bP) (fun C s H ex x hx _=>pP hu (aa 0 rfl) (aa 1 rfl)))))))))) (fun h=>?_) (fun h=>aU ?_))
      · obtain ⟨h1,h2⟩:=Bool.and_eq_true_iff.mp h
        have h1:q∉G.map (·.1):=fun w=>by
          have:=(mem q).mpr w
          rw [← ig] at this
          simp [this] at h1
        have h2:∀z∈goal v p q,z∈G.map (·.1):=fun z hz=>by
          rw [List.all_eq_true] at h2
          exact (mem z).mp (h2 _ (List.mem_map.mpr ⟨z,List.mem_filter.mpr ⟨hz,rfl⟩,rfl⟩))
        have hg2:∀z∈goal v p q,bX G z=some (gF G z):=fun z hz=>by
          have:=(mem z).mpr (h2 z hz)
          unfold gF
          cases e:bX G z with
          | none=>rw [e] at this;cases this
          | some y=>rfl
        have hid2:(((goal v p q).filter fun _=>true).map fun z=>gF G z).sum=((goal v p q).map (gF G)).sum:=by rw [List.filter_eq_self.mpr (by simp)]
        refine ar (rK 3 hu (aa 4 rfl) (EV.frz (jD (i:=3) rfl) (fun _ _ _ _ _ h=>h) (EV.cast (oj M.sum (aC.im (bj (own:=["to"]) (fr:=["known"]) (ix:=[3]) (ra:=ae) (rb:=ae) (p:=fun _=>true) (f:=fun z=>gF G z) (bc (so:=ah md) (N0:=vT) rfl rfl (fun x h=>aV h) (by decide +kernel)) (ba (aa 6 rfl))
          (fun C s H ex=>aM 0) (fun x=>⟨.inr rfl,.inl rfl,trivial⟩) (fun C s H ex x hx=>bP) (fun C s H ex x hx _=>nU hu (aa 1 rfl) (aa 0 rfl) (hg2 x hx))))) hid2)) rfl (Nat.lt_of_le_of_lt (show G.length≤1000 by omega) (by decide)) ?_)
        have ep:h8 G q ((goal v p q).map (gF G)).sum=G++[(q,((goal v p q).map (gF G)).sum)]:=by
          unfold h8
          rw [if_neg (fun e=>h1 ((mem q).mp e))]
        refine ⟨G++[(q,((goal v p q).map (gF G)).sum)],_,_,_,by rw [ep];rfl,hG.add h1 (by omega) (by omega) h2,fun z hz=>?_,by rw [List.length_append];omega,fun _=>by rw [List.length_append];simp;omega⟩
        rw [List.map_append];exact List.mem_append_left _ (hsub z hz)
      · refine ⟨G,_,_,_,rfl,hG,hsub,hfl,fun hlt=>?_⟩
        by_cases e:qs < (i:Int)
        · exact hq1 e
        · have eqq:q=qs:=by omega
          subst eqq
          have hin:q∈G.map (·.1):=Classical.byContradiction fun no=>by
            have a1:(if true=true then !fm (da G) q else fm (da G) q)=true:=by
              rw [if_pos rfl,ig]
              cases e2:(bX G q).isSome with
              | false=>rfl
              | true=>exact absurd ((mem q).mp e2) no
            have a2:((((goal v p q).filter fun _=>true).map fun z=>(bX G z).isSome).all id)=true:=by
              rw [List.all_eq_true]
              intro y hy
              obtain ⟨z,hz,rfl⟩:=List.mem_map.mp hy
              exact (mem z).mpr (hsub z (sg z (List.mem_filter.mp hz).1))
            rw [a1,a2] at h
            exact absurd h (by decide)
          have:=d9 (q::F.map (·.1)) (G.map (·.1)) (List.nodup_cons.mpr ⟨sn,hO.nd⟩) fun x hx=>by
            rcases List.mem_cons.mp hx with rfl | hx
            · exact hin
            · exact hsub x hx
          rw [List.length_cons,List.length_map,List.length_map] at this
          omega
    · rintro Γ ⟨G,v4,v5,v6,rfl,hG,_,_,hq1⟩
      rw [fQ,fJ] at hq1
      have:=hq1 (by omega)
      have:=hG.le (by omega)
      exact ⟨_,by omega,G,_,_,_,rfl,hG,rfl⟩
  · have h:¬(F.length:Int) < v.1.getD p.toNat 0:=by have:=of_decide_eq_false h;omega
    exact ar (pN 3 rfl ⟨hO,by omega⟩)
noncomputable abbrev rB:Stmt:=top nR
noncomputable abbrev nWI:List Str:=["web","part","known","told","numbers","total","number"]
theorem AG:ax nWI ["web","part"] (ah rB):=⟨rfl,rfl,rfl,by decide +kernel,rfl,by decide +kernel,by decide +kernel⟩
theorem A5    (M:bU mg)(CN:az P w K mg base "ways_on" 2 (aE nS K))(CL:az P w K mg base "rows_leaving" 1 (aE (vF true) K))(F:bh K "worths_in" "worths_in" rB f fd)(hm:mg "worths_in"=some (.ref f))(hb:Binds K fd ["web","part"] []):az P w K mg base "worths_in" 3 (aE k6 K):=by
  have nd:=AG.nd
  have CN:=CN.mono (show 2≤2 by decide)
  have CL:=CL.mono (show 1≤2 by decide)
  refine bM F AG hm hb (fun qs T ⟨_,_,e,_⟩=>by rw [e];rfl) (fun cdv A outer s H E qs T hr hS=>?_)
  obtain ⟨v,p,rfl,hv,p0,p1,hR,rfl⟩:=hS
  have hu:(A.deeper (envOfC "worths_in" (ah rB) s.heap.objs.size f cdv)).units + 1 < cLine:=Nat.lt_of_le_of_lt (Nat.add_le_add_left (by decide:1≤64) _) hr.units
  have pl:=hv.pl
  have rl:=hv.rl
  have hs:=hv.sz (v.1.getD p.toNat 0) (by rw [List.getD_eq_getElem?_getD,List.getElem?_eq_getElem (by omega)];exact List.getElem_mem _)
  have ll:=fJ (v:=v) (p:=p)
  change WS _ _ [.im (ay (ag ae) (ag aA)) v,.im ae p,.no,.no,.no,.no,.no] _ _
  refine aj (lz 2 CN hr (af (aa 0 rfl) (af (aa 1 rfl) ao)) ⟨v,p,rfl,hv,p0,p1,hR,rfl⟩ ?_)
  rintro D ⟨hD,hDl⟩
  have hE:=kT hv p0 p1 hR
  have hget:∀z,0≤z→z < v.1.getD p.toNat 0→bX D z=some (onG v p z):=fun z z0 z1=>dw.get hv p0 p1 hR hD hDl z0 z1
  generalize onG v p=g at hE hget
  refine aj (de 3 (r:=ae) (wO (aC.im (aB (av ak aF) (by show 1≤sizeLine;decide))) (cj M.len (bI (aa 0 rfl))) (by omega) (by omega) (aP (by simp;omega))) ?_)
  rw [rep0,show ((v.2.length:Int)).toNat=v.2.length by omega]
  have rp:∀k,0≤k→k < (v.2.length:Int)→vd v.1 (rowOf v k):=fun k k0 k1=>hv.eN (by unfold rowOf;rw [List.getD_eq_getElem?_getD,List.getElem?_eq_getElem (by omega)];exact List.getElem_mem _)
  have w0:rf v p g 0 0 0 (List.replicate v.2.length 0):=by
    refine ⟨List.length_replicate,fun k k0 k1=>?_⟩
    rw [List.getD_eq_getElem?_getD,List.getElem?_replicate,if_pos (by omega),if_neg]
    · rfl
    · rintro ⟨_,z | ⟨_,z⟩⟩
      · have:=(rp k k0 k1).s0;omega
      · simp at z
  refine aj (du (r:=ag ae) (fun i Γ=>∃xs v4 v5 v6,Γ=[.im (ay (ag ae) (ag aA)) v,.im ae p,.im jk D,.mu ae xs,v4,v5,v6]∧rf v p g (i:Int) 0 0 xs)
    (ba (aC.im (ka CL hr (af (aa 0 rfl) (af (aa 1 rfl) ao)) ⟨v,p,rfl,hv,p0,p1,rfl⟩))) (aM 4) ⟨_,_,_,_,rfl,w0⟩ ?_ ?_)
  · rintro i ns Γ hq ⟨xs,v4,v5,v6,rfl,hW⟩
    obtain ⟨hi,rfl⟩:=sC hq
    refine aj (aK 5 ak ?_)
    refine ar (du (r:=ae) (fun j Γ=>∃xs v6,Γ=[.im (ay (ag ae) (ag aA)) v,.im ae p,.im jk D,.mu ae xs,.im (ag ae) (fromF v p (i:Int)),.im ae ((((fromF v p (i:Int)).take j).map fun k=>g (cu v k)).sum),v6]∧rf v p g (i:Int) (i:Int) j xs)
      (ba (aa 4 rfl)) (aM 6) ⟨xs,_,rfl,⟨hW.len,fun k k0 k1=>by rw [hW.val k k0 k1];simp⟩⟩ ?_ ?_)
    · rintro j k Γ hk ⟨xs,v6,rfl,hW⟩
      have km:=List.mem_of_getElem? hk
      obtain ⟨k0,k1,kp,kq,kr⟩:=cC km
      have hl:=hW.len
      have tk:(fromF v p (i:Int)).take (j + 1)=(fromF v p (i:Int)).take j++[k]:=by rw [List.take_succ,hk];rfl
      refine aj (lK 3 (aa 5 rfl) (aa 6 rfl) rfl rfl (fi k0 (by omega)) ?_)
      have q:=hv.eN kr
      have e0:=q.e0;have en:=q.en
      rw [kp] at en
      refine ar (yw 5 (nU hu (aa 2 rfl) (dh (bB (bI (aa 0 rfl)) (aa 6 rfl) (cH cf k0 k1))) (hget _ e0 en)) rfl ?_)
      have es:(((fromF v p (i:Int)).take (j + 1)).map fun k=>g (cu v k)).sum=(((fromF v p (i:Int)).take j).map fun k=>g (cu v k)).sum + g (rowOf v k).2.2.1:=by rw [tk,List.map_append,List.sum_append];simp [cu]
      refine ⟨xs.set k.toNat ((((fromF v p (i:Int)).take j).map fun k=>g (cu v k)).sum),.im ae k,by rw [es];rfl,by rw [List.length_set];exact hl,fun m m0 m1=>?_⟩
      by_cases e:m=k
      · subst e
        have hw:cG v p g m=(((fromF v p (i:Int)).take j).map fun k=>g (cu v k)).sum:=by
          unfold cG
          rw [if_pos kp,kq,before hk]
        rw [List.getD_eq_getElem?_getD,List.getElem?_set_self (by omega),if_pos ⟨kp,.inr ⟨kq,by rw [tk];simp⟩⟩,hw];rfl
      · have:(xs.set k.toNat ((((fromF v p (i:Int)).take j).map fun k=>g (cu v k)).sum)).getD m.toNat 0=xs.getD m.toNat 0:=by
          rw [List.getD_eq_getElem?_getD,List.getElem?_set_ne (by omega),← List.getD_eq_getElem?_getD]
        rw [this,hW.val m m0 m1,tk]
        have:m∈(fromF v p (i:Int)).take j++[k]↔m∈(fromF v p (i:Int)).take j:=by
          rw [List.mem_append,List.mem_singleton]
          exact ⟨fun z=>z.resolve_right e,.inl⟩
        simp only [this]
    · rintro Γ ⟨xs,v6,rfl,hW⟩
      refine ⟨xs,_,_,_,rfl,hW.len,fun k k0 k1=>?_⟩
      rw [hW.val k k0 k1,List.take_length]
      have hiff:((rowOf v k).1=p∧((rowOf v k).2.1 < (i:Int)∨((rowOf v k).2.1=(i:Int)∧k∈fromF v p (i:Int))))↔((rowOf v k).1=p∧((rowOf v k).2.1 < ((i + 1:Nat):Int)∨((rowOf v k).2.1=0∧k∈(fromF v p 0).take 0))):=by
        constructor
        · rintro ⟨a,b | ⟨b,_⟩⟩
          · exact ⟨a,.inl (by omega)⟩
          · exact ⟨a,.inl (by omega)⟩
        · rintro ⟨a,b | ⟨_,b⟩⟩
          · by_cases z:(rowOf v k).2.1 < (i:Int)
            · exact ⟨a,.inl z⟩
            · have e:(rowOf v k).2.1=(i:Int):=by omega
              refine ⟨a,.inr ⟨e,?_⟩⟩
              unfold fromF
              exact List.mem_filter.mpr ⟨bE.mpr ⟨k0,k1⟩,decide_eq_true (by rw [a,e])⟩
          · simp at b
      by_cases c:(rowOf v k).1=p∧((rowOf v k).2.1 < (i:Int)∨((rowOf v k).2.1=(i:Int)∧k∈fromF v p (i:Int)))
      · rw [if_pos c,if_pos (hiff.mp c)]
      · rw [if_neg c,if_neg (fun z=>c (hiff.mpr z))]
  · rintro Γ ⟨xs,v4,v5,v6,rfl,hW⟩
    rw [fJ] at hW
    have hl:=hW.len
    refine ar (xI 3 rfl (aP (by omega)) ⟨g,hE,?_⟩)
    unfold dt
    refine List.ext_getElem? fun m=>?_
    by_cases hm:m < v.2.length
    · have hu:(ups 0 v.2.length)[m]?=some (m:Int):=iu hm
      have:=hW.val (m:Int) (by omega) (by omega)
      rw [show ((m:Int)).toNat=m by omega,List.getD_eq_getElem?_getD,List.getElem?_eq_getElem (by omega)] at this
      rw [List.getElem?_map,hu,List.getElem?_eq_getElem (by omega)]
      have this:xs[m]=_:=this
      rw [this]
      congr 1
      by_cases c:(rowOf v (m:Int)).1=p
      · have r:=rp (m:Int) (by omega) (by omega)
        have b:=r.sn
        rw [c] at b
        rw [if_pos ⟨c,.inl (by omega)⟩]
      · rw [if_neg (fun z=>c z.1)]
        unfold cG
        rw [if_neg c]
    · rw [List.getElem?_eq_none (by omega),List.getElem?_eq_none (by rw [List.length_map,aN];omega)]
noncomputable abbrev vH:Stmt:=top l9
theorem Ab:ax ["web","part"] ["web","part"] (ah vH):=⟨rfl,rfl,rfl,by decide +kernel,rfl,by decide +kernel,by decide +kernel⟩
theorem BW (CO:az P w K mg base "need_loose" 9 (aE wq K))(CI:az P w K mg base "worths_in" 3 (aE k6 K))(F:bh K "worths" "worths" vH f fd)(hm:mg "worths"=some (.ref f))(hb:Binds K fd ["web","part"] []):az P w K mg base "worths" 10 (aE k6 K):=by
  have nd:=Ab.nd
  have CI:=CI.mono (show 3≤9 by decide)
  refine bM F Ab hm hb (fun qs T ⟨_,_,e,_⟩=>by rw [e];rfl) (fun cdv A outer s H E qs T hr hS=>?_)
  obtain ⟨v,p,rfl,hv,p0,p1,hR,rfl⟩:=hS
  change WS _ _ [.im (ay (ag ae) (ag aA)) v,.im ae p] _ _
  refine aj (fM CO hr (af (aa 0 rfl) (af (aa 1 rfl) ao)) ⟨v,p,rfl,hv,p0,p1,hR,rfl⟩ ?_)
  exact ar (pk CI hr (af (aa 0 rfl) (af (aa 1 rfl) ao)) ⟨v,p,rfl,hv,p0,p1,hR,rfl⟩ fun z h=>h)
end
section
variable {P:Program}{w:World}{K:PySem.W.Frag}{mg:Str→Option Value}{base:Heap}{f:Addr}{fd:FuncData}
noncomputable abbrev vM:Stmt:=top mZ
theorem xY:ax ["web","part"] ["web","part"] (ah vM):=⟨rfl,rfl,rfl,by decide +kernel,rfl,by decide +kernel,by decide +kernel⟩
theorem BI (CT:az P w K mg base "worths" 10 (aE k6 K))(F:bh K "steps" "steps" vM f fd)(hm:mg "steps"=some (.ref f))(hb:Binds K fd ["web","part"] []):az P w K mg base "steps" 11 (aE k6 K):=by
  have nd:=xY.nd
  refine bM F xY hm hb (fun qs T ⟨_,_,e,_⟩=>by rw [e];rfl) (fun cdv A outer s H E qs T hr hS=>?_)
  obtain ⟨v,p,rfl,hv,p0,p1,hR,rfl⟩:=hS
  change WS _ _ [.im (ay (ag ae) (ag aA)) v,.im ae p] _ _
  exact ar (pk CT hr (af (aa 0 rfl) (af (aa 1 rfl) ao)) ⟨v,p,rfl,hv,p0,p1,hR,rfl⟩ fun z h=>h)
end
section
variable {P:Program}{w:World}{K:PySem.W.Frag}{mg:Str→Option Value}{base:Heap}{f:Addr}{fd:FuncData}
noncomputable abbrev t9:Stmt:=top pC
theorem zQ:ax ["web","part"] ["web","part"] (ah t9):=⟨rfl,rfl,rfl,by decide +kernel,rfl,by decide +kernel,by decide +kernel⟩
theorem Bw (M:bU mg)(CO:az P w K mg base "need_loose" 9 (aE wq K))(CN:az P w K mg base "ways_on" 2 (aE nS K))(F:bh K "ways" "ways" t9 f fd)(hm:mg "ways"=some (.ref f))(hb:Binds K fd ["web","part"] []):az P w K mg base "ways" 10 (aE CJ K):=by
  have nd:=zQ.nd
  have CN:=CN.mono (show 2≤9 by decide)
  obtain ⟨t2,hB⟩:=M.begin_
  refine bM F zQ hm hb (fun qs T ⟨_,_,e,_⟩=>by rw [e];rfl) (fun cdv A outer s H E qs T hr hS=>?_)
  obtain ⟨v,p,rfl,hv,p0,p1,hR,rfl⟩:=hS
  have hu:(A.deeper (envOfC "ways" (ah t9) s.heap.objs.size f cdv)).units + 1 < cLine:=Nat.lt_of_le_of_lt (Nat.add_le_add_left (by decide:1≤64) _) hr.units
  have hs:=hv.sz (v.1.getD p.toNat 0) (by rw [List.getD_eq_getElem?_getD,List.getElem?_eq_getElem (by omega)];exact List.getElem_mem _)
  change WS _ _ [.im (ay (ag ae) (ag aA)) v,.im ae p] _ _
  refine aj (fM CO hr (af (aa 0 rfl) (af (aa 1 rfl) ao)) ⟨v,p,rfl,hv,p0,p1,hR,rfl⟩ ?_)
  exact ar (bA (fq hu CN hr (af (aa 0 rfl) (af (aa 1 rfl) ao)) ⟨v,p,rfl,hv,p0,p1,hR,rfl⟩ (cF hB) (fun F ⟨h1,h2⟩=>dw.get hv p0 p1 hR h1 h2 (by omega) (by omega))) ⟨onG v p,kT hv p0 p1 hR,rfl⟩)
end
theorem oQ:∀(xs:List Int),(∀x∈xs,0≤x)→0≤xs.sum
  | [],_=>by simp
  | x::xs,h=>by
    rw [List.sum_cons]
    have:=h x List.mem_cons_self
    have:=oQ xs fun y hy=>h y (List.mem_cons_of_mem _ hy)
    omega
theorem step_at (g:Nat→Int)(l:Int):∀n,g 0≤l→l < g n→∃i,i < n∧g i≤l∧l < g (i + 1)
  | 0,h0,h1=>by omega
  | n + 1,h0,h1=>by
    by_cases e:g n≤l
    · exact ⟨n,by omega,e,h1⟩
    · obtain ⟨i,h2,h3,h4⟩:=step_at g l n h0 (by omega)
      exact ⟨i,by omega,h3,h4⟩
theorem xw {g:Nat→Int}{n:Nat}(h:∀i,i < n→g i≤g (i + 1)):∀{i j:Nat},i≤j→j≤n→g i≤g j:=by
  intro i j hij
  induction hij with
  | refl=>intro _;exact Int.le_refl _
  | step _ ih=>intro hj;exact Int.le_trans (ih (by omega)) (h _ (by omega))
theorem nQ {v:aH}(hv:bJ v){p:Int}(p0:0≤p)(hR:cL v.2 p.toNat){r:Row}(hr:r∈v.2)(hp:r.1=p):eX (fwd v.2 p) r.2.2.1 < eX (fwd v.2 p) r.2.1:=by
  have ht:(r.2.1,r.2.2.1)∈fwd v.2 p:=gx.mpr ⟨r,hr,hp,rfl,rfl⟩
  have rp:=hv.eN hr
  have s0:=rp.s0;have sn:=rp.sn;have q1:=rp.p1;have q0:=rp.p0
  have sz:=hv.sz (v.1.getD r.1.toNat 0) (by rw [List.getD_eq_getElem?_getD,List.getElem?_eq_getElem (by omega)];exact List.getElem_mem _)
  exact pH ht ((oK hv p0).mp hR _ ht) s0 (by omega)
theorem ui {v:aH}(hv:bJ v){p:Int}(p0:0≤p)(hR:cL v.2 p.toNat){g:Int→Int}(hE:eL v p g):∀(n:Nat) (q:Int),eX (fwd v.2 p) q < n→0≤q→q < v.1.getD p.toNat 0→0≤g q
  | 0,q,h,_,_=>by omega
  | n + 1,q,h,q0,q1=>by
    by_cases e:q=1
    · rw [e,hE.one];decide
    · rw [hE.step q q0 q1 e]
      refine oQ _ fun y hy=>?_
      obtain ⟨z,hz,rfl⟩:=List.mem_map.mp hy
      obtain ⟨z0,z1,_,r,hr,r1,r2,r3⟩:=ki hv hz
      have:=nQ hv p0 hR hr r1
      rw [r2,r3] at this
      exact ui hv p0 hR hE n z (by omega) z0 z1
theorem jn {v:aH}{p:Int}{g:Int→Int}{k:Int}(k0:0≤k)(k1:k < (v.2.length:Int)):(dt v p g).getD k.toNat 0=cG v p g k:=by
  unfold dt
  rw [List.getD_eq_getElem?_getD,List.getElem?_map]
  unfold ups
  rw [List.getElem?_map,List.getElem?_range (by omega)]
  simp only [Option.map_some,Option.getD_some]
  rw [show (0:Int) + (k.toNat:Int)=k by omega]
noncomputable def ez (v:aH)(p:Int)(g:Int→Int)(left:Int)(k:Int):Bool:=decide ((dt v p g).getD k.toNat 0≤left)
theorem uz {v:aH}(hv:bJ v){p:Int}(p0:0≤p)(hR:cL v.2 p.toNat){g:Int→Int}(hE:eL v p g){q left:Int}(q0:0≤q)(q1:q < v.1.getD p.toNat 0)(qn:q≠1)(l0:0≤left)(l1:left < g q):
    ∃k,k∈fromF v p q∧cG v p g k≤left∧left - cG v p g k < g (cu v k)∧k∈(fromF v p q).filter (ez v p g left)∧∀x∈(fromF v p q).filter (ez v p g left),x≤k:=by
  have hg:g q=((fromF v p q).map fun k=>g (cu v k)).sum:=by
    rw [hE.step q q0 q1 qn]
    unfold goal
    rw [List.map_map];rfl
  have gn:∀k∈fromF v p q,0≤g (cu v k):=fun k hk=>by
    obtain ⟨_,_,h1,h2,h3⟩:=cC hk
    have r:=hv.eN h3
    have a:=r.e0;have b:=r.en
    rw [h1] at b
    exact ui hv p0 hR hE _ _ (Nat.lt_succ_self _) a b
  have tk:∀(i:Nat) (k:Int),(fromF v p q)[i]?=some k→(((fromF v p q).take (i + 1)).map fun k=>g (cu v k)).sum=(((fromF v p q).take i).map fun k=>g (cu v k)).sum + g (cu v k):=fun i k hk=>by
    rw [List.take_succ,hk,List.map_append,List.sum_append];simp
  obtain ⟨j,hj,h1,h2⟩:=step_at (fun i=>(((fromF v p q).take i).map fun k=>g (cu v k)).sum) left (fromF v p q).length (by simpa using l0) (by rw [List.take_length,← hg];exact l1)
  have h1:(((fromF v p q).take j).map fun k=>g (cu v k)).sum≤left:=h1
  have h2:left < (((fromF v p q).take (j + 1)).map fun k=>g (cu v k)).sum:=h2
  obtain ⟨k,hk⟩:∃k,(fromF v p q)[j]?=some k:=⟨_,List.getElem?_eq_getElem hj⟩
  have wa:∀(i:Nat) (x:Int),(fromF v p q)[i]?=some x→cG v p g x=(((fromF v p q).take i).map fun k=>g (cu v k)).sum:=fun i x hx=>by
    obtain ⟨_,_,e1,e2,_⟩:=cC (List.mem_of_getElem? hx)
    unfold cG
    rw [if_pos e1,e2,before hx]
  have wf:∀(i:Nat) (x:Int),(fromF v p q)[i]?=some x→(dt v p g).getD x.toNat 0=(((fromF v p q).take i).map fun k=>g (cu v k)).sum:=fun i x hx=>by
    obtain ⟨e0,e1,_⟩:=cC (List.mem_of_getElem? hx)
    rw [jn e0 e1,wa i x hx]
  have h3:=tk j k hk
  refine ⟨k,List.mem_of_getElem? hk,by rw [wa j k hk];exact h1,by rw [wa j k hk];omega,List.mem_filter.mpr ⟨List.mem_of_getElem? hk,?_⟩,fun x hx=>?_⟩
  · unfold ez
    rw [wf j k hk];exact decide_eq_true h1
  · obtain ⟨hx1,hx2⟩:=List.mem_filter.mp hx
    obtain ⟨i,hi⟩:=List.mem_iff_getElem?.mp hx1
    unfold ez at hx2
    have hx2:=of_decide_eq_true hx2
    rw [wf i x hi] at hx2
    have il:=(List.getElem?_eq_some_iff.mp hi).1
    have mono:∀m,m < (fromF v p q).length→(((fromF v p q).take m).map fun k=>g (cu v k)).sum≤(((fromF v p q).take (m + 1)).map fun k=>g (cu v k)).sum:=fun m hm=>by
      rw [tk m _ (List.getElem?_eq_getElem hm)]
      have:=gn _ (List.getElem_mem hm)
      omega
    have ij:i≤j:=Nat.le_of_not_lt fun z=>by
      have:=xw (g:=fun i=>(((fromF v p q).take i).map fun k=>g (cu v k)).sum) mono (i:=j + 1) (j:=i) (by omega) (by omega)
      have this:(((fromF v p q).take (j + 1)).map fun k=>g (cu v k)).sum≤(((fromF v p q).take i).map fun k=>g (cu v k)).sum:=this
      omega
    have hp:=mq v p q
    rcases Nat.lt_or_ge i j with z | z
    · have a1:=List.getElem?_eq_some_iff.mp hi
      have a2:=List.getElem?_eq_some_iff.mp hk
      have:=List.pairwise_iff_getElem.mp hp i j a1.1 a2.1 z
      rw [a1.2,a2.2] at this
      omega
    · have:i=j:=by omega
      subst this
      rw [hk] at hi;cases hi;exact Int.le_refl _
theorem zt (es:List (Int×Int))(a:Int):eX es a≤16:=by
  unfold eX
  refine Nat.le_trans (List.length_filter_le _ _) ?_
  rw [aN];exact Nat.le_refl _
noncomputable def iU (v:aH)(p:Int)(g:Int→Int):Nat→Int→Int→List Int
  | 0,_,_=>[]
  | m + 1,q,left=>if q=1 then [] else most ((fromF v p q).filter (ez v p g left))::iU v p g m (cu v (most ((fromF v p q).filter (ez v p g left)))) (left - cG v p g (most ((fromF v p q).filter (ez v p g left))))
section
variable {P:Program}{w:World}{K:PySem.W.Frag}{mg:Str→Option Value}{base:Heap}{f:Addr}{fd:FuncData}{C:Addr}
noncomputable abbrev ub:Stmt:=top uc
noncomputable abbrev Cj:List Str:=["web","known","leaving","number","way","place","left","row"]
theorem AN:ax Cj ["web","known","leaving","number"] (ah ub):=⟨rfl,rfl,rfl,by decide +kernel,rfl,by decide +kernel,by decide +kernel⟩
noncomputable def Df:bW:=fun K ps T=>∃(v:aH) (p:Int) (g:Int→Int) (n:Int),ps=[⟨bg,v⟩,⟨ag ae,dt v p g⟩,⟨ag (ag ae),dZ v p⟩,⟨ae,n⟩]∧bJ v∧0≤p∧p < (v.1.length:Int)∧cL v.2 p.toNat∧eL v p g∧0≤n∧n < g 0∧T=bC K (ag ae) (· =iU v p g 17 0 n)
theorem AV (M:bU mg)(F:bh K "way_by" "way_by" ub f fd)(hm:mg "way_by"=some (.ref f))(hb:Binds K fd ["web","known","leaving","number"] []):az P w K mg base "way_by" 1 (aE Df K):=by
  have nd:=AN.nd
  have nd1:List.Nodup [("choice":Str),"known","left"]:=by decide
  obtain ⟨t1,hB⟩:=M.begin_
  obtain ⟨t2,hEND⟩:=M.end_
  refine bM F AN hm hb (fun qs T ⟨_,_,_,_,e,_⟩=>by rw [e];rfl) (fun cdv A outer s H E qs T hr hS=>?_)
  obtain ⟨v,p,g,n,rfl,hv,p0,p1,hR,hE,n0,n1,rfl⟩:=hS
  have rl:=hv.rl
  have hs:=hv.sz (v.1.getD p.toNat 0) (by rw [List.getD_eq_getElem?_getD,List.getElem?_eq_getElem (by omega)];exact List.getElem_mem _)
  have ll:=fJ (v:=v) (p:=p)
  have wl:(dt v p g).length=v.2.length:=by unfold dt;rw [List.length_map,aN]
  change WS _ _ [.im (ay (ag ae) (ag aA)) v,.im (ag ae) (dt v p g),.im (ag (ag ae)) (dZ v p),.im ae n,.no,.no,.no,.no] _ _
  refine aj (de 4 (r:=ae) (aB aF (by decide)) ?_)
  refine aj (aK 5 (cF hB) ?_)
  refine aj (aK 6 (aa 3 rfl) ?_)
  refine aj (gu (fun m Γ=>∃way q left v7,Γ=[.im (ay (ag ae) (ag aA)) v,.im (ag ae) (dt v p g),.im (ag (ag ae)) (dZ v p),.im ae n,.mu ae way,.im ae q,.im ae left,v7]∧0≤q∧q < v.1.getD p.toNat 0∧0≤left∧left < g q∧m=eX (fwd v.2 p) q∧way.length + eX (fwd v.2 p) q≤16∧iU v p g 17 0 n=way++iU v p g (17 - way.length) q left) (m0:=eX (fwd v.2 p) 0) ⟨_,_,_,_,rfl,by decide,by omega,n0,n1,rfl,by have:=zt (fwd v.2 p) 0;simpa using this,rfl⟩ ?_)
  rintro m Γ ⟨way,q,left,v7,rfl,q0,q1,l0,l1,rfl,hl,hw⟩
  have ew:iU v p g (17 - way.length) q left=if q=1 then [] else most ((fromF v p q).filter (ez v p g left))::iU v p g (16 - way.length) (cu v (most ((fromF v p q).filter (ez v p g left)))) (left - cG v p g (most ((fromF v p q).filter (ez v p g left)))):=by
    rw [show 17 - way.length=(16 - way.length) + 1 by omega];rfl
  rw [ew] at hw
  refine ⟨_,_,aI nV (aa 5 rfl) (cF hEND),fun h=>?_,fun h=>?_⟩
  · have h:q≠1:=by simpa using h
    obtain ⟨k,km,w1,w2,kf,kx⟩:=uz hv p0 hR hE q0 q1 h l0 l1
    obtain ⟨k0,k1,kp,kq,kr⟩:=cC km
    have lat:cA (dZ v p) q=some (fromF v p q):=by
      rw [eO q0 (by omega)]
      unfold dZ
      rw [List.getElem?_map,iu (by omega)]
      simp only [Option.map_some]
      rw [show ((q.toNat:Nat):Int)=q by omega]
    have w0:0≤cG v p g k:=by
      unfold cG
      rw [if_pos kp]
      refine oQ _ fun y hy=>?_
      obtain ⟨j,hj,rfl⟩:=List.mem_map.mp hy
      rw [kq] at hj
      obtain ⟨_,_,j1,j2,j3⟩:=cC (List.mem_filter.mp hj).1
      have r:=hv.eN j3
      have a:=r.e0;have b:=r.en
      rw [j1] at b
      exact ui hv p0 hR hE _ _ (Nat.lt_succ_self _) a b
    refine aj (aK 7 (y:=k) (EV.cast (xh M.max (aC.im (bj (own:=["choice"]) (fr:=["known","left"]) (ix:=[1,6]) (ra:=ae) (rb:=ae) (p:=ez v p g left) (f:=fun x=>x) (bc (so:=ah ub) (N0:=Cj) rfl rfl (fun x h=>aV h) (by decide +kernel)) (ba (bB (aa 2 rfl) (aa 5 rfl) lat))
      (fun C s H ex=>aM 0) (fun x=>⟨.inr rfl,.inl rfl,.inl rfl,trivial⟩) (fun C s H ex x hx=>gD (aI eW (bB (aa 1 rfl) (aa 0 rfl) (by have:=cC hx;exact cD this.1 (by omega))) (aa 2 rfl))) (fun C s H ex x hx _=>aa 0 rfl))) (by rw [List.map_id'];exact List.ne_nil_of_mem kf)) (by rw [List.map_id'];exact lB kf kx)) ?_)
    refine aj (w_subN 6 (c:=cG v p g k) (bB (aa 1 rfl) (aa 7 rfl) (by rw [cD k0 (by omega),jn k0 k1])) rfl ?_)
    refine aj (eA 4 (aa 7 rfl) rfl rfl (Nat.lt_of_le_of_lt (show way.length≤1000 by omega) (by decide)) ?_)
    refine ar (aK 5 (dh (bB (y:=rowOf v k) (bI (aa 0 rfl)) (aa 7 rfl) (cH cf k0 k1))) ?_)
    have cd:=nQ hv p0 hR kr kp
    rw [kq] at cd
    have r:=hv.eN kr
    have a:=r.e0;have b:=r.en
    rw [kp] at b
    refine ⟨eX (fwd v.2 p) (rowOf v k).2.2.1,cd,_,_,_,_,rfl,a,b,by omega,w2,rfl,?_,?_⟩
    · rw [List.length_append,List.length_singleton];omega
    · rw [if_neg h,lB kf kx] at hw
      rw [hw,List.append_assoc,List.length_append,List.length_singleton,show 17 - (way.length + 1)=16 - way.length by omega];rfl
  · have h:q=1:=by simpa using h
    rw [if_pos h,List.append_nil] at hw
    exact ar (bA (dN 4 rfl (aP (by omega))) hw.symm)
end
noncomputable def mz (v:aH)(p q k:Int):Bool:=(decide (0≤k)&&decide (k < (v.2.length:Int)))&&decide (((rowOf v k).1,(rowOf v k).2.1)=(p,q))
noncomputable def dJ (v:aH)(p:Int):Int→List Int→Bool
  | q,[]=>decide (q=1)
  | q,k::ks=>mz v p q k&&dJ v p (cu v k) ks
theorem jJ {v:aH}{p:Int}:∀{xs:List Int} {q:Int},dJ v p q xs=true→∀k∈xs,0≤k∧k < (v.2.length:Int)
  | [],_,_,k,hk=>by cases hk
  | x ::xs,q,h,k,hk=>by
    rw [dJ,Bool.and_eq_true] at h
    rcases List.mem_cons.mp hk with rfl | hk
    · have:=Bool.and_eq_true_iff.mp (Bool.and_eq_true_iff.mp h.1).1
      exact ⟨of_decide_eq_true this.1,of_decide_eq_true this.2⟩
    · exact jJ h.2 k hk
section
variable {P:Program}{w:World}{K:PySem.W.Frag}{mg:Str→Option Value}{base:Heap}{f:Addr}{fd:FuncData}{C:Addr}
noncomputable abbrev vV:Stmt:=top rC
theorem An:ax ["web","number"] ["web","number"] (ah vV):=⟨rfl,rfl,rfl,by decide +kernel,rfl,by decide +kernel,by decide +kernel⟩
noncomputable def C9:bW:=fun K ps T=>∃(v:aH) (k:Int),ps=[⟨bg,v⟩,⟨ae,k⟩]∧T=bC K aO (· =(decide (0≤k)&&decide (k < (v.2.length:Int))))
theorem BL (M:bU mg)(CI:az P w K mg base "is_whole" 1 (aE qa K))(F:bh K "is_row" "is_row" vV f fd)(hm:mg "is_row"=some (.ref f))(hb:Binds K fd ["web","number"] []):az P w K mg base "is_row" 2 (aE C9 K):=by
  have nd:=An.nd
  refine bM F An hm hb (fun qs T ⟨_,_,e,_⟩=>by rw [e];rfl) (fun cdv A outer s H E qs T hr hS=>?_)
  obtain ⟨v,k,rfl,rfl⟩:=hS
  change WS _ _ [.im (ay (ag ae) (ag aA)) v,.im ae k] _ _
  exact ar (bA (ei (aW CI hr (af (aa 1 rfl) ao) ⟨k,rfl,rfl⟩) (fun _=>ef (eY eW dH ak (aa 1 rfl) (cj M.len (bI (aa 0 rfl)))))) (Bool.true_and _))
noncomputable abbrev tf:Stmt:=top sd
noncomputable abbrev nCG:List Str:=["web","stack","number","row"]
theorem yt:ax nCG ["web","stack","number"] (ah tf):=⟨rfl,rfl,rfl,by decide +kernel,rfl,by decide +kernel,by decide +kernel⟩
noncomputable def Ak:bW:=fun K ps T=>∃(v:aH) (p q k:Int),ps=[⟨bg,v⟩,⟨ag (ay ae ae),[(p,q)]⟩,⟨ae,k⟩]∧T=bC K aO (· =mz v p q k)
theorem zh (CI:az P w K mg base "is_row" 2 (aE C9 K))(F:bh K "can_go" "can_go" tf f fd)(hm:mg "can_go"=some (.ref f))(hb:Binds K fd ["web","stack","number"] []):az P w K mg base "can_go" 3 (aE Ak K):=by
  have nd:=yt.nd
  refine bM F yt hm hb (fun qs T ⟨_,_,_,_,e,_⟩=>by rw [e];rfl) (fun cdv A outer s H E qs T hr hS=>?_)
  obtain ⟨v,p,q,k,rfl,rfl⟩:=hS
  have hu1:(A.deeper (envOfC "can_go" (ah tf) s.heap.objs.size f cdv)).units + (0 + 1) < cLine:=Nat.lt_of_le_of_lt (Nat.add_le_add_left (by decide:1≤64) _) hr.units
  change WS _ _ [.im (ay (ag ae) (ag aA)) v,.im (ag (ay ae ae)) [(p,q)],.im ae k,.no] _ _
  refine aj (bu (TW.tv (fU (bH (Bd 1 rfl)) fun _=>eT (bH (aZ (aW CI hr (af (aa 0 rfl) (af (aa 2 rfl) ao)) ⟨v,k,rfl,rfl⟩))))) (fun h=>?_) (fun h=>aU ?_))
  · have h:(decide (0≤k)&&decide (k < (v.2.length:Int)))=false:=by
      cases z:(decide (0≤k)&&decide (k < (v.2.length:Int))) with
      | false=>rfl
      | true=>rw [z] at h;simp at h
    refine ar (bA eK ?_)
    unfold mz
    rw [h];rfl
  · have h:(decide (0≤k)&&decide (k < (v.2.length:Int)))=true:=by simpa using h
    have h':=Bool.and_eq_true_iff.mp h
    refine aj (aK 3 (y:=rowOf v k) (bB (bI (aa 0 rfl)) (aa 2 rfl) (cH cf (of_decide_eq_true h'.1) (of_decide_eq_true h'.2))) ?_)
    refine ar (bA (dz (wC (r:=ae) (r':=ae) eq_int eq_int hu1 hu1) (cQ (af (gy (aa 3 rfl)) (af (fH (aa 3 rfl)) ao))) (bB (y:=(p,q)) (aa 1 rfl) (cP ak) rfl)) ?_)
    unfold mz
    rw [h];rfl
noncomputable abbrev vW:Stmt:=top kc
noncomputable abbrev nLT:List Str:=["web","part","rows","place","number"]
theorem zu:ax nLT ["web","part","rows"] (ah vW):=⟨rfl,rfl,rfl,by decide +kernel,rfl,by decide +kernel,by decide +kernel⟩
noncomputable def Dk:bW:=fun K ps T=>∃(v:aH) (p:Int) (xs:List Int),ps=[⟨bg,v⟩,⟨ae,p⟩,⟨ag ae,xs⟩]∧xs.length≤1000∧T=bC K aO (· =dJ v p 0 xs)
theorem Br (M:bU mg)(CG:az P w K mg base "can_go" 3 (aE Ak K))(F:bh K "leads_through" "leads_through" vW f fd)(hm:mg "leads_through"=some (.ref f))(hb:Binds K fd ["web","part","rows"] []):az P w K mg base "leads_through" 4 (aE Dk K):=by
  have nd:=zu.nd
  obtain ⟨t1,hB⟩:=M.begin_
  obtain ⟨t2,hEND⟩:=M.end_
  refine bM F zu hm hb (fun qs T ⟨_,_,_,e,_⟩=>by rw [e];rfl) (fun cdv A outer s H E qs T hr hS=>?_)
  obtain ⟨v,p,xs,rfl,hl,rfl⟩:=hS
  change WS _ _ [.im (ay (ag ae) (ag aA)) v,.im ae p,.im (ag ae) xs,.no,.no] _ _
  refine aj (bu (bH (aZ (eC M.isinstance M.list PyProof.Rows.boot_list (aa 2 rfl) ty_list (b:=true)))) (fun h=>absurd h (by decide)) (fun _=>aU ?_))
  refine aj (aK 3 (cF hB) ?_)
  refine aj (du (r:=ae) (fun i Γ=>∃q v4,Γ=[.im (ay (ag ae) (ag aA)) v,.im ae p,.im (ag ae) xs,.im ae q,v4]∧dJ v p 0 xs=dJ v p q (xs.drop i)) (ba (aa 2 rfl)) (aM 4) ⟨0,_,rfl,rfl⟩ ?_ ?_)
  · rintro i k Γ hk ⟨q,v4,rfl,hc⟩
    have hd:xs.drop i=k::xs.drop (i + 1):=by
      obtain ⟨h1,h2⟩:=List.getElem?_eq_some_iff.mp hk
      rw [List.drop_eq_getElem_cons h1,h2]
    rw [hd,dJ] at hc
    refine aj (bu (bH (aZ (aW CG hr (af (aa 0 rfl) (af (aC.im (aB (r:=ay ae ae) (av (cQ (af (aa 1 rfl) (af (aa 3 rfl) ao))) aF) (by show 1≤sizeLine;decide))) (af (aa 4 rfl) ao))) ⟨v,p,q,k,rfl,rfl⟩))) (fun h=>?_) (fun h=>aU ?_))
    · have h:mz v p q k=false:=by simpa using h
      refine ar (bA eK ?_)
      rw [hc,h];rfl
    · have h:mz v p q k=true:=by simpa using h
      have h':=Bool.and_eq_true_iff.mp (Bool.and_eq_true_iff.mp h).1
      refine ar (aK 3 (y:=cu v k) (dh (bB (y:=rowOf v k) (bI (aa 0 rfl)) (aa 4 rfl) (cH cf (of_decide_eq_true h'.1) (of_decide_eq_true h'.2)))) ?_)
      exact ⟨cu v k,_,rfl,by rw [hc,h];rfl⟩
  · rintro Γ ⟨q,v4,rfl,hc⟩
    rw [List.drop_length] at hc
    refine ar (bA (dz bT (aa 3 rfl) (cF hEND)) ?_)
    rw [hc,dJ]
end
section
variable {P:Program}{w:World}{K:PySem.W.Frag}{mg:Str→Option Value}{base:Heap}{f:Addr}{fd:FuncData}{C:Addr}
noncomputable abbrev rT:Stmt:=top ja
noncomputable abbrev Cq:List Str:=["web","part","way","known"]
theorem yP:ax Cq ["web","part","way"] (ah rT):=⟨rfl,rfl,rfl,by decide +kernel,rfl,by decide +kernel,by decide +kernel⟩
noncomputable def yp (C:Addr):fh:=fun K ps o=>∃(v:aH) (p:Int) (xs:List Int),ps=[⟨bg,v⟩,⟨ae,p⟩,⟨ag ae,xs⟩]∧bJ v∧0≤p∧p < (v.1.length:Int)∧cL v.2 p.toNat∧xs.length≤1000∧((dJ v p 0 xs=true∧o= .ret (bC K ae fun n=>∃g,eL v p g∧n=(xs.map (cG v p g)).sum))∨(dJ v p 0 xs=false∧o= .exc (.ref C)))
theorem Cf (M:bU mg)(hC:iY K mg "NoWay" C)(CT:az P w K mg base "worths" 10 (aE k6 K))(CL:az P w K mg base "leads_through" 4 (aE Dk K))(F:bh K "number_of" "number_of" rT f fd)(hm:mg "number_of"=some (.ref f))(hb:Binds K fd ["web","part","way"] []):bz P w K mg base "number_of" 11 (bS (yp C) K):=by
  have nd:=yP.nd
  have nd1:List.Nodup [("number":Str),"known"]:=by decide
  have CL:=CL.mono (show 4≤10 by decide)
  refine kG F yP hm hb (fun qs T ⟨_,_,_,e,_⟩=>by rw [e];rfl) (fun cdv A outer s H E qs T hr hS=>?_) (fun cdv A outer s H R E qs c hr hS q=>?_)
  · obtain ⟨v,p,xs,rfl,hv,p0,p1,hR,hl,⟨hc,e⟩ | ⟨_,e⟩⟩:=hS
    · cases e
      have rl:=hv.rl
      change WS _ _ [.im (ay (ag ae) (ag aA)) v,.im ae p,.im (ag ae) xs,.no] _ _
      refine aj (hZ 3 CT hr (af (aa 0 rfl) (af (aa 1 rfl) ao)) ⟨v,p,rfl,hv,p0,p1,hR,rfl⟩ ?_)
      rintro ws ⟨g,hE,rfl⟩ hz
      have wl:(dt v p g).length=v.2.length:=by unfold dt;rw [List.length_map,aN]
      refine WS.freeze 3 rfl hz ?_
      refine aj (bu (bH (aZ (aW CL hr (af (aa 0 rfl) (af (aa 1 rfl) (af (aa 2 rfl) ao))) ⟨v,p,xs,rfl,hl,rfl⟩))) (fun h=>by rw [hc] at h;exact absurd h (by decide)) (fun _=>aU ?_))
      refine ar (bA (oj M.sum (aC.im (bj (own:=["number"]) (fr:=["known"]) (ix:=[3]) (ra:=ae) (rb:=ae) (p:=fun _=>true) (f:=fun k=>(dt v p g).getD k.toNat 0) (bc (so:=ah rT) (N0:=Cq) rfl rfl (fun x h=>aV h) (by decide +kernel)) (ba (aa 2 rfl))
        (fun C s H ex=>aM 0) (fun x=>⟨.inr rfl,.inl rfl,trivial⟩) (fun C s H ex x hx=>bP) (fun C s H ex x hx h=>bB (aa 1 rfl) (aa 0 rfl) (by have:=jJ hc x hx;exact cD this.1 (by omega)))))) ⟨g,hE,?_⟩)
      rw [List.filter_eq_self.mpr (by simp)]
      congr 1
      exact List.map_congr_left fun k hk=>jn (jJ hc k hk).1 (jJ hc k hk).2
    · cases e
  · obtain ⟨v,p,xs,rfl,hv,p0,p1,hR,hl,⟨_,e⟩ | ⟨hc,e⟩⟩:=hS
    · cases e
    · cases e
      change RS _ H R _ [.im (ay (ag ae) (ag aA)) v,.im ae p,.im (ag ae) xs,.no]
      refine gz (N1:=fun Γ=>∃ws,Γ=[.im (ay (ag ae) (ag aA)) v,.im ae p,.im (ag ae) xs,.mu ae ws]) (hZ 3 CT hr (af (aa 0 rfl) (af (aa 1 rfl) ao)) ⟨v,p,rfl,hv,p0,p1,hR,rfl⟩ fun ws _ _=>⟨ws,rfl⟩) fun Γ' e=>?_
      obtain ⟨ws,rfl⟩:=e
      exact jw (TV.cast (bH (aZ (aW CL hr (af (aa 0 rfl) (af (aa 1 rfl) (af (aa 2 rfl) ao))) ⟨v,p,xs,rfl,hl,rfl⟩))) (by rw [hc];rfl)) (gJ hC q)
end
noncomputable def jX (v:aH)(p:Int)(ns:List Int):Bool:=((ns.filter fun _=>true).map fun n=>true&&(decide (0≤n)&&decide (n < onG v p 0))).all id
section
variable {P:Program}{w:World}{K:PySem.W.Frag}{mg:Str→Option Value}{base:Heap}{f:Addr}{fd:FuncData}{C:Addr}
noncomputable abbrev kZ:Stmt:=top qI
noncomputable abbrev vJ:List Str:=["web","part","numbers","known","count","leaving"]
theorem Aq:ax vJ ["web","part","numbers"] (ah kZ):=⟨rfl,rfl,rfl,by decide +kernel,rfl,by decide +kernel,by decide +kernel⟩
noncomputable def De (C:Addr):fh:=fun K ps o=>∃(v:aH) (p:Int) (ns:List Int),ps=[⟨bg,v⟩,⟨ae,p⟩,⟨ag ae,ns⟩]∧bJ v∧0≤p∧p < (v.1.length:Int)∧cL v.2 p.toNat∧ns.length≤1000∧((jX v p ns=true∧o= .ret (jm K (ag ae) fun L=>∃g,eL v p g∧L=ns.map (iU v p g 17 0)))∨(jX v p ns=false∧o= .exc (.ref C)))
theorem BN (M:bU mg)(hC:iY K mg "NoWay" C)(CI:az P w K mg base "is_whole" 1 (aE qa K))(CT:az P w K mg base "worths_in" 3 (aE k6 K))(CN:az P w K mg base "ways_on" 2 (aE nS K))(CL:az P w K mg base "rows_leaving" 1 (aE (vF true) K))(CB:az P w K mg base "way_by" 1 (aE Df K))(F:bh K "ways_of" "ways_of" kZ f fd)(hm:mg "ways_of"=some (.ref f))(hb:Binds K fd ["web","part","numbers"] []):bz P w K mg base "ways_of" 11 (bS (De C) K):=by
  have nd:=Aq.nd
  have nd1:List.Nodup [("number":Str),"count"]:=by decide
  have nd2:List.Nodup [("number":Str),"known","leaving","web"]:=by decide
  have CI:=CI.mono (show 1≤10 by decide)
  have CT:=CT.mono (show 3≤10 by decide)
  have CN:=CN.mono (show 2≤10 by decide)
  have CL:=CL.mono (show 1≤10 by decide)
  have CB:=CB.mono (show 1≤10 by decide)
  obtain ⟨t2,hB⟩:=M.begin_
  refine kG F Aq hm hb (fun qs T ⟨_,_,_,e,_⟩=>by rw [e];rfl) (fun cdv A outer s H E qs T hr hS=>?_) (fun cdv A outer s H R E qs c hr hS q=>?_)
  · obtain ⟨v,p,ns,rfl,hv,p0,p1,hR,hl,⟨hc,e⟩ | ⟨_,e⟩⟩:=hS
    · cases e
      have hu:(A.deeper (envOfC "ways_of" (ah kZ) s.heap.objs.size f cdv)).units + 1 < cLine:=Nat.lt_of_le_of_lt (Nat.add_le_add_left (by decide:1≤64) _) hr.units
      have rl:=hv.rl
      have hs:=hv.sz (v.1.getD p.toNat 0) (by rw [List.getD_eq_getElem?_getD,List.getElem?_eq_getElem (by omega)];exact List.getElem_mem _)
      change WS _ _ [.im (ay (ag ae) (ag aA)) v,.im ae p,.im (ag ae) ns,.no,.no,.no] _ _
      refine aj (hZ 3 CT hr (af (aa 0 rfl) (af (aa 1 rfl) ao)) ⟨v,p,rfl,hv,p0,p1,hR,rfl⟩ ?_)
      rintro ws ⟨g,hE,rfl⟩ hz
      refine WS.freeze 3 rfl hz ?_
      refine aj (aK 4 (y:=onG v p 0) (fq hu CN hr (af (aa 0 rfl) (af (aa 1 rfl) ao)) ⟨v,p,rfl,hv,p0,p1,hR,rfl⟩ (cF hB) (fun F ⟨h1,h2⟩=>dw.get hv p0 p1 hR h1 h2 (by omega) (by omega))) ?_)
      refine aj (bu (bH (aZ (EV.cast (y':=jX v p ns) (ee M.all (aC.im (bj (own:=["number"]) (fr:=["count"]) (ix:=[4]) (ra:=ae) (rb:=aO) (p:=fun _=>true) (f:=fun n=>true&&(decide (0≤n)&&decide (n < onG v p 0))) (bc (so:=ah kZ) (N0:=vJ) rfl rfl (fun x h=>aV h) (by decide +kernel)) (ba (aa 2 rfl))
        (fun C s H ex=>aM 0) (fun x=>⟨.inr rfl,.inl rfl,trivial⟩) (fun C s H ex x hx=>bP) (fun C s H ex x hx h=>ei (aW CI hr (af (aa 0 rfl) ao) ⟨x,rfl,rfl⟩) (fun _=>ef (eY eW dH ak (aa 0 rfl) (aa 1 rfl))))))) rfl))) (fun h=>by rw [hc] at h;exact absurd h (by decide)) (fun _=>aU ?_))
      refine aj (aK 5 (aC.im (ka CL hr (af (aa 0 rfl) (af (aa 1 rfl) ao)) ⟨v,p,rfl,hv,p0,p1,rfl⟩)) ?_)
      have ok:∀x∈ns,0≤x∧x < g 0:=fun x hx=>by
        unfold jX at hc
        have:=all_map.mp hc x hx
        have:=Bool.and_eq_true_iff.mp (by simpa using this:(decide (0≤x)&&decide (x < onG v p 0))=true)
        have e:=hE.uniq hv p0 hR (kT hv p0 p1 hR) 0 (by decide) (by omega)
        rw [e]
        exact ⟨of_decide_eq_true this.1,of_decide_eq_true this.2⟩
      refine ar (Af (bj (own:=["number"]) (fr:=["known","leaving","web"]) (ix:=[3,5,0]) (ra:=ae) (rb:=ag ae) (p:=fun _=>true) (f:=iU v p g 17 0) (bc (so:=ah kZ) (N0:=vJ) rfl rfl (fun x h=>aV h) (by decide +kernel)) (ba (aa 2 rfl))
        (fun C s H ex=>aM 0) (fun x=>⟨.inr rfl,.inl rfl,.inl rfl,.inl rfl,trivial⟩) (fun C s H ex x hx=>bP) (fun C s H ex x hx h=>aW CB hr (af (aa 3 rfl) (af (aa 1 rfl) (af (aa 2 rfl) (af (aa 0 rfl) ao)))) ⟨v,p,g,x,rfl,hv,p0,p1,hR,hE,(ok x hx).1,(ok x hx).2,rfl⟩)) ⟨g,hE,?_⟩)
      rw [List.filter_eq_self.mpr (by simp)]
    · cases e
  · obtain ⟨v,p,ns,rfl,hv,p0,p1,hR,hl,⟨_,e⟩ | ⟨hc,e⟩⟩:=hS
    · cases e
    · cases e
      have hu:(A.deeper (envOfC "ways_of" (ah kZ) s.heap.objs.size f cdv)).units + 1 < cLine:=Nat.lt_of_le_of_lt (Nat.add_le_add_left (by decide:1≤64) _) hr.units
      have hs:=hv.sz (v.1.getD p.toNat 0) (by rw [List.getD_eq_getElem?_getD,List.getElem?_eq_getElem (by omega)];exact List.getElem_mem _)
      change RS _ H R _ [.im (ay (ag ae) (ag aA)) v,.im ae p,.im (ag ae) ns,.no,.no,.no]
      refine gz (N1:=fun Γ=>∃ws,Γ=[.im (ay (ag ae) (ag aA)) v,.im ae p,.im (ag ae) ns,.mu ae ws,.no,.no]) (hZ 3 CT hr (af (aa 0 rfl) (af (aa 1 rfl) ao)) ⟨v,p,rfl,hv,p0,p1,hR,rfl⟩ fun ws _ _=>⟨ws,rfl⟩) fun Γ' e=>?_
      obtain ⟨ws,rfl⟩:=e
      refine gz (N1:=fun Γ=>Γ=[.im (ay (ag ae) (ag aA)) v,.im ae p,.im (ag ae) ns,.mu ae ws,.im ae (onG v p 0),.no]) (aK 4 (y:=onG v p 0) (fq hu CN hr (af (aa 0 rfl) (af (aa 1 rfl) ao)) ⟨v,p,rfl,hv,p0,p1,hR,rfl⟩ (cF hB) (fun F ⟨h1,h2⟩=>dw.get hv p0 p1 hR h1 h2 (by omega) (by omega))) rfl) fun Γ' e=>?_
      subst e
      exact jw (TV.cast (bH (aZ (EV.cast (y':=jX v p ns) (ee M.all (aC.im (bj (own:=["number"]) (fr:=["count"]) (ix:=[4]) (ra:=ae) (rb:=aO) (p:=fun _=>true) (f:=fun n=>true&&(decide (0≤n)&&decide (n < onG v p 0))) (bc (so:=ah kZ) (N0:=vJ) rfl rfl (fun x h=>aV h) (by decide +kernel)) (ba (aa 2 rfl))
        (fun C s H ex=>aM 0) (fun x=>⟨.inr rfl,.inl rfl,trivial⟩) (fun C s H ex x hx=>bP) (fun C s H ex x hx h=>ei (aW CI hr (af (aa 0 rfl) ao) ⟨x,rfl,rfl⟩) (fun _=>ef (eY eW dH ak (aa 0 rfl) (aa 1 rfl))))))) rfl))) (by rw [hc];rfl)) (gJ hC q)
end
noncomputable def dR (Q:aH→Int→Prop)(C:Addr)(n:Nat):fh:=fun K ps o=>∃(v:aH) (p:Int) (qs:List Pk),ps=⟨bg,v⟩::⟨ae,p⟩::qs∧qs.length=n∧Q v p∧o= .exc (.ref C)
theorem eR {Q:aH→Int→Prop}{C:Addr}{n:Nat}{K:PySem.W.Frag}(qs:List Pk)(T:RT):¬dR Q C n K qs (.ret T):=fun ⟨_,_,_,_,_,_,h⟩=>by cases h
theorem dS {Q:aH→Int→Prop}{C:Addr}{n m:Nat}(e:m=n + 2){K:PySem.W.Frag}(qs:List Pk)(o:Out):dR Q C n K qs o→qs.length=m:=fun ⟨_,_,_,h,l,_⟩=>by rw [h,List.length_cons,List.length_cons,l,e]
section
variable {P:Program}{w:World}{K:PySem.W.Frag}{mg:Str→Option Value}{base:Heap}{f:Addr}{fd:FuncData}{C:Addr}{Q:aH→Int→Prop}
noncomputable abbrev yN:Stmt:=top jM
theorem vR:ax ["web","part"] ["web","part"] (ah yN):=⟨rfl,rfl,rfl,by decide +kernel,rfl,by decide +kernel,by decide +kernel⟩
theorem rW (CC:bz P w K mg base "need_part" 7 (bS (dR Q C 0) K))(F:bh K "is_loose" "is_loose" yN f fd)(hm:mg "is_loose"=some (.ref f))(hb:Binds K fd ["web","part"] []):bz P w K mg base "is_loose" 8 (bS (dR Q C 0) K):=by
  have nd:=vR.nd
  refine dC F vR hm hb (dS rfl) eR (fun cdv A outer s H R E qs c hr hS q=>?_)
  obtain ⟨v,p,qs',rfl,hl,hq,e⟩:=hS
  cases e
  cases List.length_eq_zero_iff.mp hl
  change RS _ H R _ [.im bg v,.im ae p]
  exact c9 (cy CC hr (af (aa 0 rfl) (af (aa 1 rfl) ao)) ⟨v,p,[],rfl,rfl,hq,rfl⟩ q)
noncomputable abbrev zp:Stmt:=top i3
theorem vY:ax ["web","part"] ["web","part"] (ah zp):=⟨rfl,rfl,rfl,by decide +kernel,rfl,by decide +kernel,by decide +kernel⟩
theorem tG (CC:bz P w K mg base "is_loose" 8 (bS (dR Q C 0) K))(F:bh K "need_loose" "need_loose" zp f fd)(hm:mg "need_loose"=some (.ref f))(hb:Binds K fd ["web","part"] []):bz P w K mg base "need_loose" 9 (bS (dR Q C 0) K):=by
  have nd:=vY.nd
  refine dC F vY hm hb (dS rfl) eR (fun cdv A outer s H R E qs c hr hS q=>?_)
  obtain ⟨v,p,qs',rfl,hl,hq,e⟩:=hS
  cases e
  cases List.length_eq_zero_iff.mp hl
  change RS _ H R _ [.im bg v,.im ae p]
  exact zY (cy CC hr (af (aa 0 rfl) (af (aa 1 rfl) ao)) ⟨v,p,[],rfl,rfl,hq,rfl⟩ q)
noncomputable abbrev xZ:Stmt:=top pC
theorem vG:ax ["web","part"] ["web","part"] (ah xZ):=⟨rfl,rfl,rfl,by decide +kernel,rfl,by decide +kernel,by decide +kernel⟩
theorem n6 (CC:bz P w K mg base "need_loose" 9 (bS (dR Q C 0) K))(F:bh K "ways" "ways" xZ f fd)(hm:mg "ways"=some (.ref f))(hb:Binds K fd ["web","part"] []):bz P w K mg base "ways" 10 (bS (dR Q C 0) K):=by
  have nd:=vG.nd
  refine dC F vG hm hb (dS rfl) eR (fun cdv A outer s H R E qs c hr hS q=>?_)
  obtain ⟨v,p,qs',rfl,hl,hq,e⟩:=hS
  cases e
  cases List.length_eq_zero_iff.mp hl
  change RS _ H R _ [.im bg v,.im ae p]
  exact c9 (cy CC hr (af (aa 0 rfl) (af (aa 1 rfl) ao)) ⟨v,p,[],rfl,rfl,hq,rfl⟩ q)
noncomputable abbrev yz:Stmt:=top l9
theorem wu:ax ["web","part"] ["web","part"] (ah yz):=⟨rfl,rfl,rfl,by decide +kernel,rfl,by decide +kernel,by decide +kernel⟩
theorem oR (CC:bz P w K mg base "need_loose" 9 (bS (dR Q C 0) K))(F:bh K "worths" "worths" yz f fd)(hm:mg "worths"=some (.ref f))(hb:Binds K fd ["web","part"] []):bz P w K mg base "worths" 10 (bS (dR Q C 0) K):=by
  have nd:=wu.nd
  refine dC F wu hm hb (dS rfl) eR (fun cdv A outer s H R E qs c hr hS q=>?_)
  obtain ⟨v,p,qs',rfl,hl,hq,e⟩:=hS
  cases e
  cases List.length_eq_zero_iff.mp hl
  change RS _ H R _ [.im bg v,.im ae p]
  exact c9 (cy CC hr (af (aa 0 rfl) (af (aa 1 rfl) ao)) ⟨v,p,[],rfl,rfl,hq,rfl⟩ q)
noncomputable abbrev x9:Stmt:=top mZ
theorem wx:ax ["web","part"] ["web","part"] (ah x9):=⟨rfl,rfl,rfl,by decide +kernel,rfl,by decide +kernel,by decide +kernel⟩
theorem nD (CC:bz P w K mg base "worths" 10 (bS (dR Q C 0) K))(F:bh K "steps" "steps" x9 f fd)(hm:mg "steps"=some (.ref f))(hb:Binds K fd ["web","part"] []):bz P w K mg base "steps" 11 (bS (dR Q C 0) K):=by
  have nd:=wx.nd
  refine dC F wx hm hb (dS rfl) eR (fun cdv A outer s H R E qs c hr hS q=>?_)
  obtain ⟨v,p,qs',rfl,hl,hq,e⟩:=hS
  cases e
  cases List.length_eq_zero_iff.mp hl
  change RS _ H R _ [.im bg v,.im ae p]
  exact r9 (cy CC hr (af (aa 0 rfl) (af (aa 1 rfl) ao)) ⟨v,p,[],rfl,rfl,hq,rfl⟩ q)
noncomputable abbrev yv:Stmt:=top ja
theorem vt:ax ["web","part","way","known"] ["web","part","way"] (ah yv):=⟨rfl,rfl,rfl,by decide +kernel,rfl,by decide +kernel,by decide +kernel⟩
theorem nj (CC:bz P w K mg base "worths" 10 (bS (dR Q C 0) K))(F:bh K "number_of" "number_of" yv f fd)(hm:mg "number_of"=some (.ref f))(hb:Binds K fd ["web","part","way"] []):bz P w K mg base "number_of" 11 (bS (dR Q C 1) K):=by
  have nd:=vt.nd
  refine dC F vt hm hb (dS rfl) eR (fun cdv A outer s H R E qs c hr hS q=>?_)
  obtain ⟨v,p,qs',rfl,hl,hq,e⟩:=hS
  cases e
  obtain ⟨q1,rfl⟩:∃q1,qs'=[q1]:=by
    match qs',hl with
    | [q1],_=>exact ⟨q1,rfl⟩
  change RS _ H R _ [.im bg v,.im ae p,.im q1.r q1.x,.no]
  exact xR 3 (cy CC hr (af (aa 0 rfl) (af (aa 1 rfl) ao)) ⟨v,p,[],rfl,rfl,hq,rfl⟩ q)
noncomputable abbrev ow:Stmt:=top rX
theorem mR:ax ["web","part","number"] ["web","part","number"] (ah ow):=⟨rfl,rfl,rfl,by decide +kernel,rfl,by decide +kernel,by decide +kernel⟩
theorem om (CC:bz P w K mg base "need_loose" 9 (bS (dR Q C 0) K))(F:bh K "way_of" "way_of" ow f fd)(hm:mg "way_of"=some (.ref f))(hb:Binds K fd ["web","part","number"] []):bz P w K mg base "way_of" 12 (bS (dR Q C 1) K):=by
  have nd:=mR.nd
  have CC:=CC.mono (show 9≤11 by decide)
  refine dC F mR hm hb (dS rfl) eR (fun cdv A outer s H R E qs c hr hS q=>?_)
  obtain ⟨v,p,qs',rfl,hl,hq,e⟩:=hS
  cases e
  obtain ⟨q1,rfl⟩:∃q1,qs'=[q1]:=by
    match qs',hl with
    | [q1],_=>exact ⟨q1,rfl⟩
  change RS _ H R _ [.im bg v,.im ae p,.im q1.r q1.x]
  exact c9 (cy CC hr (af (aa 0 rfl) (af (aa 1 rfl) ao)) ⟨v,p,[],rfl,rfl,hq,rfl⟩ q)
noncomputable def vQ (v:aH)(p:Int):Prop:=bJ v∧(decide (0≤p)&&decide (p < (v.1.length:Int)))=false
noncomputable def yj:bW:=fun K ps T=>∃(v:aH) (p:Int),ps=[⟨bg,v⟩,⟨ae,p⟩]∧T=bC K aO (· =(decide (0≤p)&&decide (p < (v.1.length:Int))))
theorem yf (M:bU mg)(CI:az P w K mg base "is_whole" 1 (aE qa K))(F:bh K "is_part" "is_part" sZ f fd)(hm:mg "is_part"=some (.ref f))(hb:Binds K fd ["web","part"] []):az P w K mg base "is_part" 2 (aE yj K):=by
  have nd:=qw.nd
  refine bM F qw hm hb (fun qs T ⟨_,_,e,_⟩=>by rw [e];rfl) (fun cdv A outer s H E qs T hr hS=>?_)
  obtain ⟨v,p,rfl,rfl⟩:=hS
  change WS _ _ [.im (ay (ag ae) (ag aA)) v,.im ae p] _ _
  exact ar (bA (ei (aW CI hr (af (aa 1 rfl) ao) ⟨p,rfl,rfl⟩) (fun _=>ef (eY eW dH ak (aa 1 rfl) (cj M.len (cU (aa 0 rfl)))))) (Bool.true_and _))
theorem AJ (hC:iY K mg "NoWay" C)(CN:az P w K mg base "need_web" 6 (aE zU K))(CP:az P w K mg base "is_part" 2 (aE yj K))(F:bh K "need_part" "need_part" p7 f fd)(hm:mg "need_part"=some (.ref f))(hb:Binds K fd ["web","part"] []):bz P w K mg base "need_part" 7 (bS (dR vQ C 0) K):=by
  have nd:=lA.nd
  have CP:=CP.mono (show 2≤6 by decide)
  refine dC F lA hm hb (dS rfl) eR (fun cdv A outer s H R E qs c hr hS q=>?_)
  obtain ⟨v,p,qs',rfl,hl,hq,e⟩:=hS
  cases e
  cases List.length_eq_zero_iff.mp hl
  change RS _ H R _ [.im bg v,.im ae p]
  refine gz (N1:=fun Γ=>Γ=[.im bg v,.im ae p]) (fM CN hr (af (aa 0 rfl) ao) ⟨v,rfl,hq.1,rfl⟩ rfl) fun Γ' e=>?_
  subst e
  exact jw (TV.cast (bH (aZ (aW CP hr (af (aa 0 rfl) (af (aa 1 rfl) ao)) ⟨v,p,rfl,rfl⟩))) (by rw [hq.2];rfl)) (gJ hC q)
noncomputable def oS (v:aH)(p:Int):Prop:=bJ v∧0≤p∧p < (v.1.length:Int)∧cW v p=false
theorem yD (hC:iY K mg "NoLoose" C)(CI:az P w K mg base "is_loose" 8 (aE vO K))(F:bh K "need_loose" "need_loose" tD f fd)(hm:mg "need_loose"=some (.ref f))(hb:Binds K fd ["web","part"] []):bz P w K mg base "need_loose" 9 (bS (dR oS C 0) K):=by
  have nd:=qR.nd
  refine dC F qR hm hb (dS rfl) eR (fun cdv A outer s H R E qs c hr hS q=>?_)
  obtain ⟨v,p,qs',rfl,hl,hq,e⟩:=hS
  cases e
  cases List.length_eq_zero_iff.mp hl
  change RS _ H R _ [.im bg v,.im ae p]
  exact jw (TV.cast (bH (aZ (aW CI hr (af (aa 0 rfl) (af (aa 1 rfl) ao)) ⟨v,p,rfl,hq.1,hq.2.1,hq.2.2.1,rfl⟩))) (by rw [hq.2.2.2];rfl)) (gJ hC q)
end
end K1
namespace Fc
open PySem PySem.Spec PySem.W PySem.Calls L2
open PyProof.Rows hiding St
theorem rG {X:Cx}{S:fh}{x:Str}{k:Nat}{e:Expr}{es:List Expr}{p pos:Pos}{ps:List Pk}{T0:RT}{σ:St}{H0 R0 H R:Hp}{Γ Γ1:Ga}{Q:VK}
    (C:bz X.prog X.w X.K X.mg X.base x k (bS S X.K)) (hr:bt k X.A) (ha:HA X.bR (e::es) Γ ps Γ1) (hS:S X.K ps (.ret T0)) (E:aq X.K σ H0 R0 H R Γ)
    (q:∀H1 R1 v H' R',aq X.K σ H0 R0 H1 R1 Γ1→aq X.K σ H0 R0 H' R' Γ1→au R R'→T0 H1 v H' R'→Q v H')
    (hg:Gl X x) (hdb:(x==("__debug__":Str))=false) (he:starEach (e::es) X.env=(false,eval e X.env)::starEach es X.env) (hpl:(backTo pos (starEach es X.env)).any (·.1)=false):
    dG X (.Call (.Name x p) (e::es) [] pos) σ H Q:=fun pins s I=>by
  obtain ⟨f,fd,pn,F,hm,hk,hb⟩:=C.ex
  refine wpAny_Call_Name_kw (fb I hg hm ?_ hdb)
  refine PySem.W.callWith_K (h₀:=X.base) I.ok.mod.kin hk (aR (h9.bR (ha σ H0 R0 H R E (fun vs H1=>∃R1,aq X.K σ H0 R0 H1 R1 Γ1∧au R R1∧ff X.K R1 vs ps) fun vs H1 R1 E1 s1 p1=>⟨R1,E1,s1,p1⟩) X.xe pos pins s I) fun us s1 ⟨vs,H1,I1,r,R1,E1,sR,p1⟩=>⟨I1.dj,?_⟩) he hpl
  have r2:Vals (vs++[]) (us++[]):=by rw [List.append_nil,List.append_nil];exact r
  have sp:bS S X.K (vs++[]) H1 (fun v H'=>∃R',Ext H1 R1 H' R'∧T0 H1 v H' R') (fun _ _ _=>False):=⟨R1,ps,.ret T0,E1.sub,by rw [List.append_nil];exact p1,hS,fun v H' R' xx t=>⟨R',xx,t⟩⟩
  have hl:(us++[]).length=pn.length:=by rw [← r2.length];exact F.len _ _ _ _ sp
  refine wpAny_call (codeAny_mono (F.run X.A X.stack s1 H1 ⟨us,[]⟩ (us++[]) (vs++[]) _ _ hr I1.qF (hb s1 us I1.dj hl) r2 sp) fun r s' hq=>?_)
  cases r with
  | error ev=>
    obtain ⟨ea,T,c,H',rfl,ho,bare,un,hok,fly,z⟩:=hq
    exact z.elim
  | ok fl=>
    cases fl with
    | ret u=>
      obtain ⟨v,H',I',ru,R',xx,t⟩:=I1.after hq
      exact ⟨v,H',I',ru,q H1 R1 v H' R' E1 (E1.grow xx) (sR.trans xx.r) t⟩
    | next=>exact False.elim hq
    | brk=>exact False.elim hq
    | cont=>exact False.elim hq
theorem wW {X:Cx}{Γ Γ1:Ga}{N:Ga→Prop}{α:Type}{S:fh}{x:Str}{k:Nat}{e:Expr}{es:List Expr}{p p2 p3 pos spos:Pos}{j:Nat}{ps:List Pk}{r:Rep α}{PL:List α→Prop}{Pd:α→Prop}(C:bz X.prog X.w X.K X.mg X.base x k (bS S X.K))(hr:bt k X.A)(ha:HA X.bR (e::es) Γ ps Γ1)(hS:S X.K ps (.ret (jm X.K r PL)))(h:∀L,PL L→∃y,L[0]?=some y∧Pd y)
    (hg:autoParam (Gl X x) Fc.ai) (hdb:autoParam ((x==("__debug__":Str))=false) Fc.aw) (he:autoParam (starEach (e::es) X.env=(false,eval e X.env)::starEach es X.env) Fc.ai) (hpl:autoParam ((backTo p2 (starEach es X.env)).any (·.1)=false) Fc.ai):
    W1 X (.Return (some (.Subscript (.Call (.Name x p) (e::es) [] p2) (.Constant (.int 0) j p3) spos)) pos) Γ N (bC X.K r Pd):=fun σ H0 R0 H R E D dn dr=>by
  refine sS (dO aL) (eS (fP eG aL dQ (fun _ _=>rfl)) (rG C hr ha hS E (fun H1 R1 v H' R' E1 E' sR t=>?_) hg hdb he hpl))
  obtain ⟨a,vs,ys,rfl,h0,h1,h2,pp,hz,hL⟩:=t
  obtain ⟨y,hy,hP⟩:=h ys hL
  have hv:∃v0,vs[0]?=some v0∧r.R X.K R' v0 y:=by
    cases pp with
    | nil=>simp at hy
    | cons hh _=>simp at hy;subst hy;exact ⟨_,rfl,hh⟩
  obtain ⟨v0,e0,hr0⟩:=hv
  have l0:0 < vs.length:=(List.getElem?_eq_some_iff.mp e0).1
  exact ⟨a,_,0,v0,rfl,rfl,bq.of h1,by rw [eO (by decide) (by omega)];exact e0,dr v0 H' R' E'.ext ⟨y,hr0,hP⟩⟩
end Fc
namespace K1
open PySem L2 Fc
open PySem.Spec hiding Row
open PyProof.Rows hiding St
open PySem.Builtin.Int (intBits)
section
variable {P:Program}{w:World}{K:PySem.W.Frag}{mg:Str→Option Value}{base:Heap}{f:Addr}{fd:FuncData}{C:Addr}
noncomputable def jS (v:aH)(p n:Int):Bool:=decide (0≤n)&&decide (n < onG v p 0)
theorem pO (v:aH)(p n:Int):jX v p [n]=jS v p n:=by
  unfold jX jS
  simp
noncomputable def uF (C:Addr):fh:=fun K ps o=>∃(v:aH) (p n:Int),ps=[⟨bg,v⟩,⟨ae,p⟩,⟨ae,n⟩]∧bJ v∧0≤p∧p < (v.1.length:Int)∧cL v.2 p.toNat∧((jS v p n=true∧o= .ret (bC K (ag ae) fun way=>∃g,eL v p g∧way=iU v p g 17 0 n))∨(jS v p n=false∧o= .exc (.ref C)))
theorem yb (CO:az P w K mg base "need_loose" 9 (aE wq K))(CS:bz P w K mg base "ways_of" 11 (bS (De C) K))(F:bh K "way_of" "way_of" ow f fd)(hm:mg "way_of"=some (.ref f))(hb:Binds K fd ["web","part","number"] []):bz P w K mg base "way_of" 12 (bS (uF C) K):=by
  have nd:=mR.nd
  have CO:=CO.mono (show 9≤11 by decide)
  refine kG F mR hm hb (fun qs T ⟨_,_,_,e,_⟩=>by rw [e];rfl) (fun cdv A outer s H E qs T hr hS=>?_) (fun cdv A outer s H R E qs c hr hS q=>?_)
  · obtain ⟨v,p,n,rfl,hv,p0,p1,hR,⟨hc,e⟩ | ⟨_,e⟩⟩:=hS
    · cases e
      change WS _ _ [.im bg v,.im ae p,.im ae n] _ _
      refine aj (fM CO hr (af (aa 0 rfl) (af (aa 1 rfl) ao)) ⟨v,p,rfl,hv,p0,p1,hR,rfl⟩ ?_)
      refine ar (wW CS hr (af (aa 0 rfl) (af (aa 1 rfl) (af (aC.im (aB (r:=ae) (av (aa 2 rfl) aF) (by show 1≤sizeLine;decide))) ao))) ⟨v,p,[n],rfl,hv,p0,p1,hR,by simp,.inl ⟨by rw [pO];exact hc,rfl⟩⟩ ?_)
      rintro L ⟨g,hE,rfl⟩
      exact ⟨_,rfl,g,hE,rfl⟩
    · cases e
  · obtain ⟨v,p,n,rfl,hv,p0,p1,hR,⟨_,e⟩ | ⟨hc,e⟩⟩:=hS
    · cases e
    · cases e
      change RS _ H R _ [.im bg v,.im ae p,.im ae n]
      refine gz (N1:=fun Γ=>Γ=[.im bg v,.im ae p,.im ae n]) (fM CO hr (af (aa 0 rfl) (af (aa 1 rfl) ao)) ⟨v,p,rfl,hv,p0,p1,hR,rfl⟩ rfl) fun Γ' e=>?_
      subst e
      exact r9 (RX.sub (cy CS hr (af (aa 0 rfl) (af (aa 1 rfl) (af (aC.im (aB (r:=ae) (av (aa 2 rfl) aF) (by show 1≤sizeLine;decide))) ao))) ⟨v,p,[n],rfl,hv,p0,p1,hR,by simp,.inr ⟨by rw [pO];exact hc,rfl⟩⟩ q))
end
end K1
namespace K1
open PySem PySem.W L2 Fc
open PySem.Spec hiding Row
open PyProof.Rows hiding St
open PySem.Builtin.Int (intBits)
theorem xo:bootBuiltins "ValueError"=some (.type "ValueError"):=by decide +kernel
structure Ck (K:PySem.W.Frag) (mg:Str→Option Value) (D:Addr) (b1 b2 b3 b4 b5:Bool):Prop where
  look:dg K D=true
  web:∃C,mg "NoWeb"=some (.ref C)∧kitOne K (.ref D) (.ref C)=some b1
  way:∃C,mg "NoWay"=some (.ref C)∧kitOne K (.ref D) (.ref C)=some b2
  loose:∃C,mg "NoLoose"=some (.ref C)∧kitOne K (.ref D) (.ref C)=some b3
  run:∃C,mg "NoRun"=some (.ref C)∧kitOne K (.ref D) (.ref C)=some b4
  chain:∃C,mg "NoChain"=some (.ref C)∧kitOne K (.ref D) (.ref C)=some b5
  o1:∃C1 C2 C3,mg "NoAnswer"=some (.ref C1)∧mg "NoChoice"=some (.ref C2)∧mg "NoCode"=some (.ref C3)∧kitAny K (.ref D) [.ref C1,.ref C2,.ref C3]=some false
  o2:∃C1 C2 C3,mg "NoCounts"=some (.ref C1)∧mg "NoGuess"=some (.ref C2)∧mg "NoLog"=some (.ref C3)∧kitAny K (.ref D) [.ref C1,.ref C2,.ref C3]=some false
  o3:∃C1 C2 C3,mg "NoMarks"=some (.ref C1)∧mg "NoName"=some (.ref C2)∧mg "NoPlan"=some (.ref C3)∧kitAny K (.ref D) [.ref C1,.ref C2,.ref C3]=some false
  o4:∃C1 C2 C3,mg "NoProgram"=some (.ref C1)∧mg "NoRow"=some (.ref C2)∧mg "NoText"=some (.ref C3)∧kitAny K (.ref D) [.ref C1,.ref C2,.ref C3]=some false
  ve:mg "ValueError"=none∧kitOne K (.ref D) (.type "ValueError")=some true
noncomputable def one (b:Bool)(x:Str):List Str:=if b=true then [x] else []
noncomputable def mkL (b1 b2 b3 b4 b5:Bool):List Str:=[]++one b1 "web"++one b2 "way"++one b3 "loose"++one b4 "run"++one b5 "chain"
theorem iG (b:Bool)(x:Str):(one b x).length≤1:=by cases b<;>simp [one]
section
variable {P:Program}{w:World}{K:PySem.W.Frag}{mg:Str→Option Value}{base:Heap}{f:Addr}{fd:FuncData}
noncomputable abbrev ny:Stmt:=top mC
noncomputable abbrev wb:List Str:=["_law_caught","_law_found"]
theorem yG:ax wb ["_law_caught"] (ah ny):=⟨rfl,rfl,rfl,by decide +kernel,rfl,by decide +kernel,by decide +kernel⟩
noncomputable def sA (ea:Addr)(ms:List Str):bW:=fun K ps T=>ps=[⟨ft ea,()⟩]∧T=bC K (ag c6) (· =ms)
theorem qV {D:Addr}{b1 b2 b3 b4 b5:Bool}(M:bU mg)(X:Ck K mg D b1 b2 b3 b4 b5)(F:bh K "_law_marks" "_law_marks" ny f fd)(hm:mg "_law_marks"=some (.ref f))(hb:Binds K fd ["_law_caught"] [])(ea:Addr):
    iT P w K mg (fun base=>∃oe,base.get? ea=some oe∧oe.cls= .ref D) "_law_marks" 1 (aE (sA ea (mkL b1 b2 b3 b4 b5)) K):=by
  have nd:=yG.nd
  refine ⟨f,fd,_,fun base hz=>?_,hm,F.kp,hb⟩
  refine tX F yG (fun qs T ⟨e,_⟩=>by rw [e];rfl) (fun cdv A outer s H E qs T hr hS=>?_)
  obtain ⟨rfl,rfl⟩:=hS
  change WS _ _ [.im (ft ea) (),.no] _ _
  obtain ⟨c1,m1,k1⟩:=X.web
  obtain ⟨c2,m2,k2⟩:=X.way
  obtain ⟨c3,m3,k3⟩:=X.loose
  obtain ⟨c4,m4,k4⟩:=X.run
  obtain ⟨c5,m5,k5⟩:=X.chain
  obtain ⟨p1,p2,p3,q1,q2,q3,q4⟩:=X.o1
  obtain ⟨r1,r2,r3,s1,s2,s3,s4⟩:=X.o2
  obtain ⟨t1,t2,t3,u1,u2,u3,u4⟩:=X.o3
  obtain ⟨v1,v2,v3,w1,w2,w3,w4⟩:=X.o4
  have l1:=iG b1 "web";have l2:=iG b2 "way";have l3:=iG b3 "loose";have l4:=iG b4 "run";have l5:=iG b5 "chain"
  have app:∀(ms:List Str) (b:Bool) (x:Str) (rest:List Stmt) (c:Expr) (p1 p2 p3 p4 p5 p6:Pos) (j:Nat) {N:Ga→Prop} {T:RT},(p2.endLine==p4.line)=true→ms.length≤100→TV (bF df P w K mg base wb "_law_marks" (ah ny) f cdv A outer s H E).bR c [.im (ft ea) (),.mu c6 ms] b [.im (ft ea) (),.mu c6 ms]→WS (bF df P w K mg base wb "_law_marks" (ah ny) f cdv A outer s H E).bR rest [.im (ft ea) (),.mu c6 (ms++one b x)] N T→
      WS (bF df P w K mg base wb "_law_marks" (ah ny) f cdv A outer s H E).bR (.If c [.Expr (.Call (.Attribute (.Name "_law_found" p1) "append" p2) [.Constant (.str x) j p3] [] p4) p6] [] p5::rest) [.im (ft ea) (),.mu c6 ms] N T:=by
    intro ms b x rest c p1 p2 p3 p4 p5 p6 j N T hline hl hc hrest
    refine aj (bu hc (fun h=>?_) (fun h=>aU ?_))
    · refine ar (eA 1 gL rfl rfl (Nat.lt_of_le_of_lt (show ms.length≤1000 by omega) (by decide)) ?_ (hline:=hline))
      rw [h] at hrest;exact hrest
    · rw [h] at hrest
      have:ms++one false x=ms:=by simp [one]
      rw [this] at hrest;exact hrest
  refine aj (de 1 (r:=c6) (aB aF (by decide)) ?_)
  refine app _ b1 _ _ _ _ _ _ _ _ _ _ rfl (by simp) (aZ (gK (i:=0) hz X.look M.isinstance rfl m1 k1)) ?_
  refine app _ b2 _ _ _ _ _ _ _ _ _ _ rfl (by simp;omega) (aZ (gK (i:=0) hz X.look M.isinstance rfl m2 k2)) ?_
  refine app _ b3 _ _ _ _ _ _ _ _ _ _ rfl (by simp;omega) (aZ (gK (i:=0) hz X.look M.isinstance rfl m3 k3)) ?_
  refine app _ b4 _ _ _ _ _ _ _ _ _ _ rfl (by simp;omega) (aZ (gK (i:=0) hz X.look M.isinstance rfl m4 k4)) ?_
  refine app _ b5 _ _ _ _ _ _ _ _ _ _ rfl (by simp;omega) (aZ (gK (i:=0) hz X.look M.isinstance rfl m5 k5)) ?_
  have e0:∀ms:List Str,∀x,ms++one false x=ms:=fun ms x=>by simp [one]
  refine aj (bu (TW.tv (fU (aZ (iS (i:=0) hz X.look M.isinstance rfl q1 q2 q3 q4)) fun _=>eT (aZ (iS (i:=0) hz X.look M.isinstance rfl s1 s2 s3 s4)))) (fun h=>absurd h (by decide)) (fun _=>aU ?_))
  refine aj (bu (TW.tv (fU (aZ (iS (i:=0) hz X.look M.isinstance rfl u1 u2 u3 u4)) fun _=>eT (aZ (iS (i:=0) hz X.look M.isinstance rfl w1 w2 w3 w4)))) (fun h=>absurd h (by decide)) (fun _=>aU ?_))
  refine aj (bu (bH (aZ (uN (i:=0) hz X.look M.isinstance rfl X.ve.1 xo X.ve.2))) (fun h=>absurd h (by decide)) (fun _=>aU ?_))
  exact ar (bA (dN 1 rfl (aP (by simp;omega))) rfl)
end
end K1
namespace Fc
open PySem PySem.Spec PySem.W PySem.Calls L2
open PyProof.Rows hiding St
theorem jB {X:Cx}{Γ Γ1:Ga}{N:Ga→Prop}{T T0:RT}{S:bW}{x:Str}{k:Nat}{e:Expr}{es:List Expr}{p p2 pos:Pos}{ps:List Pk}(C:az X.prog X.w X.K X.mg X.base x k (aE S X.K))(hr:bt k X.A)(ha:HA X (e::es) Γ ps Γ1)(hS:S X.K ps T0)(h:N Γ1)
    (hg:autoParam (Gl X x) Fc.ai) (hdb:autoParam ((x==("__debug__":Str))=false) Fc.aw) (he:autoParam (starEach (e::es) X.env=(false,eval e X.env)::starEach es X.env) Fc.ai) (hpl:autoParam ((backTo p2 (starEach es X.env)).any (·.1)=false) Fc.ai)
    (hsw:autoParam (swapsWith (.Call (.Name x p) (e::es) [] p2) none pos.line X.env=pure false) Fc.ai):W1 X (.Expr (.Call (.Name x p) (e::es) [] p2) pos) Γ N T:=fun σ H0 R0 H R E D dn dr=>
  sS (fc aL hsw) (dv C hr ha hS E (fun H1 R1 v H' R' E1 s1 xx t=>dn σ H' R' _ (E1.grow xx) (s1.trans xx.r) h) hg hdb he hpl)
theorem pZ {X:Cx}{Γ Γ1:Ga}{N:Ga→Prop}{T T0:RT}{S:fh}{x:Str}{k:Nat}{e:Expr}{es:List Expr}{p p2 pos:Pos}{ps:List Pk}(C:bz X.prog X.w X.K X.mg X.base x k (bS S X.K))(hr:bt k X.A)(ha:HA X.bR (e::es) Γ ps Γ1)(hS:S X.K ps (.ret T0))(h:N Γ1)
    (hg:autoParam (Gl X x) Fc.ai) (hdb:autoParam ((x==("__debug__":Str))=false) Fc.aw) (he:autoParam (starEach (e::es) X.env=(false,eval e X.env)::starEach es X.env) Fc.ai) (hpl:autoParam ((backTo p2 (starEach es X.env)).any (·.1)=false) Fc.ai) (hsw:autoParam (swapsWith (.Call (.Name x p) (e::es) [] p2) none pos.line X.env=pure false) Fc.ai):
    W1 X (.Expr (.Call (.Name x p) (e::es) [] p2) pos) Γ N T:=fun σ H0 R0 H R E D dn dr pins s I=>by
  refine wpAny_Expr_any ?_ I.quiet hsw
  exact m9 C hr ha hS E I (fun u s' H' R' I' E' sR=>⟨σ,H',I',dn σ H' R' Γ1 E' sR h⟩) hg hdb he hpl
theorem BF {X:Cx}{ea:Addr}:fB X .Is (ft ea) eM () () false:=by
  refine ⟨_,rF,fun R H v u Q s e1 e2 q=>?_⟩
  cases (show v=V.ref ea from e1)
  cases (show u=V.non from e2)
  exact ⟨rfl,q⟩
theorem xS {X:Cx}:fB X .Is eM eM () () true:=by
  refine ⟨_,rF,fun R H v u Q s e1 e2 q=>?_⟩
  cases (show v=V.non from e1)
  cases (show u=V.non from e2)
  exact ⟨rfl,q⟩
section
variable {P:Program}{w:World}{K:PySem.W.Frag}{mg:Str→Option Value}{base:Heap}
theorem xH {S:fh}{x qual:Str}{st:Stmt}{f:Addr}{fd:FuncData}{N ps:List Str}{k:Nat}(F:bh K x qual st f fd)(Sc:ax N ps (ah st))(hm:mg x=some (.ref f))(hb:Binds K fd ps [])(len:∀qs o,S K qs o→qs.length=ps.length)
    (hret:∀(cdv:Value) (A:Around) (outer:List Env) (s:Shared) (H:Hp) (E:XK) (qs:List Pk) (T:RT),bt k (A.deeper (envOfC qual (ah st) s.heap.objs.size f cdv))→S K qs (.ret T)→(∀H0 H' R',T H0 .non H' R')∧
      WS (bF df P w K mg base N qual (ah st) f cdv A outer s H E).bR (bo st) (dc qs N.length) (fun _=>True) T)
    (hexc:∀(cdv:Value) (A:Around) (outer:List Env) (s:Shared) (H R:Hp) (E:XK) (qs:List Pk) (c:Value),bt k (A.deeper (envOfC qual (ah st) s.heap.objs.size f cdv))→S K qs (.exc c)→(∀H' R',Ext H R H' R'→E c none H')→
      RS (bF (eB P w) P w K mg base N qual (ah st) f cdv A outer s H E) H R (bo st) (dc qs N.length)):bz P w K mg base x (k + 1) (bS S K):=by
  obtain ⟨oc,od,kV,doc,pm,an,cdv,ct,osl,rfl,lk,hcd⟩:=F.ex
  refine ⟨f,_,ps,?_,hm,F.kp,hb⟩
  refine qp lk hcd Sc (fun vs H Q E h=>?_) (fun A outer s H vs Q E hr h=>?_)
  · obtain ⟨R,qs,o,_,p,hS,_⟩:=h
    rw [p.length];exact len qs o hS
  · obtain ⟨R,qs,o,sR,p,hS,q⟩:=h
    have hl:qs.length≤N.length:=by
      rw [len qs o hS]
      have:=congrArg List.length Sc.pre
      rw [List.length_take] at this
      omega
    cases o with
    | ret T=>
      obtain ⟨h1,h2⟩:=hret cdv A outer s H E qs T hr hS
      have hw:=h2 (L2.start N vs) H R H R (dq sR p hl) {nx:=fun _ H'=>Q .non H',rt:=Q} (fun σ' H' R' Γ' E' _ _=>q .non H' R' E'.ext (h1 _ _ _)) fun v H' R' xx t=>q v H' R' xx t
      have hp:f9 (bF (eB P w) P w K mg base N qual (ah st) f cdv A outer s H E).bR (bo st) (gq (bF (eB P w) P w K mg base N qual (ah st) f cdv A outer s H E).bR (bo st)):=dB
      exact ⟨_,hp.bR,hw⟩
    | exc c=>exact ⟨_,dB,hexc cdv A outer s H R E qs c hr hS q (L2.start N vs) H R (dq sR p hl) _⟩
end
end Fc
namespace K1
open PySem L2 Fc
open PySem.Spec hiding Row
open PyProof.Rows hiding St
open PySem.Builtin.Int (intBits)
noncomputable abbrev mW (k:Int)(v:aH)(p:Int)(xs:List Int)(n:Int):List Pk:=[⟨ae,k⟩,⟨bg,v⟩,⟨ae,p⟩,⟨ag ae,xs⟩,⟨ae,n⟩]
noncomputable abbrev QA:=Int→aH→Int→List Int→Int→Prop
noncomputable def Cs (Q:QA):fh:=fun K ps o=>∃(k:Int) (v:aH) (p:Int) (xs:List Int) (n:Int),ps=mW k v p xs n∧Q k v p xs n∧o= .ret (bC K eM fun _=>True)
noncomputable def zx (Q:QA)(C:Addr):fh:=fun K ps o=>∃(k:Int) (v:aH) (p:Int) (xs:List Int) (n:Int),ps=mW k v p xs n∧Q k v p xs n∧o= .exc (.ref C)
noncomputable def yH:QA:=fun k v p xs n=>bJ v∧0≤p∧p < (v.1.length:Int)∧xs.length≤1000∧(1≤k→cL v.2 p.toNat)∧(k=4→dJ v p 0 xs=true)∧(k=5→jS v p n=true)
noncomputable def zA:QA:=fun k v p xs n=>bJ v∧0≤p∧p < (v.1.length:Int)∧cL v.2 p.toNat∧xs.length≤1000∧((k=4∧dJ v p 0 xs=false)∨(k=5∧jS v p n=false))
noncomputable def nE (b:Int)(Q:aH→Int→Prop):QA:=fun k v p xs n=>b≤k∧0≤k∧k≤5∧Q v p
section
variable {P:Program}{w:World}{K:PySem.W.Frag}{mg:Str→Option Value}{base:Heap}{f:Addr}{fd:FuncData}{C:Addr}
noncomputable abbrev gg:Stmt:=top mD
noncomputable abbrev gh:List Str:=["_law_k","_law_web_here","_law_part_here","_law_way","_law_number"]
theorem lL:ax gh gh (ah gg):=⟨rfl,rfl,rfl,by decide +kernel,rfl,by decide +kernel,by decide +kernel⟩
theorem BX (CI:az P w K mg base "is_loose" 8 (aE vO K))(CY:az P w K mg base "ways" 10 (aE CJ K))(CT:az P w K mg base "worths" 10 (aE k6 K))(CP:az P w K mg base "steps" 11 (aE k6 K))(CN:bz P w K mg base "number_of" 11 (bS (yp C) K))(CF:bz P w K mg base "way_of" 12 (bS (uF C) K))(F:bh K "_law_asked" "_law_asked" gg f fd)(hm:mg "_law_asked"=some (.ref f))(hb:Binds K fd gh []):bz P w K mg base "_law_asked" 13 (bS (Cs yH) K):=by
  have nd:=lL.nd
  have CI:=CI.mono (show 8≤12 by decide)
  have CY:=CY.mono (show 10≤12 by decide)
  have CT:=CT.mono (show 10≤12 by decide)
  have CP:=CP.mono (show 11≤12 by decide)
  have CN:=CN.mono (show 11≤12 by decide)
  refine xH F lL hm hb (fun qs T ⟨_,_,_,_,_,e,_⟩=>by rw [e];rfl) (fun cdv A outer s H E qs T hr hS=>?_) (fun cdv A outer s H R E qs c hr hS q=>by obtain ⟨_,_,_,_,_,_,_,e⟩:=hS;cases e)
  obtain ⟨k,v,p,xs,n,rfl,⟨hv,p0,p1,hl,hR,h4,h5⟩,e⟩:=hS
  cases e
  refine ⟨fun _ _ _=>⟨(),rfl,trivial⟩,?_⟩
  change WS _ _ [.im ae k,.im (ay (ag ae) (ag aA)) v,.im ae p,.im (ag ae) xs,.im ae n] _ _
  have r5:WS (bF df P w K mg base gh "_law_asked" (ah gg) f cdv A outer s H E).bR ((bo gg).drop 5) [.im ae k,.im (ay (ag ae) (ag aA)) v,.im ae p,.im (ag ae) xs,.im ae n] (fun _=>True) (bC K eM fun _=>True):=by
    refine ar (bu (aI bT (aa 0 rfl) ak) (fun h=>?_) (fun _=>aU trivial))
    have h:k=5:=of_decide_eq_true h
    exact ar (pZ CF hr (af (aa 1 rfl) (af (aa 2 rfl) (af (aa 4 rfl) ao))) ⟨v,p,n,rfl,hv,p0,p1,hR (by omega),.inl ⟨h5 h,rfl⟩⟩ trivial)
  have r4:WS (bF df P w K mg base gh "_law_asked" (ah gg) f cdv A outer s H E).bR ((bo gg).drop 4) [.im ae k,.im (ay (ag ae) (ag aA)) v,.im ae p,.im (ag ae) xs,.im ae n] (fun _=>True) (bC K eM fun _=>True):=by
    refine aj (bu (aI bT (aa 0 rfl) ak) (fun h=>?_) (fun _=>aU r5))
    have h:k=4:=of_decide_eq_true h
    exact ar (pZ CN hr (af (aa 1 rfl) (af (aa 2 rfl) (af (aa 3 rfl) ao))) ⟨v,p,xs,rfl,hv,p0,p1,hR (by omega),hl,.inl ⟨h4 h,rfl⟩⟩ r5)
  have r3:WS (bF df P w K mg base gh "_law_asked" (ah gg) f cdv A outer s H E).bR ((bo gg).drop 3) [.im ae k,.im (ay (ag ae) (ag aA)) v,.im ae p,.im (ag ae) xs,.im ae n] (fun _=>True) (bC K eM fun _=>True):=by
    refine aj (bu (aI bT (aa 0 rfl) ak) (fun h=>?_) (fun _=>aU r4))
    have h:k=3:=of_decide_eq_true h
    exact ar (jB CP hr (af (aa 1 rfl) (af (aa 2 rfl) ao)) ⟨v,p,rfl,hv,p0,p1,hR (by omega),rfl⟩ r4)
  have r2:WS (bF df P w K mg base gh "_law_asked" (ah gg) f cdv A outer s H E).bR ((bo gg).drop 2) [.im ae k,.im (ay (ag ae) (ag aA)) v,.im ae p,.im (ag ae) xs,.im ae n] (fun _=>True) (bC K eM fun _=>True):=by
    refine aj (bu (aI bT (aa 0 rfl) ak) (fun h=>?_) (fun _=>aU r3))
    have h:k=2:=of_decide_eq_true h
    exact ar (jB CT hr (af (aa 1 rfl) (af (aa 2 rfl) ao)) ⟨v,p,rfl,hv,p0,p1,hR (by omega),rfl⟩ r3)
  have r1:WS (bF df P w K mg base gh "_law_asked" (ah gg) f cdv A outer s H E).bR ((bo gg).drop 1) [.im ae k,.im (ay (ag ae) (ag aA)) v,.im ae p,.im (ag ae) xs,.im ae n] (fun _=>True) (bC K eM fun _=>True):=by
    refine aj (bu (aI bT (aa 0 rfl) ak) (fun h=>?_) (fun _=>aU r2))
    have h:k=1:=of_decide_eq_true h
    exact ar (jB CY hr (af (aa 1 rfl) (af (aa 2 rfl) ao)) ⟨v,p,rfl,hv,p0,p1,hR (by omega),rfl⟩ r2)
  refine aj (bu (aI bT (aa 0 rfl) ak) (fun h=>?_) (fun _=>aU r1))
  exact ar (jB CI hr (af (aa 1 rfl) (af (aa 2 rfl) ao)) ⟨v,p,rfl,hv,p0,p1,rfl⟩ r1)
theorem qT {Q:aH→Int→Prop}(b:Int)(CI:b≤0→bz P w K mg base "is_loose" 8 (bS (dR Q C 0) K))(CY:bz P w K mg base "ways" 10 (bS (dR Q C 0) K))(CT:bz P w K mg base "worths" 10 (bS (dR Q C 0) K))(CP:bz P w K mg base "steps" 11 (bS (dR Q C 0) K))(CN:bz P w K mg base "number_of" 11 (bS (dR Q C 1) K))(CF:bz P w K mg base "way_of" 12 (bS (dR Q C 1) K))(F:bh K "_law_asked" "_law_asked" gg f fd)(hm:mg "_law_asked"=some (.ref f))(hb:Binds K fd gh []):bz P w K mg base "_law_asked" 13 (bS (zx (nE b Q) C) K):=by
  have nd:=lL.nd
  have CY:=CY.mono (show 10≤12 by decide)
  have CT:=CT.mono (show 10≤12 by decide)
  have CP:=CP.mono (show 11≤12 by decide)
  have CN:=CN.mono (show 11≤12 by decide)
  refine dC F lL hm hb (fun qs o ⟨_,_,_,_,_,e,_⟩=>by rw [e];rfl) (fun qs T ⟨_,_,_,_,_,_,_,e⟩=>by cases e) (fun cdv A outer s H R E qs c hr hS q=>?_)
  obtain ⟨k,v,p,xs,n,rfl,⟨bk,k0,k1,hq⟩,e⟩:=hS
  cases e
  change RS _ H R _ [.im ae k,.im bg v,.im ae p,.im (ag ae) xs,.im ae n]
  refine dM (aI bT (aa 0 rfl) ak) (fun h=>?_) fun h0=>?_
  · have h:k=0:=of_decide_eq_true h
    exact c9 (cy ((CI (by omega)).mono (show 8≤12 by decide)) hr (af (aa 1 rfl) (af (aa 2 rfl) ao)) ⟨v,p,[],rfl,rfl,hq,rfl⟩ q)
  refine dM (aI bT (aa 0 rfl) ak) (fun h=>?_) fun h1=>?_
  · exact c9 (cy CY hr (af (aa 1 rfl) (af (aa 2 rfl) ao)) ⟨v,p,[],rfl,rfl,hq,rfl⟩ q)
  refine dM (aI bT (aa 0 rfl) ak) (fun h=>?_) fun h2=>?_
  · exact c9 (cy CT hr (af (aa 1 rfl) (af (aa 2 rfl) ao)) ⟨v,p,[],rfl,rfl,hq,rfl⟩ q)
  refine dM (aI bT (aa 0 rfl) ak) (fun h=>?_) fun h3=>?_
  · exact c9 (cy CP hr (af (aa 1 rfl) (af (aa 2 rfl) ao)) ⟨v,p,[],rfl,rfl,hq,rfl⟩ q)
  refine dM (aI bT (aa 0 rfl) ak) (fun h=>?_) fun h4=>?_
  · exact c9 (cy CN hr (af (aa 1 rfl) (af (aa 2 rfl) (af (aa 3 rfl) ao))) ⟨v,p,[_],rfl,rfl,hq,rfl⟩ q)
  refine dM (aI bT (aa 0 rfl) ak) (fun h=>?_) fun h5=>?_
  · exact c9 (cy CF hr (af (aa 1 rfl) (af (aa 2 rfl) (af (aa 4 rfl) ao))) ⟨v,p,[_],rfl,rfl,hq,rfl⟩ q)
  have h0:¬k=0:=of_decide_eq_false h0
  have h1:¬k=1:=of_decide_eq_false h1
  have h2:¬k=2:=of_decide_eq_false h2
  have h3:¬k=3:=of_decide_eq_false h3
  have h4:¬k=4:=of_decide_eq_false h4
  have h5:¬k=5:=of_decide_eq_false h5
  omega
theorem A2 (CN:bz P w K mg base "number_of" 11 (bS (yp C) K))(CF:bz P w K mg base "way_of" 12 (bS (uF C) K))(F:bh K "_law_asked" "_law_asked" gg f fd)(hm:mg "_law_asked"=some (.ref f))(hb:Binds K fd gh []):bz P w K mg base "_law_asked" 13 (bS (zx zA C) K):=by
  have nd:=lL.nd
  have CN:=CN.mono (show 11≤12 by decide)
  refine dC F lL hm hb (fun qs o ⟨_,_,_,_,_,e,_⟩=>by rw [e];rfl) (fun qs T ⟨_,_,_,_,_,_,_,e⟩=>by cases e) (fun cdv A outer s H R E qs c hr hS q=>?_)
  obtain ⟨k,v,p,xs,n,rfl,⟨hv,p0,p1,hR,hl,hq⟩,e⟩:=hS
  cases e
  change RS _ H R _ [.im ae k,.im bg v,.im ae p,.im (ag ae) xs,.im ae n]
  refine dM (aI bT (aa 0 rfl) ak) (fun h=>?_) fun _=>?_
  · have h:k=0:=of_decide_eq_true h
    omega
  refine dM (aI bT (aa 0 rfl) ak) (fun h=>?_) fun _=>?_
  · have h:k=1:=of_decide_eq_true h
    omega
  refine dM (aI bT (aa 0 rfl) ak) (fun h=>?_) fun _=>?_
  · have h:k=2:=of_decide_eq_true h
    omega
  refine dM (aI bT (aa 0 rfl) ak) (fun h=>?_) fun _=>?_
  · have h:k=3:=of_decide_eq_true h
    omega
  refine dM (aI bT (aa 0 rfl) ak) (fun h=>?_) fun h4=>?_
  · have h:k=4:=of_decide_eq_true h
    rcases hq with ⟨_,hq⟩ | ⟨h',_⟩
    · exact c9 (cy CN hr (af (aa 1 rfl) (af (aa 2 rfl) (af (aa 3 rfl) ao))) ⟨v,p,xs,rfl,hv,p0,p1,hR,hl,.inr ⟨hq,rfl⟩⟩ q)
    · omega
  have h4:¬k=4:=of_decide_eq_false h4
  refine dM (aI bT (aa 0 rfl) ak) (fun h=>?_) fun h5=>?_
  · rcases hq with ⟨h',_⟩ | ⟨_,hq⟩
    · omega
    · exact c9 (cy CF hr (af (aa 1 rfl) (af (aa 2 rfl) (af (aa 4 rfl) ao))) ⟨v,p,n,rfl,hv,p0,p1,hR,.inr ⟨hq,rfl⟩⟩ q)
  have h5:¬k=5:=of_decide_eq_false h5
  omega
noncomputable abbrev mV:Stmt:=top kC
noncomputable abbrev DM:List Str:=["_law_k","_law_web_here","_law_part_here","_law_way","_law_number","_law_caught","e"]
theorem mI:ax DM gh (ah mV):=⟨rfl,rfl,rfl,by decide +kernel,rfl,by decide +kernel,by decide +kernel⟩
noncomputable def jN (Q:QA)(m:List Str):bW:=fun K ps T=>∃(k:Int) (v:aH) (p:Int) (xs:List Int) (n:Int),ps=mW k v p xs n∧Q k v p xs n∧T=bC K (ag c6) (· =m)
theorem Ce {Q:QA}(CA:bz P w K mg base "_law_asked" 13 (bS (Cs Q) K))(F:bh K "_law_refused" "_law_refused" mV f fd)(hm:mg "_law_refused"=some (.ref f))(hb:Binds K fd gh []):az P w K mg base "_law_refused" 14 (aE (jN Q []) K):=by
  have nd:=mI.nd
  refine bM F mI hm hb (fun qs T ⟨_,_,_,_,_,e,_⟩=>by rw [e];rfl) (fun cdv A outer s H E qs T hr hS=>?_)
  obtain ⟨k,v,p,xs,n,rfl,hq,rfl⟩:=hS
  change WS _ _ [.im ae k,.im bg v,.im ae p,.im (ag ae) xs,.im ae n,.no,.no] _ _
  refine aj (aK 5 jA ?_)
  refine sI (ps:=mW k v p xs n) CA hr (af (aa 0 rfl) (af (aa 1 rfl) (af (aa 2 rfl) (af (aa 3 rfl) (af (aa 4 rfl) ao))))) ⟨k,v,p,xs,n,rfl,hq,rfl⟩ ?_
  refine aj (bu (aI xS (aa 5 rfl) jA) (fun h=>?_) (fun h=>absurd h (by decide)))
  exact ar (bA (aC.im (aB (r:=c6) aF (by decide))) rfl)
theorem mM {Q:QA}{CE:Addr}{m:List Str}(CA:bz P w K mg base "_law_asked" 13 (bS (zx Q C) K))(hCE:mg "CountError"=some (.ref CE))(hex:PySem.W.exmOne K (.ref C) (.ref CE)=some true)(CM:∀ea,iT P w K mg (fun base=>∃oe,base.get? ea=some oe∧oe.cls= .ref C) "_law_marks" 1 (aE (sA ea m) K))(F:bh K "_law_refused" "_law_refused" mV f fd)(hm:mg "_law_refused"=some (.ref f))(hb:Binds K fd gh []):az P w K mg base "_law_refused" 14 (aE (jN Q m) K):=by
  have nd:=mI.nd
  refine bM F mI hm hb (fun qs T ⟨_,_,_,_,_,e,_⟩=>by rw [e];rfl) (fun cdv A outer s H E qs T hr hS=>?_)
  obtain ⟨k,v,p,xs,n,rfl,hq,rfl⟩:=hS
  change WS _ _ [.im ae k,.im bg v,.im ae p,.im (ag ae) xs,.im ae n,.no,.no] _ _
  refine aj (aK 5 jA ?_)
  refine zN 6 5 (ps:=mW k v p xs n) CA hr (af (aa 0 rfl) (af (aa 1 rfl) (af (aa 2 rfl) (af (aa 3 rfl) (af (aa 4 rfl) ao))))) ⟨k,v,p,xs,n,rfl,hq,rfl⟩ hCE hex (fun ea oe he=>?_)
  refine aj (bu (aI BF (aa 5 rfl) jA) (fun h=>absurd h (by decide)) (fun _=>aU ?_))
  exact ar (bA (uH ((CM ea).mono (show 1≤13 by decide)) List.mem_cons_self (fun base h=>⟨oe,h,he⟩) hr (af (aa 5 rfl) ao) ⟨rfl,rfl⟩) rfl)
end
noncomputable def vS (C:Addr)(n:Nat):fh:=fun K ps o=>∃(v:aH) (qs:List Pk),ps=⟨bg,v⟩::qs∧qs.length=n∧v.1.length≤1000∧v.2.length≤1000∧eh v=false∧o= .exc (.ref C)
theorem zW {C:Addr}{n:Nat}{K:PySem.W.Frag}(qs:List Pk)(T:RT):¬vS C n K qs (.ret T):=fun ⟨_,_,_,_,_,_,_,h⟩=>by cases h
theorem xJ {C:Addr}{n m:Nat}(e:m=n + 1){K:PySem.W.Frag}(qs:List Pk)(o:Out):vS C n K qs o→qs.length=m:=fun ⟨_,_,h,l,_⟩=>by rw [h,List.length_cons,l,e]
theorem xE {v:aH}(hv:bJ v){p q:Int}(p0:0≤p)(p1:p < (v.1.length:Int))(q0:0≤q)(q1:q < v.1.getD p.toNat 0)(qn:q≠1):∃k,(fromF v p q)[0]?=some k:=by
  have hm:v.1[p.toNat]?=some (v.1.getD p.toNat 0):=by rw [List.getD_eq_getElem?_getD,List.getElem?_eq_getElem (by omega)];rfl
  have h:=hv.toEnd hm q0 q1
  have:∃r∈v.2,r.1=p∧r.2.1=q:=by
    cases h with
    | base=>exact absurd rfl qn
    | step _ m=>
      unfold bwd at m
      obtain ⟨r,hr,e⟩:=List.mem_map.mp m
      obtain ⟨h1,h2⟩:=List.mem_filter.mp hr
      have h2:=of_decide_eq_true h2
      exact ⟨r,h1,by omega,congrArg Prod.snd e⟩
  obtain ⟨r,hr,r1,r2⟩:=this
  obtain ⟨j,hj⟩:=List.mem_iff_getElem?.mp hr
  have jl:=(List.getElem?_eq_some_iff.mp hj).1
  have er:rowOf v (j:Int)=r:=by unfold rowOf;rw [show ((j:Int)).toNat=j by omega,List.getD_eq_getElem?_getD,hj];rfl
  have hm:(j:Int)∈fromF v p q:=by
    unfold fromF
    exact List.mem_filter.mpr ⟨bE.mpr ⟨by omega,by omega⟩,decide_eq_true (by rw [er,r1,r2])⟩
  cases e:fromF v p q with
  | nil=>rw [e] at hm;cases hm
  | cons a l=>exact ⟨a,rfl⟩
noncomputable def wH (v:aH)(_:Int):Prop:=v.1.length≤1000∧v.2.length≤1000∧eh v=false
theorem vb {v:aH}{p q k:Int}:mz v p q k=decide (k∈fromF v p q):=by
  unfold mz fromF
  by_cases h:k∈(ups 0 v.2.length).filter fun k=>decide (((rowOf v k).1,(rowOf v k).2.1)=(p,q))
  · rw [decide_eq_true h]
    obtain ⟨h1,h2⟩:=List.mem_filter.mp h
    have:=bE.mp h1
    rw [h2,decide_eq_true this.1,decide_eq_true (show k < (v.2.length:Int) by omega)];rfl
  · rw [decide_eq_false h]
    refine Bool.eq_false_iff.mpr fun h'=>h ?_
    obtain ⟨a,c⟩:=Bool.and_eq_true_iff.mp h'
    obtain ⟨a,b⟩:=Bool.and_eq_true_iff.mp a
    exact List.mem_filter.mpr ⟨bE.mpr ⟨of_decide_eq_true a,by have:=of_decide_eq_true b;omega⟩,c⟩
noncomputable def qh (k:Int)(v:aH)(p:Int)(xs:List Int)(n:Int):List Str:=if k=0 then [] else if cW v p=false then [("loose":Str)] else if k=4∧dJ v p 0 xs=false then [("way":Str)] else if k=5∧jS v p n=false then [("way":Str)] else []
section
variable {P:Program}{w:World}{K:PySem.W.Frag}{mg:Str→Option Value}{base:Heap}{f:Addr}{fd:FuncData}{C:Addr}
noncomputable abbrev Aa:Stmt:=top jV
theorem B1:ax ["web"] ["web"] (ah Aa):=⟨rfl,rfl,rfl,by decide +kernel,rfl,by decide +kernel,by decide +kernel⟩
theorem zM (hC:iY K mg "NoWeb" C)(CW:az P w K mg base "is_web" 5 (aE Al K))(F:bh K "need_web" "need_web" Aa f fd)(hm:mg "need_web"=some (.ref f))(hb:Binds K fd ["web"] []):bz P w K mg base "need_web" 6 (bS (vS C 0) K):=by
  refine dC F B1 hm hb (xJ rfl) zW (fun cdv A outer s H R E qs c hr hS q=>?_)
  obtain ⟨v,qs',rfl,hl,l1,l2,hw,e⟩:=hS
  cases e
  cases List.length_eq_zero_iff.mp hl
  change RS _ H R _ [.im bg v]
  exact jw (TV.cast (bH (aZ (aW CW hr (af (aa 0 rfl) ao) ⟨v,rfl,l1,l2,rfl⟩))) (by rw [hw];rfl)) (gJ hC q)
theorem yg (CW:bz P w K mg base "need_web" 6 (bS (vS C 0) K))(F:bh K "need_part" "need_part" p7 f fd)(hm:mg "need_part"=some (.ref f))(hb:Binds K fd ["web","part"] []):bz P w K mg base "need_part" 7 (bS (dR wH C 0) K):=by
  have nd:=lA.nd
  refine dC F lA hm hb (dS rfl) eR (fun cdv A outer s H R E qs c hr hS q=>?_)
  obtain ⟨v,p,qs',rfl,hl,hq,e⟩:=hS
  cases e
  cases List.length_eq_zero_iff.mp hl
  change RS _ H R _ [.im bg v,.im ae p]
  exact c9 (cy CW hr (af (aa 0 rfl) ao) ⟨v,[],rfl,rfl,hq.1,hq.2.1,hq.2.2,rfl⟩ q)
noncomputable abbrev wB:Stmt:=top nP
noncomputable abbrev nGO:List Str:=["_law_web_here","_law_part_here","_law_rows","_law_here","_law_k"]
theorem As:ax nGO ["_law_web_here","_law_part_here","_law_rows"] (ah wB):=⟨rfl,rfl,rfl,by decide +kernel,rfl,by decide +kernel,by decide +kernel⟩
noncomputable def Dc:bW:=fun K ps T=>∃(v:aH) (p:Int) (xs:List Int),ps=[⟨bg,v⟩,⟨ae,p⟩,⟨ag ae,xs⟩]∧v.2.length≤60∧xs.length≤1000∧T=bC K aO (· =dJ v p 0 xs)
theorem A7 (CF:az P w K mg base "_law_from" 1 (aE sD K))(F:bh K "_law_goes" "_law_goes" wB f fd)(hm:mg "_law_goes"=some (.ref f))(hb:Binds K fd ["_law_web_here","_law_part_here","_law_rows"] []):az P w K mg base "_law_goes" 2 (aE Dc K):=by
  have nd:=As.nd
  refine bM F As hm hb (fun qs T ⟨_,_,_,e,_⟩=>by rw [e];rfl) (fun cdv A outer s H E qs T hr hS=>?_)
  obtain ⟨v,p,xs,rfl,rl,hl,rfl⟩:=hS
  change WS _ _ [.im (ay (ag ae) (ag aA)) v,.im ae p,.im (ag ae) xs,.no,.no] _ _
  refine aj (aK 3 ak ?_)
  refine aj (du (r:=ae) (fun i Γ=>∃q v4,Γ=[.im (ay (ag ae) (ag aA)) v,.im ae p,.im (ag ae) xs,.im ae q,v4]∧dJ v p 0 xs=dJ v p q (xs.drop i)) (ba (aa 2 rfl)) (aM 4) ⟨0,_,rfl,rfl⟩ ?_ ?_)
  · rintro i k Γ hk ⟨q,v4,rfl,hc⟩
    have hd:xs.drop i=k::xs.drop (i + 1):=by
      obtain ⟨h1,h2⟩:=List.getElem?_eq_some_iff.mp hk
      rw [List.drop_eq_getElem_cons h1,h2]
    rw [hd,dJ,vb] at hc
    refine aj (bu (aI xB (aa 4 rfl) (aW CF hr (af (aa 0 rfl) (af (aa 1 rfl) (af (aa 3 rfl) ao))) ⟨v,p,q,rfl,rl,rfl⟩)) (fun h=>?_) (fun h=>aU ?_))
    · have h:decide (k∈fromF v p q)=false:=by simpa using h
      refine ar (bA eK ?_)
      rw [hc,h];rfl
    · have h:decide (k∈fromF v p q)=true:=by simpa using h
      obtain ⟨k0,k1,_⟩:=cC (of_decide_eq_true h)
      refine ar (aK 3 (y:=cu v k) (dh (bB (y:=rowOf v k) (bI (aa 0 rfl)) (aa 4 rfl) (cH cf k0 k1))) ?_)
      exact ⟨cu v k,_,rfl,by rw [hc,h];rfl⟩
  · rintro Γ ⟨q,v4,rfl,hc⟩
    rw [List.drop_length] at hc
    refine ar (bA (dz bT (aa 3 rfl) ak) ?_)
    rw [hc,dJ]
noncomputable abbrev rN:Stmt:=top pd
theorem ze:ax gh gh (ah rN):=⟨rfl,rfl,rfl,by decide +kernel,rfl,by decide +kernel,by decide +kernel⟩
noncomputable def Cm:bW:=fun K ps T=>∃(k:Int) (v:aH) (p:Int) (xs:List Int) (n:Int),ps=mW k v p xs n∧bJ v∧0≤p∧p < (v.1.length:Int)∧xs.length≤1000∧T=bC K (ag c6) (· =qh k v p xs n)
theorem B4 (CL:az P w K mg base "_law_is_loose" 2 (aE AE K))(CG:az P w K mg base "_law_goes" 2 (aE Dc K))(CN:az P w K mg base "_law_on" 2 (aE nS K))(F:bh K "_law_due" "_law_due" rN f fd)(hm:mg "_law_due"=some (.ref f))(hb:Binds K fd gh []):az P w K mg base "_law_due" 3 (aE Cm K):=by
  have nd:=ze.nd
  refine bM F ze hm hb (fun qs T ⟨_,_,_,_,_,e,_⟩=>by rw [e];rfl) (fun cdv A outer s H E qs T hr hS=>?_)
  obtain ⟨k,v,p,xs,n,rfl,hv,p0,p1,hl,rfl⟩:=hS
  have hu:(A.deeper (envOfC "_law_due" (ah rN) s.heap.objs.size f cdv)).units + 1 < cLine:=Nat.lt_of_le_of_lt (Nat.add_le_add_left (by decide:1≤64) _) hr.units
  have rl:=hv.rl
  have hs:=hv.sz (v.1.getD p.toNat 0) (by rw [List.getD_eq_getElem?_getD,List.getElem?_eq_getElem (by omega)];exact List.getElem_mem _)
  change WS _ _ [.im ae k,.im (ay (ag ae) (ag aA)) v,.im ae p,.im (ag ae) xs,.im ae n] _ _
  unfold qh
  refine aj (bu (aI bT (aa 0 rfl) ak) (fun h=>?_) (fun h=>aU ?_))
  · have h:k=0:=of_decide_eq_true h
    rw [if_pos h]
    exact ar (bA (aC.im (aB (r:=c6) aF (by decide))) rfl)
  have h:¬k=0:=of_decide_eq_false h
  rw [if_neg h]
  refine aj (bu (bH (aZ (aW CL hr (af (aa 1 rfl) (af (aa 2 rfl) ao)) ⟨v,p,rfl,hv,p0,p1,rfl⟩))) (fun h=>?_) (fun h=>aU ?_))
  · have h:cW v p=false:=by simpa using h
    rw [if_pos h]
    exact ar (bA (aC.im (aB (r:=c6) (av gL aF) (by show 1≤sizeLine;decide))) rfl)
  have hlo:cW v p=true:=by simpa using h
  have hR:cL v.2 p.toNat:=by unfold cW at hlo;classical exact of_decide_eq_true hlo
  rw [if_neg (by rw [hlo];decide)]
  refine aj (bu (TW.tv (gB (aI bT (aa 0 rfl) ak) (fun _=>gw (bH (aZ (aW CG hr (af (aa 1 rfl) (af (aa 2 rfl) (af (aa 3 rfl) ao))) ⟨v,p,xs,rfl,rl.2,hl,rfl⟩)))))) (fun h=>?_) (fun h=>aU ?_))
  · obtain ⟨h1,h2⟩:=Bool.and_eq_true_iff.mp h
    rw [if_pos ⟨of_decide_eq_true h1,by simpa using h2⟩]
    exact ar (bA (aC.im (aB (r:=c6) (av gL aF) (by show 1≤sizeLine;decide))) rfl)
  rw [if_neg (fun ⟨a,c⟩=>by rw [decide_eq_true a,c] at h;exact absurd h (by decide))]
  refine aj (bu (TW.tv (gB (aI bT (aa 0 rfl) ak) (fun _=>gw (TW.tv (fU (aI dH (aa 4 rfl) ak) (fun _=>eT (aI ym (aa 4 rfl) (fq hu CN hr (af (aa 1 rfl) (af (aa 2 rfl) ao)) ⟨v,p,rfl,hv,p0,p1,hR,rfl⟩ ak (fun F ⟨h1,h2⟩=>dw.get hv p0 p1 hR h1 h2 (by omega) (by omega)))))))))) (fun h=>?_) (fun h=>aU ?_))
  · obtain ⟨h1,h2⟩:=Bool.and_eq_true_iff.mp h
    rw [if_pos ⟨of_decide_eq_true h1,by
      unfold jS
      rcases Bool.or_eq_true_iff.mp h2 with z | z
      · rw [decide_eq_false (show¬0≤n by have:=of_decide_eq_true z;omega)];rfl
      · rw [decide_eq_false (show¬n < onG v p 0 by have:=of_decide_eq_true z;omega)];simp⟩]
    exact ar (bA (aC.im (aB (r:=c6) (av gL aF) (by show 1≤sizeLine;decide))) rfl)
  rw [if_neg (fun ⟨a,c⟩=>by
    rw [decide_eq_true a] at h
    have h':=Bool.or_eq_false_iff.mp h
    have z1:=of_decide_eq_false h'.1
    have z2:=of_decide_eq_false h'.2
    unfold jS at c
    rw [decide_eq_true (show 0≤n by omega),decide_eq_true (show n < onG v p 0 by omega)] at c
    exact absurd c (by decide))]
  exact ar (bA (aC.im (aB (r:=c6) aF (by decide))) rfl)
end
section
variable {P:Program}{w:World}{K:PySem.W.Frag}{mg:Str→Option Value}{base:Heap}{f:Addr}{fd:FuncData}{C:Addr}
noncomputable abbrev wD:Stmt:=top ko
noncomputable abbrev nSW:List Str:=["_law_purse_here","_law_web_here","_law_part_here","_law_found","_law_here","_law_some"]
noncomputable abbrev Di:List Str:=["_law_purse_here","_law_web_here","_law_part_here"]
theorem zF:ax nSW Di (ah wD):=⟨rfl,rfl,rfl,by decide +kernel,rfl,by decide +kernel,by decide +kernel⟩
noncomputable def Dg:gZ Pu:=fun K s ps T=>∃(n:Int) (v:aH) (p:Int),cB n s∧0≤n∧n≤10000∧ps=[⟨bg,v⟩,⟨ae,p⟩]∧bJ v∧0≤p∧p < (v.1.length:Int)∧T=fun s'=>bC K (ag ae) fun xs=>cB (n + 40) s'∧1≤xs.length∧xs.length≤40
theorem AQ (M:bU mg)(CD:az P w K mg base "_law_draw" 1 (dy a9 jP K))(CF:az P w K mg base "_law_from" 1 (aE sD K))(F:bh K "_law_some_way" "_law_some_way" wD f fd)(hm:mg "_law_some_way"=some (.ref f))(hb:Binds K fd Di []):az P w K mg base "_law_some_way" 2 (dy a9 Dg K):=by
  have nd:=zF.nd
  refine gN F zF hm hb (fun xs qs T ⟨_,_,_,_,_,_,e,_⟩=>by rw [e];rfl) (fun cdv A outer s H E a b st qs T hr hS=>?_)
  obtain ⟨n,v,p,hP,n0,n1,rfl,hv,p0,p1,rfl⟩:=hS
  have rl:=hv.rl
  have hs:=hv.sz (v.1.getD p.toNat 0) (by rw [List.getD_eq_getElem?_getD,List.getElem?_eq_getElem (by omega)];exact List.getElem_mem _)
  change WS _ _ [.ob (a9.bx a b st),.im (ay (ag ae) (ag aA)) v,.im ae p,.no,.no,.no] _ _
  refine aj (de 3 (r:=ae) (aB aF (by decide)) ?_)
  refine aj (aK 4 ak ?_)
  refine aj (gu (fun m Γ=>∃st xs here v5,Γ=[.ob (a9.bx a b st),.im (ay (ag ae) (ag aA)) v,.im ae p,.mu ae xs,.im ae here,v5]∧cB (n + (xs.length:Int)) st∧0≤here∧here < v.1.getD p.toNat 0∧xs.length≤40∧(xs=[]→here=0)∧m=40 - xs.length) (m0:=40) ⟨st,[],0,_,rfl,hP.mono (by simp),by decide,by omega,by simp,fun _=>rfl,rfl⟩ ?_)
  rintro m Γ ⟨st2,xs,here,v5,rfl,hP2,h0,h1,hl,he,rfl⟩
  refine ⟨_,_,TW.tv (gB (aI nV (aa 4 rfl) ak) (fun _=>gw (aI dH (dU 3 M.len rfl) ak))),fun h=>?_,fun h=>?_⟩
  · obtain ⟨h2,h3⟩:=Bool.and_eq_true_iff.mp h
    have h2:here≠1:=by simpa using h2
    have h3:(xs.length:Int) < 40:=of_decide_eq_true h3
    refine aj (aK 5 (aW CF hr (af (aa 1 rfl) (af (aa 2 rfl) (af (aa 4 rfl) ao))) ⟨v,p,here,rfl,rl.2,rfl⟩) ?_)
    obtain ⟨k0,hk0⟩:=xE hv p0 p1 h0 h1 h2
    have fpos:0 < (fromF v p here).length:=(List.getElem?_eq_some_iff.mp hk0).1
    have fle:(fromF v p here).length≤60:=by
      unfold fromF
      refine Nat.le_trans (List.length_filter_le _ _) ?_
      rw [aN];omega
    obtain ⟨z,st3,z0,z1,hP3,hS3⟩:=bD hP2 (by omega) (b:=((fromF v p here).length:Int)) (by omega) (by omega)
    have hz:cA (fromF v p here) z=some ((fromF v p here).getD z.toNat 0):=cD z0 z1
    have hzm:=cC (v:=v) (p:=p) (q:=here) (k:=(fromF v p here).getD z.toNat 0) (by rw [List.getD_eq_getElem?_getD,List.getElem?_eq_getElem (by omega)];exact List.getElem_mem _)
    generalize (fromF v p here).getD z.toNat 0=c at hz hzm
    obtain ⟨c0,c1,cp,cq,cr⟩:=hzm
    refine aj (eA 3 (bB (aa 5 rfl) (aY 0 CD hr (af (cj M.len (aa 5 rfl)) ao) rfl rfl (hS3 _)) hz) rfl rfl (Nat.lt_of_le_of_lt (show xs.length≤1000 by omega) (by decide)) ?_)
    refine ar (aK 4 (dh (bB (y:=rowOf v c) (bI (aa 1 rfl)) (eQ 3 (cP ak) rfl rfl (uK (by simp))) (cH cf c0 c1))) ?_)
    have R:=hv.eN cr
    have:=R.e0;have en:=R.en
    rw [cp] at en
    refine ⟨40 - (xs++[c]).length,by rw [List.length_append,List.length_singleton];omega,st3,xs++[c],_,_,rfl,hP3.mono (by rw [List.length_append,List.length_singleton];omega),by omega,en,by rw [List.length_append,List.length_singleton];omega,fun e=>by simp at e,rfl⟩
  · have ne:xs≠[]:=fun e=>by
      rw [he e,e] at h
      exact absurd h (by decide)
    have:=List.length_pos_iff.mpr ne
    exact ar (dP 0 (B:=a9) (dN 3 rfl (aP (by omega))) rfl ⟨hP2.mono (by omega),by omega,hl⟩)
noncomputable abbrev vE:Stmt:=top mT
noncomputable abbrev nBT:List Str:=["_law_purse_here","_law_web_here","_law_way","_law_at","_law_other","_law_far","_law_some"]
noncomputable abbrev Cw:List Str:=["_law_purse_here","_law_web_here","_law_way"]
theorem zR:ax nBT Cw (ah vE):=⟨rfl,rfl,rfl,by decide +kernel,rfl,by decide +kernel,by decide +kernel⟩
noncomputable def Co:gZ Pu:=fun K s ps T=>∃(n:Int) (v:aH) (xs:List Int),cB n s∧0≤n∧n≤20000∧ps=[⟨bg,v⟩,⟨ag ae,xs⟩]∧bJ v∧1≤xs.length∧xs.length≤40∧T=fun s'=>bC K (ag ae) fun ys=>cB (n + 10) s'∧ys.length≤100
theorem B7 (M:bU mg)(CD:az P w K mg base "_law_draw" 1 (dy a9 jP K))(F:bh K "_law_bent" "_law_bent" vE f fd)(hm:mg "_law_bent"=some (.ref f))(hb:Binds K fd Cw []):az P w K mg base "_law_bent" 2 (dy a9 Co K):=by
  have nd:=zR.nd
  refine gN F zR hm hb (fun xs qs T ⟨_,_,_,_,_,_,e,_⟩=>by rw [e];rfl) (fun cdv A outer s H E a b st qs T hr hS=>?_)
  obtain ⟨n,v,xs,hP,n0,n1,rfl,hv,hl1,hl,rfl⟩:=hS
  have rl:=hv.rl
  change WS _ _ [.ob (a9.bx a b st),.im (ay (ag ae) (ag aA)) v,.im (ag ae) xs,.no,.no,.no,.no] _ _
  obtain ⟨p,st1,p0,p1,hP1,hS1⟩:=bD hP (by omega) (b:=(xs.length:Int)) (by omega) (by omega)
  refine aj (aK 3 (aY 0 CD hr (af (cj M.len (aa 2 rfl)) ao) rfl rfl (hS1 _)) ?_)
  obtain ⟨o,st2,o0,o1,hP2,hS2⟩:=bD hP1 (by omega) (b:=(v.2.length:Int)) (by omega) (by omega)
  refine aj (aK 4 (aY 0 CD hr (af (cj M.len (bI (aa 1 rfl))) ao) rfl rfl (hS2 _)) ?_)
  obtain ⟨d,st3,d0,d1,hP3,hS3⟩:=bD hP2 (by omega) (b:=(10:Int) ^ (15:Int).toNat) (by decide +kernel) (by decide +kernel)
  obtain ⟨e,st4,e0,e1,hP4,hS4⟩:=bD hP3 (by omega) (b:=(10:Int) ^ (14:Int).toNat) (by decide +kernel) (by decide +kernel)
  refine aj (aK 5 (bZ (lq (aY 0 CD hr (af (fk ak ak ⟨by decide,by decide,by decide⟩) ao) rfl rfl (hS3 _)) (fk ak ak ⟨by decide,by decide,by decide⟩) (.inr ⟨by decide +kernel,by decide +kernel⟩)) (aY 0 CD hr (af (fk ak ak ⟨by decide,by decide,by decide⟩) ao) rfl rfl (hS4 _))) ?_)
  generalize d * (10:Int) ^ (14:Int).toNat + e=far
  have c1:=eE xs none (some p)
  have c2:=eE xs (some (p + 1)) none
  have c3:=eE xs (some p) none
  have hat:cA xs p=some (xs.getD p.toNat 0):=cD p0 p1
  generalize xs.getD p.toNat 0=x0 at hat
  refine aj (aK 6 (aC.im (aB (r:=ag ae) (av (aa 2 rfl) (av (aa 2 rfl) (av (aC.im (c7 (aa 2 rfl) dD (dF (aa 3 rfl)))) (av (aC.im (cn (aC.im (cn (aC.im (c7 (aa 2 rfl) dD (dF (aa 3 rfl)))) (aC.im (aB (r:=ae) (av (bB (aa 2 rfl) (aa 3 rfl) hat) aF) (by show 1≤sizeLine;decide))) (aP (by show _ + 1≤_;omega)))) (aC.im (c7 (aa 2 rfl) (dF (aa 3 rfl)) dD)) (aP (by rw [List.length_append];show _ + 1 + _≤_;omega)))) (av (aC.im (cn (aC.im (c7 (aa 2 rfl) dD (dF (aa 3 rfl)))) (aC.im (c7 (aa 2 rfl) (dF (bZ (aa 3 rfl) ak)) dD)) (aP (by omega)))) (av (aC.im (aB (r:=ae) aF (by decide))) aF)))))) (by show 6≤sizeLine;decide))) ?_)
  refine aj (aK 6 (aC.im (cn (aa 6 rfl) (aC.im (aB (r:=ag ae) (av (aC.im (cn (aC.im (cn (aC.im (c7 (aa 2 rfl) dD (dF (aa 3 rfl)))) (aC.im (aB (r:=ae) (av (aa 4 rfl) aF) (by show 1≤sizeLine;decide))) (aP (by show _ + 1≤_;omega)))) (aC.im (c7 (aa 2 rfl) (dF (bZ (aa 3 rfl) ak)) dD)) (aP (by rw [List.length_append];show _ + 1 + _≤_;omega)))) (av (aC.im (cn (aC.im (cn (aC.im (c7 (aa 2 rfl) dD (dF (aa 3 rfl)))) (aC.im (aB (r:=ae) (av (aa 4 rfl) aF) (by show 1≤sizeLine;decide))) (aP (by show _ + 1≤_;omega)))) (aC.im (c7 (aa 2 rfl) (dF (aa 3 rfl)) dD)) (aP (by rw [List.length_append];show _ + 1 + _≤_;omega)))) (av (aC.im (cn (aa 2 rfl) (aC.im (aB (r:=ae) (av (aa 4 rfl) aF) (by show 1≤sizeLine;decide))) (aP (by show _ + 1≤_;omega)))) aF))) (by show 3≤sizeLine;decide))) (by show 6 + 3≤sizeLine;decide))) ?_)
  refine aj (aK 6 (aC.im (cn (aa 6 rfl) (aC.im (aB (r:=ag ae) (av (aC.im (cn (aC.im (aB (r:=ae) (av (cP ak) aF) (by show 1≤sizeLine;decide))) (aa 2 rfl) (aP (by show 1 + _≤_;omega)))) (av (aC.im (cn (aC.im (c7 (aa 2 rfl) dD (dF (aa 3 rfl)))) (aC.im (aB (r:=ae) (av (bZ (cj M.len (bI (aa 1 rfl))) (aa 5 rfl)) aF) (by show 1≤sizeLine;decide))) (aP (by show _ + 1≤_;omega)))) (av (aC.im (cn (aa 2 rfl) (aC.im (aB (r:=ae) (av (cK (cP ak) (aa 5 rfl)) aF) (by show 1≤sizeLine;decide))) (aP (by show _ + 1≤_;omega)))) aF))) (by show 3≤sizeLine;decide))) (by show 9 + 3≤sizeLine;decide))) ?_)
  obtain ⟨y,st5,y0,y1,hP5,hS5⟩:=bD hP4 (by omega) (b:=12) (by decide) (by decide)
  obtain ⟨ys,hys,hyl⟩:∃ys:List Int,cA ([xs,xs,cut xs none (some p),cut xs none (some p)++[x0]++cut xs (some p) none,cut xs none (some p)++cut xs (some (p + 1)) none,[]]++[cut xs none (some p)++[o]++cut xs (some (p + 1)) none,cut xs none (some p)++[o]++cut xs (some p) none,xs++[o]]++[[-1]++xs,cut xs none (some p)++[(v.2.length:Int) + far],xs++[-1 - far]]) y=some ys∧ys.length≤100:=by
    rcases (show y=0∨y=1∨y=2∨y=3∨y=4∨y=5∨y=6∨y=7∨y=8∨y=9∨y=10∨y=11 by omega) with z | z | z | z | z | z | z | z | z | z | z | z<;>rw [z]<;>exact ⟨_,rfl,by first | omega | (simp only [List.length_append,List.length_cons,List.length_nil];omega)⟩
  exact ar (dP 0 (B:=a9) (bB (aa 6 rfl) (aY 0 CD hr (af ak ao) rfl rfl (hS5 _)) hys) rfl ⟨hP5.mono (by omega),hyl⟩)
end
theorem fj {u:aH}(h:eh u=true):eV u=true∧(∀r∈u.2,cw u.1 r=true)∧(∀q∈ups (0 + 1) ((u.1.length:Int) - (0 + 1)).toNat,called u.2 q=true)∧∀x∈nums u.1,jY u.2 x.1 x.2=true:=by
  unfold eh at h
  split at h
  · cases h
  rename_i h1
  split at h
  · cases h
  rename_i h2
  split at h
  · cases h
  rename_i h3
  have h1:eV u=true:=by simpa using h1
  have h2:((u.2.filter fun _=>true).map (cw u.1)).all id=true:=by
    cases e:((u.2.filter fun _=>true).map (cw u.1)).all id with
    | true=>rfl
    | false=>rw [e] at h2;exact absurd rfl h2
  have h3:(((ups (0 + 1) ((u.1.length:Int) - (0 + 1)).toNat).filter fun _=>true).map (called u.2)).all id=true:=by
    cases e:(((ups (0 + 1) ((u.1.length:Int) - (0 + 1)).toNat).filter fun _=>true).map (called u.2)).all id with
    | true=>rfl
    | false=>rw [e] at h3;exact absurd rfl h3
  exact ⟨h1,all_map.mp h2,all_map.mp h3,all_map.mp h⟩
theorem not_true {b:Bool}(h:b=true→False):b=false:=by cases b<;>simp_all
theorem AH {places:List Int}{rows:List Row}{r:Row}(hr:r∈rows)(hl:cw places r=false):eh (places,rows)=false:=not_true fun h=>by
  have:=(fj h).2.1 r hr
  rw [hl] at this;cases this
theorem wY {v:aH}(hv:bJ v){p:Int}(p0:0≤p)(p1:p < (v.1.length:Int)){wide:List Int}(hw:wide[p.toNat]?=some (v.1.getD p.toNat 0 + 1)):eh (wide,v.2)=false:=not_true fun h=>by
  have nb:=hv.sz (v.1.getD p.toNat 0) (by rw [List.getD_eq_getElem?_getD,List.getElem?_eq_getElem (by omega)];exact List.getElem_mem _)
  have h4:=(fj h).2.2.2 (p,v.1.getD p.toNat 0 + 1) (n9.mpr ⟨p.toNat,by show p=_;omega,hw⟩)
  unfold jY at h4
  have h5:=(Bool.and_eq_true_iff.mp h4).1
  unfold gR at h5
  classical
  have h5:=of_decide_eq_true h5
  obtain ⟨ks,k1,k2,k3⟩:=h5
  have:=fN (xs:=ks) (ys:=ups 0 (v.1.getD p.toNat 0).toNat) k1 fun x hx=>by
    have hR:=(k2 x).mp hx
    have:0≤x∧x < v.1.getD p.toNat 0:=Reach.sub (P:=fun x=>0≤x∧x < v.1.getD p.toNat 0) ⟨Int.le_refl _,by omega⟩ (fun a b _ hab=>by
      obtain ⟨r,hr,r1,r2,r3⟩:=gx.mp hab
      have q:=hv.eN hr
      have e0:=q.e0;have en:=q.en
      rw [r1] at en
      rw [r3] at e0 en
      exact ⟨e0,en⟩) hR
    exact bE.mpr (by omega)
  rw [aN] at this
  have k3:(ks.length:Int)=v.1.getD p.toNat 0 + 1:=k3
  omega
theorem xN (places:List Int):eh (places,[])=false:=not_true fun h=>by
  have:=(fj h).1
  unfold eV at this
  simp at this
theorem u7 (rows:List Row):eh ([],rows)=false:=not_true fun h=>by
  have:=(fj h).1
  unfold eV at this
  simp at this
theorem qE {v:aH}(hv:bJ v):eh (v.1++[2],v.2++[((v.1.length:Int),0,1, -1)])=false:=not_true fun h=>by
  have pl:=hv.pl
  have h3:=(fj h).2.2.1 (v.1.length:Int) (by
    show (v.1.length:Int)∈ups (0 + 1) (((v.1++[2]).length:Int) - (0 + 1)).toNat
    unfold ups
    rw [List.mem_map]
    refine ⟨v.1.length - 1,List.mem_range.mpr ?_,?_⟩
    · rw [List.length_append,List.length_singleton];omega
    · omega)
  unfold called at h3
  obtain ⟨b,hb,hb2⟩:=List.any_eq_true.mp h3
  obtain ⟨r,hr,rfl⟩:=List.mem_map.mp hb
  have:r.2.2.2=(v.1.length:Int):=of_decide_eq_true hb2
  rcases List.mem_append.mp (List.mem_filter.mp hr).1 with q | q
  · have q:=hv.eN q
    have c1:=q.c1
    omega
  · rw [List.mem_singleton.mp q] at this
    have this:(-1:Int)=(v.1.length:Int):=this
    omega
section
variable {P:Program}{w:World}{K:PySem.W.Frag}{mg:Str→Option Value}{base:Heap}{f:Addr}{fd:FuncData}{C:Addr}
noncomputable abbrev qo:Stmt:=top lQ
noncomputable abbrev DG:List Str:=["_law_purse_here","_law_web_here","_law_places","_law_part_here","_law_far","_law_row","_law_way","_law_rows"]
theorem wA:ax DG ["_law_purse_here","_law_web_here"] (ah qo):=⟨rfl,rfl,rfl,by decide +kernel,rfl,by decide +kernel,by decide +kernel⟩
noncomputable def Ax:gZ Pu:=fun K s ps T=>∃(n:Int) (v:aH),cB n s∧0≤n∧n≤20000∧ps=[⟨bg,v⟩]∧bJ v∧T=fun s'=>bC K bg fun u=>cB (n + 10) s'∧eh u=false∧u.1.length≤1000∧u.2.length≤1000
theorem yS (M:bU mg)(CD:az P w K mg base "_law_draw" 1 (dy a9 jP K))(F:bh K "_law_no_web" "_law_no_web" qo f fd)(hm:mg "_law_no_web"=some (.ref f))(hb:Binds K fd ["_law_purse_here","_law_web_here"] []):az P w K mg base "_law_no_web" 2 (dy a9 Ax K):=by
  have nd:=wA.nd
  refine gN F wA hm hb (fun xs qs T ⟨_,_,_,_,_,e,_⟩=>by rw [e];rfl) (fun cdv A outer s H E a b st qs T hr hS=>?_)
  obtain ⟨n,v,hP,n0,n1,rfl,hv,rfl⟩:=hS
  have pl:=hv.pl
  have rl:=hv.rl
  change WS _ _ [.ob (a9.bx a b st),.im (ay (ag ae) (ag aA)) v,.no,.no,.no,.no,.no,.no] _ _
  refine aj (de 2 (fK M.list (cU (aa 1 rfl))) ?_)
  obtain ⟨p,st1,p0,p1,hP1,hS1⟩:=bD hP (by omega) (b:=(v.1.length:Int)) (by omega) (by omega)
  refine aj (aK 3 (aY 0 CD hr (af (dU 2 M.len rfl) ao) rfl rfl (hS1 _)) ?_)
  obtain ⟨d,st2,d0,d1,hP2,hS2⟩:=bD hP1 (by omega) (b:=(10:Int) ^ (15:Int).toNat) (by decide +kernel) (by decide +kernel)
  obtain ⟨e,st3,e0,e1,hP3,hS3⟩:=bD hP2 (by omega) (b:=2) (by decide) (by decide)
  have dx:0≤d * (10:Int) ^ (14:Int).toNat:=Int.mul_nonneg d0 (by decide +kernel)
  obtain ⟨far,hfar,f1⟩:∃far,cA [(1:Int),1 + d * (10:Int) ^ (14:Int).toNat] e=some far∧1≤far:=by
    rcases (show e=0∨e=1 by omega) with z | z<;>rw [z]
    · exact ⟨_,rfl,by omega⟩
    · exact ⟨_,rfl,by omega⟩
  refine aj (aK 4 (bB (aC.im (aB (r:=ae) (av ak (av (bZ ak (lq (aY 0 CD hr (af (fk ak ak ⟨by decide,by decide,by decide⟩) ao) rfl rfl (hS2 _)) (fk ak ak ⟨by decide,by decide,by decide⟩) (.inr ⟨by decide +kernel,by decide +kernel⟩))) aF)) (by show 2≤sizeLine;decide))) (aY 0 CD hr (af ak ao) rfl rfl (hS3 _)) hfar) ?_)
  have hn:cA v.1 p=some (v.1.getD p.toNat 0):=cD p0 p1
  have szb:=hv.sz (v.1.getD p.toNat 0) (by rw [List.getD_eq_getElem?_getD,List.getElem?_eq_getElem (by omega)];exact List.getElem_mem _)
  have rw4:∀{X:Cx} {Γ Γ1:Ga} {es:List Expr} {k:Nat} {pos:Pos} {x1 x2 x3 x4:Int},HA X es Γ [⟨ae,x1⟩,⟨ae,x2⟩,⟨ae,x3⟩,⟨ae,x4⟩] Γ1→True:=fun _=>trivial
  refine aj (aK 5 (aC.im (aB (r:=aA) (av (eP (af (aa 3 rfl) (af ak (af ak (af (cP ak) ao))))) (av (eP (af (aa 3 rfl) (af ak (af (eQ 2 (aa 3 rfl) rfl rfl hn) (af (cP ak) ao))))) (av (eP (af (aa 3 rfl) (af ak (af (cK ak (aa 4 rfl)) (af (cP ak) ao))))) (av (eP (af (aa 3 rfl) (af ak (af ak (af (aa 3 rfl) ao))))) aF)))) (by show 4≤sizeLine;decide))) ?_)
  refine aj (aK 5 (aC.im (cn (aa 5 rfl) (aC.im (aB (r:=aA) (av (eP (af (aa 3 rfl) (af ak (af ak (af (cK (cP ak) (aa 4 rfl)) ao))))) (av (eP (af (aa 3 rfl) (af ak (af ak (af (dU 2 M.len rfl) ao))))) (av (eP (af (dU 2 M.len rfl) (af ak (af ak (af (cP ak) ao))))) aF))) (by show 3≤sizeLine;decide))) (by show 4 + 3≤sizeLine;decide))) ?_)
  refine aj (aK 5 (aC.im (cn (aa 5 rfl) (aC.im (aB (r:=aA) (av (eP (af (cK ak (aa 4 rfl)) (af ak (af ak (af (cP ak) ao))))) (av (eP (af (aa 3 rfl) (af (eQ 2 (aa 3 rfl) rfl rfl hn) (af ak (af (cP ak) ao))))) aF)) (by show 2≤sizeLine;decide))) (by show 7 + 2≤sizeLine;decide))) ?_)
  obtain ⟨y,st4,y0,y1,hP4,hS4⟩:=bD hP3 (by omega) (b:=13) (by decide) (by decide)
  refine aj (aK 6 (aY 0 CD hr (af ak ao) rfl rfl (hS4 _)) ?_)
  refine aj (bu (aI dH (aa 6 rfl) ak) (fun h=>?_) (fun h=>aU ?_))
  · have h:y < 9:=of_decide_eq_true h
    generalize hsz:v.1.getD p.toNat 0=sz at szb ⊢
    obtain ⟨bb,hbb,hf⟩:∃bb:Row,cA ([((p,1,0, -1):Row),(p,0,sz, -1),(p,0,0 - far, -1),(p,0,1,p)]++[((p,0,1, -1 - far):Row),(p,0,1,(v.1.length:Int)),((v.1.length:Int),0,1, -1)]++[((0 - far,0,1, -1):Row),(p,sz,1, -1)]) y=some bb∧cw v.1 bb=false:=by
      have no:∀r:Row,(cw v.1 r=true→False)→cw v.1 r=false:=fun r h=>not_true h
      rcases (show y=0∨y=1∨y=2∨y=3∨y=4∨y=5∨y=6∨y=7∨y=8 by omega) with z | z | z | z | z | z | z | z | z<;>rw [z]
      · exact ⟨_,rfl,no _ fun h=>by unfold cw at h;simp at h⟩
      · exact ⟨_,rfl,no _ fun h=>by unfold cw at h;rw [hsz] at h;simp at h⟩
      · exact ⟨_,rfl,no _ fun h=>by unfold cw at h;simp at h<;>omega⟩
      · exact ⟨_,rfl,no _ fun h=>by unfold cw at h;simp at h<;>omega⟩
      · exact ⟨_,rfl,no _ fun h=>by unfold cw at h;simp at h<;>omega⟩
      · exact ⟨_,rfl,no _ fun h=>by unfold cw at h;simp at h<;>omega⟩
      · exact ⟨_,rfl,no _ fun h=>by unfold cw at h;simp at h⟩
      · exact ⟨_,rfl,no _ fun h=>by unfold cw at h;simp at h<;>omega⟩
      · exact ⟨_,rfl,no _ fun h=>by unfold cw at h;rw [hsz] at h;simp at h⟩
    refine aj (de 7 (fK M.list (bI (aa 1 rfl))) ?_)
    obtain ⟨z,st5,z0,z1,hP5,hS5⟩:=bD hP4 (by omega) (b:=(v.2.length:Int) + 1) (by omega) (by omega)
    refine aj (mP 7 (aY 0 CD hr (af (bZ (dU 7 M.len rfl) ak) ao) rfl rfl (hS5 _)) (bB (aa 5 rfl) (aa 6 rfl) hbb) rfl rfl z0 (by omega) (Nat.lt_of_le_of_lt (show v.2.length≤1000 by omega) (by decide)) ?_)
    exact ar (dP 0 (B:=a9) (rr:=ay (ag ae) (ag aA)) (cQ (af (dN 2 rfl (aP (by omega))) (af (dN 7 rfl (aP (by rw [gT];omega))) ao))) rfl ⟨hP5.mono (by omega),AH (rP.mpr (.inl rfl)) hf,by show v.1.length≤1000;omega,by show (cc _ _ _).length≤1000;rw [gT];omega⟩)
  refine aj (bu (aI bT (aa 6 rfl) ak) (fun h=>?_) (fun h=>aU ?_))
  · refine aj (lK 2 (bZ (eQ 2 (aa 3 rfl) rfl rfl hn) ak) (aa 3 rfl) rfl rfl (fi p0 p1) ?_)
    exact ar (dP 0 (B:=a9) (rr:=ay (ag ae) (ag aA)) (cQ (af (dN 2 rfl (aP (by rw [List.length_set];omega))) (af (aC.im (fK M.list (bI (aa 1 rfl)))) ao))) rfl ⟨hP4.mono (by omega),wY hv p0 p1 (by rw [List.getElem?_set_self (by omega)]),by show (List.set _ _ _).length≤1000;rw [List.length_set];omega,by show v.2.length≤1000;omega⟩)
  refine aj (bu (aI bT (aa 6 rfl) ak) (fun h=>?_) (fun h=>aU ?_))
  · exact ar (dP 0 (B:=a9) (rr:=ay (ag ae) (ag aA)) (cQ (af (aC.im (cn (dN 2 rfl (aP (by omega))) (aC.im (aB (r:=ae) (av ak aF) (by show 1≤sizeLine;decide))) (aP (by show _ + 1≤_;omega)))) (af (aC.im (cn (bI (aa 1 rfl)) (aC.im (aB (r:=aA) (av (eP (af (cj M.len (aa 2 rfl)) (af ak (af ak (af (cP ak) ao))))) aF) (by show 1≤sizeLine;decide))) (aP (by show _ + 1≤_;omega)))) ao))) rfl ⟨hP4.mono (by omega),qE hv,by show List.length (v.1++[2])≤1000;rw [List.length_append];show _ + 1≤_;omega,by show List.length (v.2++[_])≤1000;rw [List.length_append];show _ + 1≤_;omega⟩)
  refine aj (bu (aI bT (aa 6 rfl) ak) (fun h=>?_) (fun h=>aU ?_))
  · exact ar (dP 0 (B:=a9) (rr:=ay (ag ae) (ag aA)) (cQ (af (dN 2 rfl (aP (by omega))) (af (aC.im (aB (r:=aA) aF (by decide))) ao))) rfl ⟨hP4.mono (by omega),xN _,by show v.1.length≤1000;omega,by show 0≤1000;decide⟩)
  · exact ar (dP 0 (B:=a9) (rr:=ay (ag ae) (ag aA)) (cQ (af (aC.im (aB (r:=ae) aF (by decide))) (af (aC.im (fK M.list (bI (aa 1 rfl)))) ao))) rfl ⟨hP4.mono (by omega),u7 _,by show 0≤1000;decide,by show v.2.length≤1000;omega⟩)
end
end K1
namespace Fc
open PySem PySem.Spec L2
open PyProof.Rows hiding St
section
variable {X:Cx}{Γ Γ1 Γ2 Γ3:Ga}{α β γ δ:Type}{N:Ga→Prop}{T:RT}
noncomputable def HX (X:Cx)(es:List Expr)(Γ:Ga)(G:List Pk→Ga→Prop):Prop:=∀(σ:St) (H0 R0 H R:Hp),aq X.K σ H0 R0 H R Γ→∀Q:List V→Hp→Prop,(∀vs H1 R1 ps Γ1,G ps Γ1→aq X.K σ H0 R0 H1 R1 Γ1→au R R1→ff X.K R1 vs ps→Q vs H1)→h9 X es σ H Q
theorem BA {es:List Expr}{ps:List Pk}(h:HA X es Γ ps Γ1):HX X es Γ (fun ps' Γ'=>ps'=ps∧Γ'=Γ1):=fun σ H0 R0 H R E Q q=>h σ H0 R0 H R E Q fun vs H1 R1 E1 s1 p1=>q vs H1 R1 ps Γ1 ⟨rfl,rfl⟩ E1 s1 p1
theorem xf {e:Expr}{es:List Expr}{r:Rep α}{x:α}{G:List Pk→Ga→Prop}(he:EV X e Γ r x Γ1)(hr:HX X es Γ1 G)(hs:autoParam (starEach (e::es) X.env=(false,eval e X.env)::starEach es X.env) Fc.ai):HX X (e::es) Γ (fun ps Γ'=>∃ps',ps=⟨r,x⟩::ps'∧G ps' Γ'):=by
  intro σ H0 R0 H R E Q q
  refine aS (aT aL i6 hs) (he σ H0 R0 H R E _ fun v H1 R1 E1 s1 e1=>hr σ H0 R0 H1 R1 E1 _ fun vs H2 R2 ps Γ2 hg E2 s2 e2=>?_)
  exact q (v::vs) H2 R2 _ Γ2 ⟨ps,rfl,hg⟩ E2 (s1.trans s2) (.cons (r.mono s2 e1) e2)
theorem uB (i:Nat){P:Type}{B:fF P}{S:gZ P}{x y:Str}{k:Nat}{es ds:List Expr}{p p1 pos:Pos}{ps:List Pk}{a b:Addr}{s0 s:P}{rr:Rep β}{Pd:P→β→Prop}{G:P→β→List Pk→Ga→Prop}(C:az X.prog X.w X.K X.mg X.base x k (dy B S X.K))(hr:bt k X.A)(ha:HA X es Γ ps Γ1)(hΓ:Γ[i]?=some (.ob (B.bx a b s0)))(hΓ1:Γ1[i]?=some (.ob (B.bx a b s)))(hS:S X.K s ps (fun s'=>bC X.K rr (Pd s')))
    (h:∀s' z,Pd s' z→HX X ds (Γ1.set i (.ob (B.bx a b s'))) (G s' z))
    (hg:autoParam (Gl X x) Fc.ai) (hdb:autoParam ((x==("__debug__":Str))=false) Fc.aw) (he:autoParam (starEach (.Name y p1::es) X.env=(false,eval (.Name y p1) X.env)::starEach es X.env) Fc.ai) (hpl:autoParam ((backTo pos (starEach es X.env)).any (·.1)=false) Fc.ai)
    (hN:autoParam (X.N[i]?=some y) Fc.ai) (hv:autoParam (ck X.env.scope y) Fc.bO) (hd:autoParam ((y==("__debug__":Str))=false) Fc.aw) (hcd:autoParam ((y==("__classdict__":Str))=false) Fc.aw)
    (hs:autoParam (starEach (.Call (.Name x p) (.Name y p1::es) [] pos::ds) X.env=(false,eval (.Call (.Name x p) (.Name y p1::es) [] pos) X.env)::starEach ds X.env) Fc.ai):
    HX X (.Call (.Name x p) (.Name y p1::es) [] pos::ds) Γ (fun ps Γ'=>∃s' z ps',Pd s' z∧ps=⟨rr,z⟩::ps'∧G s' z ps' Γ'):=by
  intro σ H0 R0 H R E Q q
  refine aS (aT aL i6 hs) (ji i C hr ha hΓ hΓ1 hS E (fun H1 R1 v H' R' s' _ s1 xx E' t=>?_) hg hdb he hpl hN hv hd hcd)
  obtain ⟨z,e1,hz⟩:=t
  refine h s' z hz σ H0 R0 H' R' E' _ fun vs H2 R2 ps Γ2 hG E2 s2 e2=>?_
  exact q (v::vs) H2 R2 _ Γ2 ⟨s',z,ps,hz,rfl,hG⟩ E2 ((s1.trans xx.r).trans s2) (.cons (rr.mono s2 e1) e2)
theorem uM {tg:Expr}(i:Nat){P:Type}{B:fF P}{S:gZ P}{x y:Str}{k:Nat}{es:List Expr}{p p1 p2 pos:Pos}{a b:Addr}{s0:P}{rr:Rep β}{Pd:P→β→Prop}{bf:β→Ga→Ga}{G:List Pk→Ga→Prop}(C:az X.prog X.w X.K X.mg X.base x k (dy B S X.K))(hr:bt k X.A)(ha:HX X es Γ G)(hΓ:Γ[i]?=some (.ob (B.bx a b s0)))(hS:∀ps Γ1,G ps Γ1→∃s,Γ1[i]?=some (.ob (B.bx a b s))∧S X.K s ps (fun s'=>bC X.K rr (Pd s')))(hb:BG X tg rr bf)(h:∀ps Γ1 s' z,G ps Γ1→Pd s' z→N (bf z (Γ1.set i (.ob (B.bx a b s')))))
    (hg:autoParam (Gl X x) Fc.ai) (hdb:autoParam ((x==("__debug__":Str))=false) Fc.aw) (he:autoParam (starEach (.Name y p1::es) X.env=(false,eval (.Name y p1) X.env)::starEach es X.env) Fc.ai) (hpl:autoParam ((backTo p2 (starEach es X.env)).any (·.1)=false) Fc.ai)
    (hN:autoParam (X.N[i]?=some y) Fc.ai) (hv:autoParam (ck X.env.scope y) Fc.bO) (hd:autoParam ((y==("__debug__":Str))=false) Fc.aw) (hcd:autoParam ((y==("__classdict__":Str))=false) Fc.aw)
    (hs:autoParam (swapsWithSole [tg] (.Call (.Name x p) (.Name y p1::es) [] p2) pos.line X.env=pure false) Fc.ai) (hw:autoParam (swappedStores [tg] (.Call (.Name x p) (.Name y p1::es) [] p2) X.env=pure none) Fc.ai) (h1:autoParam ((assignEach [tg] X.env).map (·.2)=[assign tg X.env]) Fc.ai):
    W1 X (.Assign [tg] (.Call (.Name x p) (.Name y p1::es) [] p2) pos) Γ N T:=fun σ H0 R0 H R E D dn dr=>by
  obtain ⟨f,fd,pn,F,hm,hk,hb'⟩:=C.ex
  obtain ⟨ea,_,_⟩:=d6 (E.ent i _ hΓ)
  refine sS (gc (jH F hr hg hm hk hb' .nil mS (aT (br hN hv hd hcd) i6 he) hdb he hpl) vw hs hw h1) ⟨.ref a,at_of ea,ha σ H0 R0 H R E _ fun us H1 R1 ps Γ1 hG E1 s1 p1=>?_⟩
  obtain ⟨s,hΓ1,hS1⟩:=hS ps Γ1 hG
  obtain ⟨ea1,hB,hRa,hRb⟩:=d6 (E1.ent i _ hΓ1)
  refine ⟨R1,a,b,s,us,ps,_,by rw [List.append_nil],E1.sub,⟨hRa,hRb⟩,hB,p1,hS1,fun v H' R' s' xx hB' hR' t=>?_⟩
  obtain ⟨w,e1,hz⟩:=t
  have E':=E1.wd hΓ1 (by rw [B.fp];exact xx) (by rw [ea1];exact hV hB' hR'.1 hR'.2) fun c hc=>by rw [B.fp] at hc ⊢;exact hc
  exact hb σ H0 R0 H' R' _ v w E' e1 _ fun σ2 E2=>dn σ2 H' R' _ E2 (s1.trans xx.r) (h ps Γ1 s' w hG hz)
end
end Fc
namespace K1
open PySem L2 Fc
open PySem.Spec hiding Row
open PyProof.Rows hiding St
open PySem.Builtin.Int (intBits)
section
variable {P:Program}{w:World}{K:PySem.W.Frag}{mg:Str→Option Value}{base:Heap}{f:Addr}{fd:FuncData}{C:Addr}
@[reducible] instance decWL:DecidableEq ((List Int×List Row) ⊕ List Int):=@instDecidableEqSum (List Int×List Row) (List Int) inferInstance inferInstance
theorem yC (k:Int)(v:aH)(p:Int)(xs:List Int)(n:Int)(hv:bJ v)(p0:0≤p)(p1:p < (v.1.length:Int))(hl:xs.length≤1000)(k0:0≤k)(k5:k≤5)(CG1:az P w K mg base "_law_refused" 14 (aE (jN yH []) K))(CG2:az P w K mg base "_law_refused" 14 (aE (jN (nE 1 oS) [("loose":Str)]) K))(CG3:az P w K mg base "_law_refused" 14 (aE (jN zA [("way":Str)]) K)):∃S:bW,az P w K mg base "_law_refused" 14 (aE S K)∧S K (mW k v p xs n) (bC K (ag c6) (· =qh k v p xs n)):=by
  unfold qh
  have ris:¬cW v p=false→cL v.2 p.toNat:=fun h=>by
    have h:cW v p=true:=by simpa using h
    unfold cW at h
    classical exact of_decide_eq_true h
  split
  · rename_i h
    exact ⟨_,CG1,k,v,p,xs,n,rfl,⟨hv,p0,p1,hl,fun z=>by omega,fun z=>by omega,fun z=>by omega⟩,rfl⟩
  split
  · rename_i h h1
    exact ⟨_,CG2,k,v,p,xs,n,rfl,⟨by omega,k0,k5,hv,p0,p1,h1⟩,rfl⟩
  rename_i h h1
  have hR:=ris h1
  split
  · rename_i h2
    exact ⟨_,CG3,k,v,p,xs,n,rfl,⟨hv,p0,p1,hR,hl,.inl h2⟩,rfl⟩
  rename_i h2
  split
  · rename_i h3
    exact ⟨_,CG3,k,v,p,xs,n,rfl,⟨hv,p0,p1,hR,hl,.inr h3⟩,rfl⟩
  rename_i h3
  refine ⟨_,CG1,k,v,p,xs,n,rfl,⟨hv,p0,p1,hl,fun _=>hR,fun z=>?_,fun z=>?_⟩,rfl⟩
  · cases e:dJ v p 0 xs with
    | true=>rfl
    | false=>exact absurd ⟨z,e⟩ h2
  · cases e:jS v p n with
    | true=>rfl
    | false=>exact absurd ⟨z,e⟩ h3
noncomputable abbrev iy:Stmt:=top zr
noncomputable abbrev zm:List Str:=["_law_script","_law_purse_here","_law_web_here","_law_part_here","_law_far","_law_gone","_law_way","_law_number","_law_none","_law_kept","_law_k"]
theorem yY:ax zm ["_law_script"] (ah iy):=⟨rfl,rfl,rfl,by decide +kernel,rfl,by decide +kernel,by decide +kernel⟩
noncomputable def oN:bW:=fun K ps T=>∃ns:List Int,ps=[⟨gf,ns⟩]∧ns.length≤63∧(∀n∈ns,intBits n≤2 ^ 20)∧T=bC K aO (· =true)
theorem Bm (M:bU mg)(CU:az P w K mg base "_law_purse" 1 (aE C8 K))(CD:az P w K mg base "_law_draw" 1 (dy a9 jP K))(CW:az P w K mg base "_law_web" 4 (dy a9 CH K))(CC:az P w K mg base "_law_copy" 1 (aE Cy K))(CL:az P w K mg base "_law_is_loose" 2 (aE AE K))(CO:az P w K mg base "_law_on" 2 (aE nS K))(CB:az P w K mg base "_law_bent" 2 (dy a9 Co K))(CS:az P w K mg base "_law_some_way" 2 (dy a9 Dg K))(CN:az P w K mg base "_law_no_web" 2 (dy a9 Ax K))(CE:az P w K mg base "_law_due" 3 (aE Cm K))(CG1:az P w K mg base "_law_refused" 14 (aE (jN yH []) K))(CG2:az P w K mg base "_law_refused" 14 (aE (jN (nE 1 oS) [("loose":Str)]) K))(CG3:az P w K mg base "_law_refused" 14 (aE (jN zA [("way":Str)]) K))(CG4:az P w K mg base "_law_refused" 14 (aE (jN (nE 0 vQ) [("way":Str)]) K))(CG5:az P w K mg base "_law_refused" 14 (aE (jN (nE 0 wH) [("web":Str)]) K))(F:bh K "law" "law" iy f fd):et P w K mg base df 15 f fd ["_law_script"] (aE oN K):=by
  have nd:=yY.nd
  have CU:=CU.mono (show 1≤14 by decide)
  have CD:=CD.mono (show 1≤14 by decide)
  have CW:=CW.mono (show 4≤14 by decide)
  have CC:=CC.mono (show 1≤14 by decide)
  have CL:=CL.mono (show 2≤14 by decide)
  have CO:=CO.mono (show 2≤14 by decide)
  have CB:=CB.mono (show 2≤14 by decide)
  have CS:=CS.mono (show 2≤14 by decide)
  have CN:=CN.mono (show 2≤14 by decide)
  have CE:=CE.mono (show 3≤14 by decide)
  refine tX F yY (fun qs T ⟨_,e,_⟩=>by rw [e];rfl) (fun cdv A outer s H E qs T hr hS=>?_)
  obtain ⟨ns,rfl,hlen,hbits,rfl⟩:=hS
  have hu:∀n,n≤8→(A.deeper (envOfC "law" (ah iy) s.heap.objs.size f cdv)).units + n < cLine:=fun n hn=>Nat.lt_of_le_of_lt (Nat.add_le_add_left (by omega:n≤64) _) hr.units
  have hu1:=hu 1 (by decide)
  have hu4:=hu 4 (by decide)
  change WS _ _ [.im gf ns,.no,.no,.no,.no,.no,.no,.no,.no,.no,.no] _ _
  refine aj (uY 1 CU hr (af (aa 0 rfl) ao) ⟨ns,rfl,hlen,hbits,rfl⟩ ?_)
  intro a b st hP
  obtain ⟨y0,st0,_,_,hP0,hS0⟩:=bD hP (by decide) (b:=2) (by decide) (by decide)
  refine aj (ky 1 CW hr (af (dz bT (aY 1 CD hr (af ak ao) rfl rfl (hS0 _)) ak) ao) rfl rfl ⟨_,_,hP0,by decide,rfl,rfl⟩ (aM 2) ?_)
  rintro st1 v ⟨hP1,hv⟩
  have hv:=hv.g
  have pl:=hv.pl
  have rl:=hv.rl
  obtain ⟨p,st2,p0,p1,hP2,hS2⟩:=bD hP1 (by decide) (b:=(v.1.length:Int)) (by omega) (by omega)
  refine aj (aK 3 (aY 1 CD hr (af (cj M.len (cU (aa 2 rfl))) ao) rfl rfl (hS2 _)) ?_)
  have hs:=hv.sz (v.1.getD p.toNat 0) (by rw [List.getD_eq_getElem?_getD,List.getElem?_eq_getElem (by omega)];exact List.getElem_mem _)
  obtain ⟨d,st3,d0,d1,hP3,hS3⟩:=bD hP2 (by decide) (b:=(10:Int) ^ (15:Int).toNat) (by decide +kernel) (by decide +kernel)
  obtain ⟨e,st4,e0,e1,hP4,hS4⟩:=bD hP3 (by decide) (b:=(10:Int) ^ (14:Int).toNat) (by decide +kernel) (by decide +kernel)
  have dx:0≤d * (10:Int) ^ (14:Int).toNat:=Int.mul_nonneg d0 (by decide +kernel)
  refine aj (aK 4 (bZ (lq (aY 1 CD hr (af (fk ak ak ⟨by decide,by decide,by decide⟩) ao) rfl rfl (hS3 _)) (fk ak ak ⟨by decide,by decide,by decide⟩) (.inr ⟨by decide +kernel,by decide +kernel⟩)) (aY 1 CD hr (af (fk ak ak ⟨by decide,by decide,by decide⟩) ao) rfl rfl (hS4 _))) ?_)
  have fr0:0≤d * (10:Int) ^ (14:Int).toNat + e:=by omega
  generalize d * (10:Int) ^ (14:Int).toNat + e=far at fr0 ⊢
  obtain ⟨t,st5,t0,t1,hP5,hS5⟩:=bD hP4 (by decide) (b:=4) (by decide) (by decide)
  obtain ⟨gone,hgone,hgo⟩:∃q:Int,cA [(-1:Int),(v.1.length:Int),(v.1.length:Int) + far, -1 - far] t=some q∧(q < 0∨(v.1.length:Int)≤q):=by
    rcases (show t=0∨t=1∨t=2∨t=3 by omega) with z | z | z | z<;>rw [z]
    · exact ⟨_,rfl,by omega⟩
    · exact ⟨_,rfl,by omega⟩
    · exact ⟨_,rfl,by omega⟩
    · exact ⟨_,rfl,by omega⟩
  refine aj (aK 5 (bB (aC.im (aB (r:=ae) (av (cP ak) (av (cj M.len (cU (aa 2 rfl))) (av (bZ (cj M.len (cU (aa 2 rfl))) (aa 4 rfl)) (av (cK (cP ak) (aa 4 rfl)) aF)))) (by show 4≤sizeLine;decide))) (aY 1 CD hr (af ak ao) rfl rfl (hS5 _)) hgone) ?_)
  refine aj (uM 1 (rr:=ag ae) (Pd:=fun s' (ys:List Int)=>cB (0 + 1 + 2000 + 1 + 1 + 1 + 1 + 40 + 10) s'∧ys.length≤100) CB hr (xf (aa 2 rfl) (uB 1 CS hr (af (aa 2 rfl) (af (aa 3 rfl) ao)) rfl rfl ⟨_,v,p,hP5,by decide,by decide,rfl,hv,p0,p1,rfl⟩ (fun s' z hz=>BA ao))) rfl ?_ (aM 6) ?_)
  · rintro ps Γ1 ⟨_,rfl,s',z,_,⟨hPs,hl1,hl⟩,rfl,rfl,rfl⟩
    exact ⟨s',rfl,_,v,z,hPs,by decide,by decide,rfl,hv,hl1,hl,rfl⟩
  rintro ps Γ1 st6 xs ⟨_,rfl,s',z,_,_,rfl,rfl,rfl⟩ ⟨hP6,hxl⟩
  obtain ⟨y,st7,y0,y1,hP7,hS7⟩:=bD hP6 (by decide) (b:=4) (by decide) (by decide)
  obtain ⟨num,hnum⟩:∃num:Int,cA [(0:Int), -1, -1 - far,far] y=some num:=by
    rcases (show y=0∨y=1∨y=2∨y=3 by omega) with z | z | z | z<;>rw [z]<;>exact ⟨_,rfl⟩
  refine aj (aK 7 (bB (aC.im (aB (r:=ae) (av ak (av (cP ak) (av (cK (cP ak) (aa 4 rfl)) (av (aa 4 rfl) aF)))) (by show 4≤sizeLine;decide))) (aY 1 CD hr (af ak ao) rfl rfl (hS7 _)) hnum) ?_)
  have rest:∀(st:Pu) (num:Int),cB 3000 st→WS (bF df P w K mg base zm "law" (ah iy) f cdv A outer s H E).bR ((bo iy).drop 8) [.im gf ns,.ob (a9.bx a b st),.im (ay (ag ae) (ag aA)) v,.im ae p,.im ae far,.im ae gone,.im (ag ae) xs,.im ae num,.no,.no,.no] (fun _=>False) (bC K aO (· =true)):=by
    intro st num hPq
    refine aj (ky 1 CN hr (af (aa 2 rfl) ao) rfl rfl ⟨_,v,hPq,by decide,by decide,rfl,hv,rfl⟩ (aM 8) ?_)
    rintro st8 u ⟨_,hw,l1,l2⟩
    refine aj (aK 9 (aC.im (aB (r:=lD bg (ag ae)) (av (EV.inl (aW CC hr (af (aa 2 rfl) ao) ⟨v,rfl,rfl⟩)) (av (EV.inl (aW CC hr (af (aa 8 rfl) ao) ⟨u,rfl,rfl⟩)) (av (EV.inr (aC.im (fK M.list (aa 6 rfl)))) aF))) (by show 3≤sizeLine;decide))) ?_)
    refine aj (du (r:=ae) (fun i Γ=>∃v12,Γ=[.im gf ns,.ob (a9.bx a b st8),.im (ay (ag ae) (ag aA)) v,.im ae p,.im ae far,.im ae gone,.im (ag ae) xs,.im ae num,.im (ay (ag ae) (ag aA)) u,.im (ag (lD bg (ag ae))) [.inl v,.inl u,.inr xs],v12]) (d8 M.range ak ⟨by decide,by decide⟩) (aM 10) ⟨_,rfl⟩ ?_ ?_)
    · rintro i k Γ hk ⟨v12,rfl⟩
      have kb:=bE.mp (List.mem_of_getElem? hk)
      have k5:k≤5:=by omega
      obtain ⟨S,hC,hSS⟩:=yC (P:=P) (w:=w) (K:=K) (mg:=mg) (base:=base) k v p xs num hv p0 p1 (by omega) kb.1 k5 CG1 CG2 CG3
      refine aj (bu (aI (mH (r:=c6) eq_str hu1) (aW hC hr (af (aa 10 rfl) (af (aa 2 rfl) (af (aa 3 rfl) (af (aa 6 rfl) (af (aa 7 rfl) ao))))) hSS) (aW CE hr (af (aa 10 rfl) (af (aa 2 rfl) (af (aa 3 rfl) (af (aa 6 rfl) (af (aa 7 rfl) ao))))) ⟨k,v,p,xs,num,rfl,hv,p0,p1,by omega,rfl⟩)) (fun h=>?_) (fun _=>aU ?_))
      · simp at h
      refine aj (bu (TW.tv (fU (aI (mH (r:=c6) eq_str hu1) (aW CG4 hr (af (aa 10 rfl) (af (aa 2 rfl) (af (aa 5 rfl) (af (aa 6 rfl) (af (aa 7 rfl) ao))))) ⟨k,v,gone,xs,num,rfl,⟨kb.1,kb.1,k5,hv,by
          rcases hgo with z | z
          · rw [decide_eq_false (show¬0≤gone by omega)];rfl
          · rw [decide_eq_false (show¬gone < (v.1.length:Int) by omega)];simp⟩,rfl⟩) (aC.im (aB (r:=c6) (av gL aF) (by show 1≤sizeLine;decide)))) (fun _=>eT (aI (mH (r:=c6) eq_str hu1) (aW CG5 hr (af (aa 10 rfl) (af (aa 8 rfl) (af (aa 5 rfl) (af (aa 6 rfl) (af (aa 7 rfl) ao))))) ⟨k,u,gone,xs,num,rfl,⟨kb.1,kb.1,k5,l1,l2,hw⟩,rfl⟩) (aC.im (aB (r:=c6) (av gL aF) (by show 1≤sizeLine;decide))))))) (fun h=>?_) (fun _=>aU ?_))
      · simp at h
      refine ar (bu (aI (mH (r:=c6) eq_str hu1) (aW CG5 hr (af (aa 10 rfl) (af (aa 8 rfl) (af (aa 3 rfl) (af (aa 6 rfl) (af (aa 7 rfl) ao))))) ⟨k,u,p,xs,num,rfl,⟨kb.1,kb.1,k5,l1,l2,hw⟩,rfl⟩) (aC.im (aB (r:=c6) (av gL aF) (by show 1≤sizeLine;decide)))) (fun h=>?_) (fun _=>aU ⟨_,rfl⟩))
      simp at h
    · rintro Γ ⟨v12,rfl⟩
      exact ar (bA (dz (qL (α:=(List Int×List Row) ⊕ List Int) (r:=lD (ay (ag ae) (ag aA)) (ag ae)) (AI (n:=3) (m:=1) (k:=3) (wV (eq_list eq_int) (eq_list yB) (by decide) (by decide)) (eq_list eq_int) (by decide) (by decide)) hu4) (aC.im (aB (av (EV.inl (aa 2 rfl)) (av (EV.inl (aa 8 rfl)) (av (EV.inr (aa 6 rfl)) aF))) (by show 3≤sizeLine;decide))) (aa 9 rfl)) (by simp))
  refine aj (bu (aZ (aW CL hr (af (aa 2 rfl) (af (aa 3 rfl) ao)) ⟨v,p,rfl,hv,p0,p1,rfl⟩)) (fun h=>?_) (fun _=>aU (rest st7 num (hP7.mono (by decide)))))
  have hR:cL v.2 p.toNat:=by unfold cW at h;classical exact of_decide_eq_true h
  obtain ⟨y2,st9,z0,z1,hP9,hS9⟩:=bD hP7 (by decide) (b:=4) (by decide) (by decide)
  obtain ⟨num2,hnum2⟩:∃num2:Int,cA [num,onG v p 0 - 1,onG v p 0,num] y2=some num2:=by
    rcases (show y2=0∨y2=1∨y2=2∨y2=3 by omega) with z | z | z | z<;>rw [z]<;>exact ⟨_,rfl⟩
  have on:∀{q1 q2 q3 q4 q5 q6:Pos} {j:Nat},EV (bF df P w K mg base zm "law" (ah iy) f cdv A outer s H E).bR (.Subscript (.Call (.Name "_law_on" q1) [.Name "_law_web_here" q2,.Name "_law_part_here" q3] [] q4) (.Constant (.int 0) j q5) q6) [.im gf ns,.ob (a9.bx a b st7),.im (ay (ag ae) (ag aA)) v,.im ae p,.im ae far,.im ae gone,.im (ag ae) xs,.im ae num,.no,.no,.no] ae (onG v p 0) [.im gf ns,.ob (a9.bx a b st7),.im (ay (ag ae) (ag aA)) v,.im ae p,.im ae far,.im ae gone,.im (ag ae) xs,.im ae num,.no,.no,.no]:=fq hu1 CO hr (af (aa 2 rfl) (af (aa 3 rfl) ao)) ⟨v,p,rfl,hv,p0,p1,hR,rfl⟩ ak (fun F ⟨h1,h2⟩=>dw.get hv p0 p1 hR h1 h2 (by omega) (by omega))
  exact ar (aK 7 (bB (aC.im (aB (r:=ae) (av (aa 7 rfl) (av (cK on ak) (av on (av (aa 7 rfl) aF)))) (by show 4≤sizeLine;decide))) (aY 1 CD hr (af ak ao) rfl rfl (hS9 _)) hnum2) (rest st9 num2 (hP9.mono (by decide))))
end
structure nC (K:PySem.W.Frag) (mg:Str→Option Value) (x:Str) (D:Addr) (b1 b2 b3 b4 b5:Bool):Prop where
  own:iY K mg x D
  ce:∃CE,mg "CountError"=some (.ref CE)∧PySem.W.exmOne K (.ref D) (.ref CE)=some true
  fa:Ck K mg D b1 b2 b3 b4 b5
theorem oA {h:Heap}{K:PySem.W.Frag}{mg:Str→Option Value}(KX:K.In h)(G:h.Ns mainGlobals mg)(x:Str)(b1 b2 b3 b4 b5:Bool){D CE C1 C2 C3 C4 C5 P1 P2 P3 P4 P5 P6 P7 P8 P9 P10 P11 P12:Addr}{cd:ClassData}
    (e1:PySem.W.nsIn K mainGlobals x=some (some (.ref D))) (e2:PySem.W.nsIn K mainGlobals "CountError"=some (some (.ref CE))) (f1:PySem.W.nsIn K mainGlobals "NoWeb"=some (some (.ref C1))) (f2:PySem.W.nsIn K mainGlobals "NoWay"=some (some (.ref C2))) (f3:PySem.W.nsIn K mainGlobals "NoLoose"=some (some (.ref C3))) (f4:PySem.W.nsIn K mainGlobals "NoRun"=some (some (.ref C4))) (f5:PySem.W.nsIn K mainGlobals "NoChain"=some (some (.ref C5))) (g1:PySem.W.nsIn K mainGlobals "NoAnswer"=some (some (.ref P1))) (g2:PySem.W.nsIn K mainGlobals "NoChoice"=some (some (.ref P2))) (g3:PySem.W.nsIn K mainGlobals "NoCode"=some (some (.ref P3))) (g4:PySem.W.nsIn K mainGlobals "NoCounts"=some (some (.ref P4))) (g5:PySem.W.nsIn K mainGlobals "NoGuess"=some (some (.ref P5))) (g6:PySem.W.nsIn K mainGlobals "NoLog"=some (some (.ref P6))) (g7:PySem.W.nsIn K mainGlobals "NoMarks"=some (some (.ref P7))) (g8:PySem.W.nsIn K mainGlobals "NoName"=some (some (.ref P8))) (g9:PySem.W.nsIn K mainGlobals "NoPlan"=some (some (.ref P9))) (g10:PySem.W.nsIn K mainGlobals "NoProgram"=some (some (.ref P10))) (g11:PySem.W.nsIn K mainGlobals "NoRow"=some (some (.ref P11))) (g12:PySem.W.nsIn K mainGlobals "NoText"=some (some (.ref P12))) (e6:PySem.W.nsIn K mainGlobals "ValueError"=some none)
    (q1:PySem.W.excIn K D Ar "ValueError.__new__"=true) (q2:PySem.W.exmOne K (.ref D) (.ref CE)=some true) (r0:PySem.W.findIn K (.ref D) "__getattribute__"=some (some (.builtin "BaseException.__getattribute__"))) (r1:PySem.W.findIn K (.ref D) "__getattr__"=some none) (r2:PySem.W.findIn K (.ref D) "__class__"=some (some (.builtin "object.__class__"))) (r3:PySem.W.specialIn K (.builtin "object.__class__") "__get__"=some (some (.builtin "getset_descriptor.__get__"))) (r4:PySem.W.takesIn K (.builtin "object.__class__")=some true) (r5:PySem.W.mroIn K D (.type "object")=some true) (r7:PySem.W.subIn K (.ref D) (.type "BaseException")=some true) (r6:PySem.W.clsIn K D=some cd)
    (k1:PySem.W.kitOne K (.ref D) (.ref C1)=some b1) (k2:PySem.W.kitOne K (.ref D) (.ref C2)=some b2) (k3:PySem.W.kitOne K (.ref D) (.ref C3)=some b3) (k4:PySem.W.kitOne K (.ref D) (.ref C4)=some b4) (k5:PySem.W.kitOne K (.ref D) (.ref C5)=some b5) (o1:PySem.W.kitAny K (.ref D) [.ref P1,.ref P2,.ref P3]=some false) (o2:PySem.W.kitAny K (.ref D) [.ref P4,.ref P5,.ref P6]=some false) (o3:PySem.W.kitAny K (.ref D) [.ref P7,.ref P8,.ref P9]=some false) (o4:PySem.W.kitAny K (.ref D) [.ref P10,.ref P11,.ref P12]=some false) (q6:PySem.W.kitOne K (.ref D) (.type "ValueError")=some true):∃D,nC K mg x D b1 b2 b3 b4 b5:=
  ⟨D,⟨PySem.W.mg_of KX G e1,q1⟩,⟨CE,PySem.W.mg_of KX G e2,q2⟩,⟨by unfold dg;rw [r0,r1,r2,r3,r4,r5,r7,r6];rfl,⟨C1,PySem.W.mg_of KX G f1,k1⟩,⟨C2,PySem.W.mg_of KX G f2,k2⟩,⟨C3,PySem.W.mg_of KX G f3,k3⟩,⟨C4,PySem.W.mg_of KX G f4,k4⟩,⟨C5,PySem.W.mg_of KX G f5,k5⟩,⟨P1,P2,P3,PySem.W.mg_of KX G g1,PySem.W.mg_of KX G g2,PySem.W.mg_of KX G g3,o1⟩,⟨P4,P5,P6,PySem.W.mg_of KX G g4,PySem.W.mg_of KX G g5,PySem.W.mg_of KX G g6,o2⟩,⟨P7,P8,P9,PySem.W.mg_of KX G g7,PySem.W.mg_of KX G g8,PySem.W.mg_of KX G g9,o3⟩,⟨P10,P11,P12,PySem.W.mg_of KX G g10,PySem.W.mg_of KX G g11,PySem.W.mg_of KX G g12,o4⟩,PySem.W.mg_none_of KX G e6,q6⟩⟩
structure Top (K:PySem.W.Frag) (mg:Str→Option Value):Prop where
  M:bU mg
  X1:∃C,nC K mg "NoWeb" C true false false false false
  X2:∃C,nC K mg "NoWay" C false true false false false
  X3:∃C,nC K mg "NoLoose" C false false true false false
  IW:Def K mg "is_whole" vA ["value"]
  AW:Def K mg "are_whole" pD ["values"]
  RF:Def K mg "has_row_form" vK ["row"]
  WF:Def K mg "has_web_form" rA ["web"]
  WZ:Def K mg "has_web_sizes" sF ["web"]
  LW:Def K mg "leads_within" wz ["places","row"]
  IC:Def K mg "is_called" rE ["rows","part"]
  RE:Def K mg "reached" vC ["leads","start"]
  LO:Def K mg "lies_on_ways" pz ["rows","part","size"]
  WE:Def K mg "is_web" ot ["web"]
  NW:Def K mg "need_web" vy ["web"]
  IP:Def K mg "is_part" sZ ["web","part"]
  NP:Def K mg "need_part" p7 ["web","part"]
  IL:Def K mg "is_loose" nY ["web","part"]
  NO:Def K mg "need_loose" tD ["web","part"]
  RV:Def K mg "rows_leaving" sT ["web","part"]
  WN:Def K mg "ways_on" md ["web","part"]
  WY:Def K mg "ways" t9 ["web","part"]
  WI:Def K mg "worths_in" rB ["web","part"]
  WT:Def K mg "worths" vH ["web","part"]
  ST:Def K mg "steps" vM ["web","part"]
  RW:Def K mg "is_row" vV ["web","number"]
  CG:Def K mg "can_go" tf ["web","stack","number"]
  LT:Def K mg "leads_through" vW ["web","part","rows"]
  NU:Def K mg "number_of" rT ["web","part","way"]
  YB:Def K mg "way_by" ub ["web","known","leaving","number"]
  WS:Def K mg "ways_of" kZ ["web","part","numbers"]
  WO4:Def K mg "way_of" ow ["web","part","number"]
  DR:Def K mg "_law_draw" wg ["_law_purse_here","_law_out_of"]
  PU:Def K mg "_law_purse" oC ["_law_script"]
  OR:Def K mg "_law_order" vD ["_law_purse_here","_law_many"]
  PT:Def K mg "_law_part" js ["_law_purse_here","_law_many","_law_loose"]
  CL:Def K mg "_law_called" sU ["_law_purse_here","_law_rows","_law_parts"]
  WB:Def K mg "_law_web" pI ["_law_purse_here","_law_loose"]
  CP:Def K mg "_law_copy" rM ["_law_web_here"]
  FR:Def K mg "_law_from" pU ["_law_web_here","_law_part_here","_law_place"]
  LL:Def K mg "_law_is_loose" nO ["_law_web_here","_law_part_here"]
  ON:Def K mg "_law_on" ma ["_law_web_here","_law_part_here"]
  GO:Def K mg "_law_goes" wB ["_law_web_here","_law_part_here","_law_rows"]
  DU:Def K mg "_law_due" rN ["_law_k","_law_web_here","_law_part_here","_law_way","_law_number"]
  SW:Def K mg "_law_some_way" wD ["_law_purse_here","_law_web_here","_law_part_here"]
  BT:Def K mg "_law_bent" vE ["_law_purse_here","_law_web_here","_law_way"]
  NO8:Def K mg "_law_no_web" qo ["_law_purse_here","_law_web_here"]
  MK:Def K mg "_law_marks" ny ["_law_caught"]
  AS:Def K mg "_law_asked" gg ["_law_k","_law_web_here","_law_part_here","_law_way","_law_number"]
  RG:Def K mg "_law_refused" mV ["_law_k","_law_web_here","_law_part_here","_law_way","_law_number"]
theorem x6 {P:Program}{w:World}{K:PySem.W.Frag}{mg:Str→Option Value}{base:Heap}{f:Addr}{fd:FuncData}(T:Top K mg)(F:bh K "law" "law" iy f fd):et P w K mg base df 15 f fd ["_law_script"] (aE oN K):=by
  have M:=T.M
  obtain ⟨D1,X1⟩:=T.X1
  obtain ⟨CE1,hCE1,hex1⟩:=X1.ce
  obtain ⟨D2,X2⟩:=T.X2
  obtain ⟨CE2,hCE2,hex2⟩:=X2.ce
  obtain ⟨D3,X3⟩:=T.X3
  obtain ⟨CE3,hCE3,hex3⟩:=X3.ce
  obtain ⟨_,_,F1,m1,b1⟩:=T.IW
  have IW:=AR (P:=P) (w:=w) (base:=base) M F1 m1 b1
  obtain ⟨_,_,F1,m1,b1⟩:=T.AW
  have AW:=Bj (P:=P) (w:=w) (base:=base) M IW F1 m1 b1
  obtain ⟨_,_,F1,m1,b1⟩:=T.RF
  have RF:=BR (P:=P) (w:=w) (base:=base) M AW F1 m1 b1
  obtain ⟨_,_,F1,m1,b1⟩:=T.WF
  have WF:=Bs (P:=P) (w:=w) (base:=base) M AW RF F1 m1 b1
  obtain ⟨_,_,F1,m1,b1⟩:=T.WZ
  have WZ:=Bv (P:=P) (w:=w) (base:=base) M F1 m1 b1
  obtain ⟨_,_,F1,m1,b1⟩:=T.LW
  have LW:=Bo (P:=P) (w:=w) (base:=base) M F1 m1 b1
  obtain ⟨_,_,F1,m1,b1⟩:=T.IC
  have IC:=AX (P:=P) (w:=w) (base:=base) M F1 m1 b1
  obtain ⟨_,_,F1,m1,b1⟩:=T.RE
  have RE:=BB (P:=P) (w:=w) (base:=base)  F1 m1 b1
  obtain ⟨_,_,F1,m1,b1⟩:=T.LO
  have LO:=Bp (P:=P) (w:=w) (base:=base) M RE F1 m1 b1
  obtain ⟨_,_,F1,m1,b1⟩:=T.WE
  have WE:=B9 (P:=P) (w:=w) (base:=base) M WF WZ LW IC LO F1 m1 b1
  obtain ⟨_,_,F1,m1,b1⟩:=T.NW
  have NW:=AO (P:=P) (w:=w) (base:=base) WE F1 m1 b1
  obtain ⟨_,_,F1,m1,b1⟩:=T.IP
  have IP:=B8 (P:=P) (w:=w) (base:=base) M IW F1 m1 b1
  obtain ⟨_,_,F1,m1,b1⟩:=T.NP
  have NP:=Ca (P:=P) (w:=w) (base:=base) NW IP F1 m1 b1
  obtain ⟨_,_,F1,m1,b1⟩:=T.IL
  have IL:=Ba (P:=P) (w:=w) (base:=base) M NP RE F1 m1 b1
  obtain ⟨_,_,F1,m1,b1⟩:=T.NO
  have NO:=Bg (P:=P) (w:=w) (base:=base) IL F1 m1 b1
  obtain ⟨_,_,F1,m1,b1⟩:=T.RV
  have RV:=B3 (P:=P) (w:=w) (base:=base) true M F1 m1 b1
  obtain ⟨_,_,F1,m1,b1⟩:=T.WN
  have WN:=B0 (P:=P) (w:=w) (base:=base) M RV F1 m1 b1
  obtain ⟨_,_,F1,m1,b1⟩:=T.WY
  have WY:=Bw (P:=P) (w:=w) (base:=base) M NO WN F1 m1 b1
  obtain ⟨_,_,F1,m1,b1⟩:=T.WI
  have WI:=A5 (P:=P) (w:=w) (base:=base) M WN RV F1 m1 b1
  obtain ⟨_,_,F1,m1,b1⟩:=T.WT
  have WT:=BW (P:=P) (w:=w) (base:=base) NO WI F1 m1 b1
  obtain ⟨_,_,F1,m1,b1⟩:=T.ST
  have ST:=BI (P:=P) (w:=w) (base:=base) WT F1 m1 b1
  obtain ⟨_,_,F1,m1,b1⟩:=T.RW
  have RW:=BL (P:=P) (w:=w) (base:=base) M IW F1 m1 b1
  obtain ⟨_,_,F1,m1,b1⟩:=T.CG
  have CG:=zh (P:=P) (w:=w) (base:=base) RW F1 m1 b1
  obtain ⟨_,_,F1,m1,b1⟩:=T.LT
  have LT:=Br (P:=P) (w:=w) (base:=base) M CG F1 m1 b1
  obtain ⟨_,_,F1,m1,b1⟩:=T.NU
  have NU:=Cf (P:=P) (w:=w) (base:=base) M X2.own WT LT F1 m1 b1
  obtain ⟨_,_,F1,m1,b1⟩:=T.YB
  have YB:=AV (P:=P) (w:=w) (base:=base) M F1 m1 b1
  obtain ⟨_,_,F1,m1,b1⟩:=T.WS
  have WS:=BN (P:=P) (w:=w) (base:=base) M X2.own IW WI WN RV YB F1 m1 b1
  obtain ⟨_,_,F1,m1,b1⟩:=T.WO4
  have WO4:=yb (P:=P) (w:=w) (base:=base) NO WS F1 m1 b1
  obtain ⟨_,_,F1,m1,b1⟩:=T.DR
  have DR:=Bh (P:=P) (w:=w) (base:=base) M F1 m1 b1
  obtain ⟨_,_,F1,m1,b1⟩:=T.PU
  have PU:=BV (P:=P) (w:=w) (base:=base)  F1 m1 b1
  obtain ⟨_,_,F1,m1,b1⟩:=T.OR
  have OR:=BZ (P:=P) (w:=w) (base:=base) M DR F1 m1 b1
  obtain ⟨_,_,F1,m1,b1⟩:=T.PT
  have PT:=By (P:=P) (w:=w) (base:=base) M DR OR F1 m1 b1
  obtain ⟨_,_,F1,m1,b1⟩:=T.CL
  have CL:=Cd (P:=P) (w:=w) (base:=base) M DR F1 m1 b1
  obtain ⟨_,_,F1,m1,b1⟩:=T.WB
  have WB:=Bz (P:=P) (w:=w) (base:=base) M DR OR PT CL F1 m1 b1
  obtain ⟨_,_,F1,m1,b1⟩:=T.CP
  have CP:=A0 (P:=P) (w:=w) (base:=base) M F1 m1 b1
  obtain ⟨_,_,F1,m1,b1⟩:=T.FR
  have FR:=Bn (P:=P) (w:=w) (base:=base) M F1 m1 b1
  obtain ⟨_,_,F1,m1,b1⟩:=T.LL
  have LL:=Bu (P:=P) (w:=w) (base:=base) M FR F1 m1 b1
  obtain ⟨_,_,F1,m1,b1⟩:=T.ON
  have ON:=Bq (P:=P) (w:=w) (base:=base) M FR F1 m1 b1
  obtain ⟨_,_,F1,m1,b1⟩:=T.GO
  have GO:=A7 (P:=P) (w:=w) (base:=base) FR F1 m1 b1
  obtain ⟨_,_,F1,m1,b1⟩:=T.DU
  have DU:=B4 (P:=P) (w:=w) (base:=base) LL GO ON F1 m1 b1
  obtain ⟨_,_,F1,m1,b1⟩:=T.SW
  have SW:=AQ (P:=P) (w:=w) (base:=base) M DR FR F1 m1 b1
  obtain ⟨_,_,F1,m1,b1⟩:=T.BT
  have BT:=B7 (P:=P) (w:=w) (base:=base) M DR F1 m1 b1
  obtain ⟨_,_,F1,m1,b1⟩:=T.NO8
  have NO8:=yS (P:=P) (w:=w) (base:=base) M DR F1 m1 b1
  obtain ⟨_,_,F1,m1,b1⟩:=T.MK
  have MK1:∀ea,iT P w K mg (fun base=>∃oe,base.get? ea=some oe∧oe.cls= .ref D1) "_law_marks" 1 (aE (sA ea [("web":Str)]) K):=fun ea=>qV M X1.fa F1 m1 b1 ea
  have MK2:∀ea,iT P w K mg (fun base=>∃oe,base.get? ea=some oe∧oe.cls= .ref D2) "_law_marks" 1 (aE (sA ea [("way":Str)]) K):=fun ea=>qV M X2.fa F1 m1 b1 ea
  have MK3:∀ea,iT P w K mg (fun base=>∃oe,base.get? ea=some oe∧oe.cls= .ref D3) "_law_marks" 1 (aE (sA ea [("loose":Str)]) K):=fun ea=>qV M X3.fa F1 m1 b1 ea
  obtain ⟨_,_,F1,m1,b1⟩:=T.AS
  have AS:=BX (P:=P) (w:=w) (base:=base) IL WY WT ST NU WO4 F1 m1 b1
  obtain ⟨_,_,F1,m1,b1⟩:=T.RG
  have RG:=Ce (P:=P) (w:=w) (base:=base) AS F1 m1 b1
  obtain ⟨_,_,F1,m1,b1⟩:=T.NW
  have NWx:=zM (P:=P) (w:=w) (base:=base) X1.own WE F1 m1 b1
  obtain ⟨_,_,F1,m1,b1⟩:=T.IP
  have IPb:=yf (P:=P) (w:=w) (base:=base) M IW F1 m1 b1
  obtain ⟨_,_,F1,m1,b1⟩:=T.NP
  have NPn:=yg (P:=P) (w:=w) (base:=base) NWx F1 m1 b1
  obtain ⟨_,_,F1,m1,b1⟩:=T.IL
  have ILn:=rW (P:=P) (w:=w) (base:=base) NPn F1 m1 b1
  obtain ⟨_,_,F1,m1,b1⟩:=T.NO
  have NOn:=tG (P:=P) (w:=w) (base:=base) ILn F1 m1 b1
  obtain ⟨_,_,F1,m1,b1⟩:=T.WY
  have WYn:=n6 (P:=P) (w:=w) (base:=base) NOn F1 m1 b1
  obtain ⟨_,_,F1,m1,b1⟩:=T.WT
  have WTn:=oR (P:=P) (w:=w) (base:=base) NOn F1 m1 b1
  obtain ⟨_,_,F1,m1,b1⟩:=T.ST
  have STn:=nD (P:=P) (w:=w) (base:=base) WTn F1 m1 b1
  obtain ⟨_,_,F1,m1,b1⟩:=T.NU
  have NUn:=nj (P:=P) (w:=w) (base:=base) WTn F1 m1 b1
  obtain ⟨_,_,F1,m1,b1⟩:=T.WO4
  have WOn:=om (P:=P) (w:=w) (base:=base) NOn F1 m1 b1
  obtain ⟨_,_,F1,m1,b1⟩:=T.AS
  have ASn:=qT (P:=P) (w:=w) (base:=base) 0 (fun _=>ILn) WYn WTn STn NUn WOn F1 m1 b1
  obtain ⟨_,_,F1,m1,b1⟩:=T.RG
  have RW0:=mM (P:=P) (w:=w) (base:=base) ASn hCE1 hex1 MK1 F1 m1 b1
  obtain ⟨_,_,F1,m1,b1⟩:=T.NP
  have NPp:=AJ (P:=P) (w:=w) (base:=base) X2.own NW IPb F1 m1 b1
  obtain ⟨_,_,F1,m1,b1⟩:=T.IL
  have ILp:=rW (P:=P) (w:=w) (base:=base) NPp F1 m1 b1
  obtain ⟨_,_,F1,m1,b1⟩:=T.NO
  have NOp:=tG (P:=P) (w:=w) (base:=base) ILp F1 m1 b1
  obtain ⟨_,_,F1,m1,b1⟩:=T.WY
  have WYp:=n6 (P:=P) (w:=w) (base:=base) NOp F1 m1 b1
  obtain ⟨_,_,F1,m1,b1⟩:=T.WT
  have WTp:=oR (P:=P) (w:=w) (base:=base) NOp F1 m1 b1
  obtain ⟨_,_,F1,m1,b1⟩:=T.ST
  have STp:=nD (P:=P) (w:=w) (base:=base) WTp F1 m1 b1
  obtain ⟨_,_,F1,m1,b1⟩:=T.NU
  have NUp:=nj (P:=P) (w:=w) (base:=base) WTp F1 m1 b1
  obtain ⟨_,_,F1,m1,b1⟩:=T.WO4
  have WOp:=om (P:=P) (w:=w) (base:=base) NOp F1 m1 b1
  obtain ⟨_,_,F1,m1,b1⟩:=T.AS
  have ASp:=qT (P:=P) (w:=w) (base:=base) 0 (fun _=>ILp) WYp WTp STp NUp WOp F1 m1 b1
  obtain ⟨_,_,F1,m1,b1⟩:=T.RG
  have RP:=mM (P:=P) (w:=w) (base:=base) ASp hCE2 hex2 MK2 F1 m1 b1
  obtain ⟨_,_,F1,m1,b1⟩:=T.NO
  have NOq:=yD (P:=P) (w:=w) (base:=base) X3.own IL F1 m1 b1
  obtain ⟨_,_,F1,m1,b1⟩:=T.WY
  have WYq:=n6 (P:=P) (w:=w) (base:=base) NOq F1 m1 b1
  obtain ⟨_,_,F1,m1,b1⟩:=T.WT
  have WTq:=oR (P:=P) (w:=w) (base:=base) NOq F1 m1 b1
  obtain ⟨_,_,F1,m1,b1⟩:=T.ST
  have STq:=nD (P:=P) (w:=w) (base:=base) WTq F1 m1 b1
  obtain ⟨_,_,F1,m1,b1⟩:=T.NU
  have NUq:=nj (P:=P) (w:=w) (base:=base) WTq F1 m1 b1
  obtain ⟨_,_,F1,m1,b1⟩:=T.WO4
  have WOq:=om (P:=P) (w:=w) (base:=base) NOq F1 m1 b1
  obtain ⟨_,_,F1,m1,b1⟩:=T.AS
  have ASq:=qT (P:=P) (w:=w) (base:=base) 1 (fun h=>absurd h (by decide)) WYq WTq STq NUq WOq F1 m1 b1
  obtain ⟨_,_,F1,m1,b1⟩:=T.RG
  have RL:=mM (P:=P) (w:=w) (base:=base) ASq hCE3 hex3 MK3 F1 m1 b1
  obtain ⟨_,_,F1,m1,b1⟩:=T.AS
  have ASo:=A2 (P:=P) (w:=w) (base:=base) NU WO4 F1 m1 b1
  obtain ⟨_,_,F1,m1,b1⟩:=T.RG
  have RN:=mM (P:=P) (w:=w) (base:=base) ASo hCE2 hex2 MK2 F1 m1 b1
  exact Bm M PU DR WB CP LL ON BT SW NO8 DU RG RL RN RP RW0 F
theorem xt {h:Heap}{K:PySem.W.Frag}{mg:Str→Option Value}(KX:K.In h)(G:h.Ns mainGlobals mg){t1 t2 t3 t4 t5 t6 t7 t8:Tok}
    (a1:PySem.W.nsIn K mainGlobals "MOST_PARTS"=some (some (.int 4 t1))) (a2:PySem.W.nsIn K mainGlobals "LEAST_PLACES"=some (some (.int 2 t2))) (a3:PySem.W.nsIn K mainGlobals "MOST_PLACES"=some (some (.int 16 t3))) (a4:PySem.W.nsIn K mainGlobals "MOST_ROWS"=some (some (.int 60 t4))) (a5:PySem.W.nsIn K mainGlobals "FIRST_PART"=some (some (.int 0 t5))) (a6:PySem.W.nsIn K mainGlobals "BEGIN"=some (some (.int 0 t6))) (a7:PySem.W.nsIn K mainGlobals "END"=some (some (.int 1 t7))) (a8:PySem.W.nsIn K mainGlobals "NO_CALL"=some (some (.int (-1) t8)))
    (b1:PySem.W.nsIn K mainGlobals "len"=some none) (b2:PySem.W.nsIn K mainGlobals "all"=some none) (b3:PySem.W.nsIn K mainGlobals "any"=some none) (b4:PySem.W.nsIn K mainGlobals "range"=some none) (b5:PySem.W.nsIn K mainGlobals "enumerate"=some none) (b6:PySem.W.nsIn K mainGlobals "isinstance"=some none) (b7:PySem.W.nsIn K mainGlobals "int"=some none) (b8:PySem.W.nsIn K mainGlobals "bool"=some none) (b9:PySem.W.nsIn K mainGlobals "list"=some none) (b10:PySem.W.nsIn K mainGlobals "tuple"=some none) (b11:PySem.W.nsIn K mainGlobals "min"=some none) (b12:PySem.W.nsIn K mainGlobals "max"=some none) (b13:PySem.W.nsIn K mainGlobals "sorted"=some none) (b14:PySem.W.nsIn K mainGlobals "sum"=some none) (b15:PySem.W.nsIn K mainGlobals "zip"=some none) (b16:PySem.W.nsIn K mainGlobals "reversed"=some none):bU mg:=
  ⟨⟨_,PySem.W.mg_of KX G a1⟩,⟨_,PySem.W.mg_of KX G a2⟩,⟨_,PySem.W.mg_of KX G a3⟩,⟨_,PySem.W.mg_of KX G a4⟩,⟨_,PySem.W.mg_of KX G a5⟩,⟨_,PySem.W.mg_of KX G a6⟩,⟨_,PySem.W.mg_of KX G a7⟩,⟨_,PySem.W.mg_of KX G a8⟩,PySem.W.mg_none_of KX G b1,PySem.W.mg_none_of KX G b2,PySem.W.mg_none_of KX G b3,PySem.W.mg_none_of KX G b4,PySem.W.mg_none_of KX G b5,PySem.W.mg_none_of KX G b6,PySem.W.mg_none_of KX G b7,PySem.W.mg_none_of KX G b8,PySem.W.mg_none_of KX G b9,PySem.W.mg_none_of KX G b10,PySem.W.mg_none_of KX G b11,PySem.W.mg_none_of KX G b12,PySem.W.mg_none_of KX G b13,PySem.W.mg_none_of KX G b14,PySem.W.mg_none_of KX G b15,PySem.W.mg_none_of KX G b16⟩
theorem ye {l:PySem.W.OpenLaw}{w:World}{K:PySem.W.Frag}{h:Heap}{mg:Str→Option Value}{fa f:Addr}{oc kV doc pm cdv ct:Value}{od an:Option Addr}{osl:Array (Option Value)}(KX:K.In h)(G:h.Ns mainGlobals mg)(hfa:mg "law"=some (.ref fa))(T:Top K mg)
    (a:PySem.W.nsIn K mainGlobals "law"=some (some (.ref f))) (lk:K.lookup f=some ⟨oc,od,.func (PySem.W.fnOf "law" "law" (e9 iy) (bo iy) (ah iy) .none kV doc pm an cdv ct),osl⟩) (c:PySem.W.codeIn K cdv "law"=true) (k:PySem.W.keepIn K (.ref f)=true):
    ∃fd:FuncData,(∀(s:Shared) (v:Value),BindsTo s fd ⟨[v],[]⟩ [("_law_script",v)])∧∀base:Heap,K.In base→base.Ns mainGlobals mg→et l.prog w K mg base df 15 fa fd ["_law_script"] (aE oN K):=by
  have e:=hfa.symm.trans (PySem.W.mg_of KX G a)
  cases e
  exact ⟨PySem.W.fnOf "law" "law" (e9 iy) (bo iy) (ah iy) .none kV doc pm an cdv ct,fun s v=>.of_eq rfl,fun base _ _=>x6 T (n5 lk c k)⟩
theorem walk {l:PySem.W.OpenLaw}{q:Program}{loose:List Str}{XP:(Str→Option Value)→Heap→Prop}{YP:World→Heap→Prop}{d:DefRec}{K:Params→PySem.W.Frag}(hn:l.most=some 63)(hdf:d.params.defaults=[])
    (hY:∀(w:World) (h:Heap),YP w h→(K w.params).In h)
    (F:∀(w:World) (mg:Str→Option Value) (fa:Addr) (h:Heap),(K w.params).In h→h.Ns mainGlobals mg→mg d.name=some (.ref fa)→
      ∃fd:FuncData,(∀(s:Shared) (u:Value),BindsTo s fd ⟨[u],[]⟩ [("_law_script",u)])∧∀base:Heap,(K w.params).In base→base.Ns mainGlobals mg→et l.prog w (K w.params) mg base df 15 fa fd ["_law_script"] (aE oN (K w.params))):
    PySem.W.WalkO q loose XP YP l.row.toRowW d [] (fun f vs=>PySem.call f vs):=
  L2.ur (n:=63) (k:=15) (x:="_law_script") (CX:=fun _=>df) (sp:=fun w=>aE oN (K w.params)) hn (by decide) hdf ⟨rfl,by decide,by decide⟩ hY F
    (fun w H a ns hl hbits _ hS=>⟨H,[⟨gf,ns⟩],_,au.refl _,.cons ⟨a,rfl,hS,hl⟩ .nil,⟨ns,rfl,hl,hbits,rfl⟩,fun v H' R' _ t=>by obtain ⟨y,hy,rfl⟩:=t;exact hy⟩) fun _ _ _ _ _ z=>z
end K1
open PySem PySem.W PyProof.Rows
theorem PySem.W.Fast.tw6318893291193718510:True:=trivial
theorem PySem.W.Fast.tw6306540151798294502:True:=trivial
theorem PySem.W.Fast.tw6676459208755510933:True:=trivial
theorem PySem.W.Fast.tw4503320647457025905:True:=trivial
theorem PySem.W.Fast.tw7919203919779959782:True:=trivial
theorem PySem.W.Fast.tw4522279250866486379:True:=trivial
theorem PySem.W.Fast.tw10846443382197026353:True:=trivial
theorem PySem.W.Fast.tw17820608192668464424:True:=trivial
theorem PySem.W.Fast.tw12680210667487417829:True:=trivial
theorem PySem.W.Fast.tw8824561200575935943:True:=trivial
theorem PySem.W.Fast.tw15318789702749318846:True:=trivial
theorem PySem.W.Fast.tw15185859351223273929:True:=trivial
theorem PySem.W.Fast.tw13391868081076228545:True:=trivial
theorem PySem.W.Fast.tw15856522598241704805:True:=trivial
theorem PySem.W.Fast.tw3000066993277617925:True:=trivial
theorem PySem.W.Fast.tw15608075757838073702:True:=trivial
theorem PySem.W.Fast.tw5638741573586388518:True:=trivial
theorem PySem.W.Fast.tw13007933522872503188:True:=trivial
theorem PySem.W.Fast.tw14219574052320485399:True:=trivial
theorem PySem.W.Fast.tw8328558844225453291:True:=trivial
theorem PySem.W.Fast.tw18379893321287390143:True:=trivial
theorem PySem.W.Fast.tw14661308697420980548:True:=trivial
theorem PySem.W.Fast.tw5235095902427950348:True:=trivial
theorem PySem.W.Fast.tw2914973270964222069:True:=trivial
theorem PySem.W.Fast.tw6663066887960814655:True:=trivial
theorem PySem.W.Fast.tw10551932705936710972:True:=trivial
theorem PySem.W.Fast.tw18356264770001051080:True:=trivial
theorem PySem.W.Fast.tw13748331765710061738:True:=trivial
theorem PySem.W.Fast.tw881222028941169189:True:=trivial
theorem PySem.W.Fast.tw14148552577057807501:True:=trivial
theorem PySem.W.Fast.tw2559110839551839527:True:=trivial
theorem PySem.W.Fast.tw14058258320563566973:True:=trivial
theorem PySem.W.Fast.tw10766700090400362066:True:=trivial
theorem PySem.W.Fast.tw5891753589766296600:True:=trivial
theorem PySem.W.Fast.tw1487047949742964773:True:=trivial
theorem PySem.W.Fast.tw3220289107977252357:True:=trivial
theorem PySem.W.Fast.tw9055549484942364432:True:=trivial
theorem PySem.W.Fast.tw11271196430688869745:True:=trivial
theorem PySem.W.Fast.tw12075425306304124338:True:=trivial
theorem PySem.W.Fast.tw4390050958089300314:True:=trivial
theorem PySem.W.Fast.tw7526261926117324820:True:=trivial
theorem PySem.W.Fast.tw10098390817455019858:True:=trivial
theorem PySem.W.Fast.tw7290144450614226539:True:=trivial
theorem PySem.W.Fast.tw13181037618810016051:True:=trivial
theorem PySem.W.Fast.tw16909167981378212521:True:=trivial
theorem PySem.W.Fast.tw15089642922834092765:True:=trivial
theorem PySem.W.Fast.tw7147535162631999001:True:=trivial
theorem PySem.W.Fast.tw17127159180608655374:True:=trivial
theorem PySem.W.Fast.tw17956626376916883152:True:=trivial
theorem PySem.W.Fast.tw7018919194393693963:True:=trivial
theorem PySem.W.Fast.tw6125002801509917622:True:=trivial
theorem PySem.W.Fast.tw2252278744537042260:True:=trivial
theorem PySem.W.Fast.tw10103867521416015938:True:=trivial
theorem PySem.W.Fast.tw3192626172217951326:True:=trivial
theorem PySem.W.Fast.tw7761472603938741059:True:=trivial
theorem PySem.W.Fast.tw5667974429443994491:True:=trivial
theorem PySem.W.Fast.tw2985968450784631829:True:=trivial
theorem PySem.W.Fast.tw13945227689591096739:True:=trivial
theorem PySem.W.Fast.tw6761758163296948433:True:=trivial
theorem PySem.W.Fast.tw1986596019931333990:True:=trivial
theorem PySem.W.Fast.tw2071647527102212458:True:=trivial
theorem PySem.W.Fast.tw15918791832105499807:True:=trivial
theorem PySem.W.Fast.tw3183648135765053179:True:=trivial
theorem PySem.W.Fast.tw1248263701108383297:True:=trivial
theorem PySem.W.Fast.tw9497180568659351922:True:=trivial
theorem PySem.W.Fast.tw13127968206626859167:True:=trivial
theorem PySem.W.Fast.tw12826522784363109417:True:=trivial
theorem PySem.W.Fast.tw915736066886479421:True:=trivial
theorem PySem.W.Fast.tw14646908578065081709:True:=trivial
theorem PySem.W.Fast.tw10211996415842751991:True:=trivial
theorem PySem.W.Fast.tw14581001105441346860:True:=trivial
theorem PySem.W.Fast.tw14444086870155146637:True:=trivial
theorem PySem.W.Fast.tw5181828228781404519:True:=trivial
theorem PySem.W.Fast.tw13708726336178791679:True:=trivial
theorem PySem.W.Fast.tw9618426526517359511:True:=trivial
theorem PySem.W.Fast.tw927877606782050206:True:=trivial
theorem PySem.W.Fast.tw18356369026950965772:True:=trivial
theorem PySem.W.Fast.tw8863019638097715734:True:=trivial
theorem PySem.W.Fast.tw1176296938717609087:True:=trivial
theorem PySem.W.Fast.tw9616872388364202950:True:=trivial
theorem PySem.W.Fast.tw16158845294295686823:True:=trivial
theorem PySem.W.Fast.tw12123215038106536902:True:=trivial
theorem PySem.W.Fast.tw11608147566827489924:True:=trivial
theorem PySem.W.Fast.tw14539359290264490803:True:=trivial
theorem PySem.W.Fast.tw13983433045627638903:True:=trivial
theorem PySem.W.Fast.tw15648580359351355608:True:=trivial
theorem PySem.W.Fast.tw785076069651555844:True:=trivial
theorem PySem.W.Fast.tw9827358951765695382:True:=trivial
theorem PySem.W.Fast.tw9272540482216600008:True:=trivial
theorem PySem.W.Fast.tw18414355275763927673:True:=trivial
theorem PySem.W.Fast.tw11111621786380010067:True:=trivial
theorem PySem.W.Fast.tw15298978113717646195:True:=trivial
theorem PySem.W.Fast.tw5735454589533824333:True:=trivial
theorem PySem.W.Fast.tw11037143600206079236:True:=trivial
theorem PySem.W.Fast.tw7172396487080514004:True:=trivial
theorem PySem.W.Fast.tw3368114329771807589:True:=trivial
theorem PySem.W.Fast.tw16860125427768361904:True:=trivial
theorem PySem.W.Fast.tw3048706050567252475:True:=trivial
theorem PySem.W.Fast.tw4729203222564125425:True:=trivial
theorem PySem.W.Fast.tw15153208234101869506:True:=trivial
theorem PySem.W.Fast.tw1095603091000694132:True:=trivial
theorem PySem.W.Fast.tw897193959044787029:True:=trivial
theorem PySem.W.Fast.tw13899065600067745007:True:=trivial
theorem PySem.W.Fast.tw2196507510304507171:True:=trivial
theorem PySem.W.Fast.tw15675218768413659725:True:=trivial
theorem PySem.W.Fast.tw8478129150741612684:True:=trivial
theorem PySem.W.Fast.tw8995382090439010809:True:=trivial
theorem PySem.W.Fast.tw1808202108694590155:True:=trivial
theorem PySem.W.Fast.tw17974754616609527783:True:=trivial
theorem PySem.W.Fast.tw4975315807520808978:True:=trivial
theorem PySem.W.Fast.tw9634407136231553875:True:=trivial
theorem PySem.W.Fast.tw2619254267654404621:True:=trivial
theorem PySem.W.Fast.tw9719643587353258170:True:=trivial
theorem PySem.W.Fast.tw2497514450114489119:True:=trivial
theorem PySem.W.Fast.tw7585540390979039220:True:=trivial
theorem PySem.W.Fast.tw2214116191029444237:True:=trivial
theorem PySem.W.Fast.tw16270823745243003395:True:=trivial
theorem PySem.W.Fast.tw5389940359015267055:True:=trivial
theorem PySem.W.Fast.tw17294271728974205890:True:=trivial
theorem PySem.W.Fast.tw1082500709401037154:True:=trivial
theorem PySem.W.Fast.tw15936392236518874332:True:=trivial
theorem PySem.W.Fast.tw16072941417760536683:True:=trivial
theorem PySem.W.Fast.tw7238079533145045094:True:=trivial
theorem PySem.W.Fast.tw15814606232584839365:True:=trivial
theorem PySem.W.Fast.tw10411063069674113933:True:=trivial
theorem PySem.W.Fast.tw13720606152199754796:True:=trivial
theorem PySem.W.Fast.tw12391118859127953055:True:=trivial
theorem PySem.W.Fast.tw6496480998247911275:True:=trivial
theorem PySem.W.Fast.tw3898659593797401648:True:=trivial
theorem PySem.W.Fast.tw2312547713367269758:True:=trivial
theorem PySem.W.Fast.tw10048164944491884404:True:=trivial
theorem PySem.W.Fast.tw9892338003947008802:True:=trivial
theorem PySem.W.Fast.tw3250605521803656113:True:=trivial
theorem PySem.W.Fast.tw13535849385684681122:True:=trivial
theorem PySem.W.Fast.tw17489932895097524596:True:=trivial
theorem PySem.W.Fast.tw4238149950418435656:True:=trivial
theorem PySem.W.Fast.tw9372828532187574990:True:=trivial
theorem PySem.W.Fast.tw9854582034084130910:True:=trivial
theorem PySem.W.Fast.tw16842436606243186699:True:=trivial
theorem PySem.W.Fast.tw4399986027438177415:True:=trivial
theorem PySem.W.Fast.tw15911161549230314204:True:=trivial
theorem PySem.W.Fast.tw4644797418883353926:True:=trivial
theorem PySem.W.Fast.tw10917820777529683944:True:=trivial
theorem PySem.W.Fast.tw10403397092046933649:True:=trivial
theorem PySem.W.Fast.tw165587990828129869:True:=trivial
theorem PySem.W.Fast.tw12305395917072458550:True:=trivial
theorem PySem.W.Fast.tw13904667706476202037:True:=trivial
theorem PySem.W.Fast.tw7159835370058620535:True:=trivial
theorem PySem.W.Fast.tw8762331197097272308:True:=trivial
theorem PySem.W.Fast.tw17941976262043057383:True:=trivial
theorem PySem.W.Fast.tw3918283274229324260:True:=trivial
theorem PySem.W.Fast.tw13705529035803130281:True:=trivial
theorem PySem.W.Fast.tw515344782404944803:True:=trivial
theorem PySem.W.Fast.tw8600934759377715835:True:=trivial
theorem PySem.W.Fast.tw1283507208598802270:True:=trivial
theorem PySem.W.Fast.tw18380394475654461424:True:=trivial
theorem PySem.W.Fast.tw3316292213430419938:True:=trivial
theorem PySem.W.Fast.tw15227914342101432649:True:=trivial
theorem PySem.W.Fast.tw12512656411294878739:True:=trivial
theorem PySem.W.Fast.tw5116047688023351170:True:=trivial
theorem PySem.W.Fast.tw12174639382918921746:True:=trivial
theorem PySem.W.Fast.tw445579483890899997:True:=trivial
theorem PySem.W.Fast.tw557005264362092466:True:=trivial
theorem PySem.W.Fast.tw2392648964834039385:True:=trivial
theorem PySem.W.Fast.tw6209557186941905237:True:=trivial
theorem PySem.W.Fast.tw5815730675336734427:True:=trivial
theorem PySem.W.Fast.tw17279916308433639916:True:=trivial
theorem PySem.W.Fast.tw12384541451256028054:True:=trivial
theorem PySem.W.Fast.tw1193154197984432643:True:=trivial
theorem PySem.W.Fast.tw17340715115941996769:True:=trivial
theorem PySem.W.Fast.tw3392050488517682349:True:=trivial
theorem PySem.W.Fast.tw1830618449877411496:True:=trivial
theorem PySem.W.Fast.tw8445192935933915547:True:=trivial
theorem PySem.W.Fast.tw3392691677838328783:True:=trivial
theorem PySem.W.Fast.tw3212889071040034942:True:=trivial
theorem PySem.W.Fast.tw7669169887675608784:True:=trivial
theorem PySem.W.Fast.tw7151634535400953135:True:=trivial
theorem PySem.W.Fast.tw2029463267206484214:True:=trivial
theorem PySem.W.Fast.tw7320128517325800979:True:=trivial
theorem PySem.W.Fast.tw17770781885823907152:True:=trivial
theorem PySem.W.Fast.tw17656613015721027590:True:=trivial
theorem PySem.W.Fast.tw7324698635434280077:True:=trivial
theorem PySem.W.Fast.tw8209148383096071940:True:=trivial
theorem PySem.W.Fast.tw13341644862945617253:True:=trivial
theorem PySem.W.Fast.tw15587076977959580228:True:=trivial
theorem PySem.W.Fast.tw4376421670864031340:True:=trivial
theorem PySem.W.Fast.tw3704830674741678695:True:=trivial
theorem PySem.W.Fast.tw491637559536498777:True:=trivial
theorem PySem.W.Fast.tw2412505371710553082:True:=trivial
theorem PySem.W.Fast.tw17191549577153497100:True:=trivial
theorem PySem.W.Fast.tw5416825966643157539:True:=trivial
theorem PySem.W.Fast.tw16305881298942408666:True:=trivial
theorem PySem.W.Fast.tw16942700882450635260:True:=trivial
theorem PySem.W.Fast.tw9826493624997727693:True:=trivial
theorem PySem.W.Fast.tw9093283323097969324:True:=trivial
theorem PySem.W.Fast.tw8319975912964887177:True:=trivial
theorem PySem.W.Fast.tw7600275835755424783:True:=trivial
theorem PySem.W.Fast.tw2900400120321586282:True:=trivial
theorem PySem.W.Fast.tw18248775184356263181:True:=trivial
theorem PySem.W.Fast.tw17716134239781904146:True:=trivial
theorem PySem.W.Fast.tw17132104087010932950:True:=trivial
theorem PySem.W.Fast.tw15088872557253601289:True:=trivial
theorem PySem.W.Fast.tw13323898911525237953:True:=trivial
theorem PySem.W.Fast.tw11195428482809133354:True:=trivial
theorem PySem.W.Fast.tw10273804812066937358:True:=trivial
theorem PySem.W.Fast.tw9754912589968864836:True:=trivial
theorem PySem.W.Fast.tw8841791113171794139:True:=trivial
theorem PySem.W.Fast.tw13684227190214719869:True:=trivial
theorem PySem.W.Fast.tw9689943072353175747:True:=trivial
theorem PySem.W.Fast.tw2007443831231784321:True:=trivial
theorem PySem.W.Fast.tw17431273060826965350:True:=trivial
theorem PySem.W.Fast.tw787468859101505185:True:=trivial
theorem PySem.W.Fast.tw2983635326925797575:True:=trivial
theorem PySem.W.Fast.tw15306767768353851405:True:=trivial
theorem PySem.W.Fast.tw10847179894486289225:True:=trivial
theorem PySem.W.Fast.tw13469421338871772296:True:=trivial
theorem PySem.W.Fast.tw3867388484621393919:True:=trivial
theorem PySem.W.Fast.tw13347477155175153039:True:=trivial
theorem PySem.W.Fast.tw5625876510629644059:True:=trivial
theorem PySem.W.Fast.tw14091214673465430276:True:=trivial
theorem PySem.W.Fast.tw9898679629626507190:True:=trivial
theorem PySem.W.Fast.tw3853462428189039131:True:=trivial
theorem PySem.W.Fast.tw16443023056648878795:True:=trivial
theorem PySem.W.Fast.tw6709024063048776861:True:=trivial
theorem PySem.W.Fast.tw9404871275640207467:True:=trivial
theorem PySem.W.Fast.tw18444132807140422107:True:=trivial
theorem PySem.W.Fast.tw16542229034787942845:True:=trivial
theorem PySem.W.Fast.tw5573474255108868645:True:=trivial
theorem PySem.W.Fast.tw1609136608460758699:True:=trivial
theorem PySem.W.Fast.tw7017781649922160043:True:=trivial
theorem PySem.W.Fast.tw8744252847299235695:True:=trivial
theorem PySem.W.Fast.tw17887690272368701296:True:=trivial
theorem PySem.W.Fast.tw4982853574658192170:True:=trivial
theorem PySem.W.Fast.tw11525984510184502135:True:=trivial
theorem PySem.W.Fast.tw12449187927222811008:True:=trivial
theorem PySem.W.Fast.tw15735037215976826471:True:=trivial
theorem PySem.W.Fast.tw12341118551816918106:True:=trivial
theorem PySem.W.Fast.tw11941639526862744077:True:=trivial
theorem PySem.W.Fast.tw1739034904167177304:True:=trivial
theorem PySem.W.Fast.tw10850114622509360628:True:=trivial
theorem PySem.W.Fast.tw6683577440253587164:True:=trivial
theorem PySem.W.Fast.tw17440212131495914535:True:=trivial
theorem PySem.W.Fast.tw17962643283515980904:True:=trivial
theorem PySem.W.Fast.tw16821427386153181021:True:=trivial
theorem PySem.W.Fast.tw8694702919064665979:True:=trivial
theorem PySem.W.Fast.tw2123579683051360182:True:=trivial
theorem PySem.W.Fast.tw7378636016517388334:True:=trivial
theorem PySem.W.Fast.tw9572531624722269457:True:=trivial
theorem PySem.W.Fast.tw14707965946936214813:True:=trivial
theorem PySem.W.Fast.tw10908782705467885571:True:=trivial
theorem PySem.W.Fast.tw6124445417895057322:True:=trivial
theorem PySem.W.Fast.tw16008836357118855013:True:=trivial
theorem PySem.W.Fast.tw10082717612013993739:True:=trivial
theorem PySem.W.Fast.tw3861543609374821363:True:=trivial
theorem PySem.W.Fast.tw18226891220340413273:True:=trivial
theorem PySem.W.Fast.tw14515809414780447564:True:=trivial
theorem PySem.W.Fast.tw4269232725713173817:True:=trivial
theorem PySem.W.Fast.tw11229380384590651689:True:=trivial
theorem PySem.W.Fast.tw10655794938001924504:True:=trivial
theorem PySem.W.Fast.tw15717479181342259986:True:=trivial
theorem PySem.W.Fast.tw8528095441206723131:True:=trivial
theorem PySem.W.Fast.tw1950295676557403069:True:=trivial
theorem PySem.W.Fast.tw15214805867264311274:True:=trivial
theorem PySem.W.Fast.tw10770216453164201336:True:=trivial
theorem PySem.W.Fast.tw2203651685256081700:True:=trivial
theorem PySem.W.Fast.tw597860497508611251:True:=trivial
theorem PySem.W.Fast.tw1458562027707237769:True:=trivial
theorem PySem.W.Fast.tw14348312140433602545:True:=trivial
theorem PySem.W.Fast.tw10140650249294372477:True:=trivial
theorem PySem.W.Fast.tw5896190233149060694:True:=trivial
theorem PySem.W.Fast.tw2172022045110712957:True:=trivial
theorem PySem.W.Fast.tw15250760345740468206:True:=trivial
theorem PySem.W.Fast.tw14808120135551152138:True:=trivial
theorem PySem.W.Fast.tw9742088634120858210:True:=trivial
theorem PySem.W.Fast.tw15442170049627935103:True:=trivial
theorem PySem.W.Fast.tw14815925260955576750:True:=trivial
theorem PySem.W.Fast.tw7120749697797553961:True:=trivial
theorem PySem.W.Fast.tw14026833944587380801:True:=trivial
theorem PySem.W.Fast.tw7485833080096697175:True:=trivial
theorem PySem.W.Fast.tw17165390439395687752:True:=trivial
theorem PySem.W.Fast.tw15572924832608397016:True:=trivial
theorem PySem.W.Fast.tw11087360692307859662:True:=trivial
theorem PySem.W.Fast.tw8986034285429046139:True:=trivial
theorem PySem.W.Fast.tw17620445066520990110:True:=trivial
theorem PySem.W.Fast.tw11726179104536662483:True:=trivial
theorem PySem.W.Fast.tw15864344879067078105:True:=trivial
theorem PySem.W.Fast.tw14531104298398609527:True:=trivial
theorem PySem.W.Fast.tw2663869063838687003:True:=trivial
theorem PySem.W.Fast.tw12945625512944784688:True:=trivial
theorem PySem.W.Fast.tw8492405502613216906:True:=trivial
theorem PySem.W.Fast.tw720540647962548170:True:=trivial
theorem PySem.W.Fast.tw4140892312750275166:True:=trivial
theorem PySem.W.Fast.tw2144955006076920946:True:=trivial
theorem PySem.W.Fast.tw13188626641597716099:True:=trivial
theorem PySem.W.Fast.tw5420381749885922417:True:=trivial
theorem PySem.W.Fast.tw8975225139887528562:True:=trivial
theorem PySem.W.Fast.tw592380542656588432:True:=trivial
theorem PySem.W.Fast.tw12937828913667437337:True:=trivial
theorem PySem.W.Fast.tw14574367452616745646:True:=trivial
theorem PySem.W.Fast.tw1372495531500289526:True:=trivial
set_option maxRecDepth 100000 in
set_option maxHeartbeats 0 in
theorem PySem.Challenge.cw_fewcounters_k44_ways_refused_holds : PySem.Challenge.rw_fewcounters_k44_ways_refused.Holds := by
  w_on;o_law;k_head;(case hw=>w_witness2)
  k_fill
  refine K1.walk (l:=PySem.Challenge.rw_fewcounters_k44_ways_refused) rfl rfl (fun w h Y=>PySem.W.kIn_of Y) ?F
  case F=>
    intro w mg fa h KX G hmg
    have M:K1.bU mg:=by
      refine' K1.xt KX G ?a1 ?a2 ?a3 ?a4 ?a5 ?a6 ?a7 ?a8 ?b1 ?b2 ?b3 ?b4 ?b5 ?b6 ?b7 ?b8 ?b9 ?b10 ?b11 ?b12 ?b13 ?b14 ?b15 ?b16
      (case a1=>k_is);(case a2=>k_is);(case a3=>k_is);(case a4=>k_is);(case a5=>k_is);(case a6=>k_is);(case a7=>k_is);(case a8=>k_is);(case b1=>k_is);(case b2=>k_is);(case b3=>k_is);(case b4=>k_is);(case b5=>k_is);(case b6=>k_is);(case b7=>k_is);(case b8=>k_is);(case b9=>k_is);(case b10=>k_is);(case b11=>k_is);(case b12=>k_is);(case b13=>k_is);(case b14=>k_is);(case b15=>k_is);(case b16=>k_is)
    have DX1:∃C,K1.nC (L2.aQ KX) mg "NoWeb" C true false false false false:=by
      dsimp only [L2.aQ]
      refine' K1.oA KX G "NoWeb" true false false false false ?e1 ?e2 ?f1 ?f2 ?f3 ?f4 ?f5 ?g1 ?g2 ?g3 ?g4 ?g5 ?g6 ?g7 ?g8 ?g9 ?g10 ?g11 ?g12 ?e6 ?q1 ?q2 ?r0 ?r1 ?r2 ?r3 ?r4 ?r5 ?r7 ?r6 ?k1 ?k2 ?k3 ?k4 ?k5 ?o1 ?o2 ?o3 ?o4 ?q6
      (case e1=>k_is);(case e2=>k_is);(case f1=>k_is);(case f2=>k_is);(case f3=>k_is);(case f4=>k_is);(case f5=>k_is);(case g1=>k_is);(case g2=>k_is);(case g3=>k_is);(case g4=>k_is);(case g5=>k_is);(case g6=>k_is);(case g7=>k_is);(case g8=>k_is);(case g9=>k_is);(case g10=>k_is);(case g11=>k_is);(case g12=>k_is);(case e6=>k_is);(case q1=>k_exc);(case q2=>kts_exm);(case r0=>k_is);(case r1=>k_is);(case r2=>k_is);(case r3=>k_is);(case r4=>k_is);(case r5=>k_is);(case r7=>k_is);(case r6=>k_is);(case k1=>kit_is);(case k2=>kit_is);(case k3=>kit_is);(case k4=>kit_is);(case k5=>kit_is);(case o1=>kit_is);(case o2=>kit_is);(case o3=>kit_is);(case o4=>kit_is);(case q6=>kit_is)
    have DX2:∃C,K1.nC (L2.aQ KX) mg "NoWay" C false true false false false:=by
      dsimp only [L2.aQ]
      refine' K1.oA KX G "NoWay" false true false false false ?e1 ?e2 ?f1 ?f2 ?f3 ?f4 ?f5 ?g1 ?g2 ?g3 ?g4 ?g5 ?g6 ?g7 ?g8 ?g9 ?g10 ?g11 ?g12 ?e6 ?q1 ?q2 ?r0 ?r1 ?r2 ?r3 ?r4 ?r5 ?r7 ?r6 ?k1 ?k2 ?k3 ?k4 ?k5 ?o1 ?o2 ?o3 ?o4 ?q6
      (case e1=>k_is);(case e2=>k_is);(case f1=>k_is);(case f2=>k_is);(case f3=>k_is);(case f4=>k_is);(case f5=>k_is);(case g1=>k_is);(case g2=>k_is);(case g3=>k_is);(case g4=>k_is);(case g5=>k_is);(case g6=>k_is);(case g7=>k_is);(case g8=>k_is);(case g9=>k_is);(case g10=>k_is);(case g11=>k_is);(case g12=>k_is);(case e6=>k_is);(case q1=>k_exc);(case q2=>kts_exm);(case r0=>k_is);(case r1=>k_is);(case r2=>k_is);(case r3=>k_is);(case r4=>k_is);(case r5=>k_is);(case r7=>k_is);(case r6=>k_is);(case k1=>kit_is);(case k2=>kit_is);(case k3=>kit_is);(case k4=>kit_is);(case k5=>kit_is);(case o1=>kit_is);(case o2=>kit_is);(case o3=>kit_is);(case o4=>kit_is);(case q6=>kit_is)
    have DX3:∃C,K1.nC (L2.aQ KX) mg "NoLoose" C false false true false false:=by
      dsimp only [L2.aQ]
      refine' K1.oA KX G "NoLoose" false false true false false ?e1 ?e2 ?f1 ?f2 ?f3 ?f4 ?f5 ?g1 ?g2 ?g3 ?g4 ?g5 ?g6 ?g7 ?g8 ?g9 ?g10 ?g11 ?g12 ?e6 ?q1 ?q2 ?r0 ?r1 ?r2 ?r3 ?r4 ?r5 ?r7 ?r6 ?k1 ?k2 ?k3 ?k4 ?k5 ?o1 ?o2 ?o3 ?o4 ?q6
      (case e1=>k_is);(case e2=>k_is);(case f1=>k_is);(case f2=>k_is);(case f3=>k_is);(case f4=>k_is);(case f5=>k_is);(case g1=>k_is);(case g2=>k_is);(case g3=>k_is);(case g4=>k_is);(case g5=>k_is);(case g6=>k_is);(case g7=>k_is);(case g8=>k_is);(case g9=>k_is);(case g10=>k_is);(case g11=>k_is);(case g12=>k_is);(case e6=>k_is);(case q1=>k_exc);(case q2=>kts_exm);(case r0=>k_is);(case r1=>k_is);(case r2=>k_is);(case r3=>k_is);(case r4=>k_is);(case r5=>k_is);(case r7=>k_is);(case r6=>k_is);(case k1=>kit_is);(case k2=>kit_is);(case k3=>kit_is);(case k4=>kit_is);(case k5=>kit_is);(case o1=>kit_is);(case o2=>kit_is);(case o3=>kit_is);(case o4=>kit_is);(case q6=>kit_is)
    have DIW:Fc.Def (L2.aQ KX) mg "is_whole" K1.vA ["value"]:=by
      dsimp only [L2.aQ]
      refine' Fc.aX KX G ?a ?l ?c ?k ?b
      (case a=>k_is);(case l=>k_is);(case c=>k_is);(case k=>k_is);(case b=>exact fun _ _ _ _ _ _ us hl=>match us,hl with | [_],_=>rfl)
    have DAW:Fc.Def (L2.aQ KX) mg "are_whole" K1.pD ["values"]:=by
      dsimp only [L2.aQ]
      refine' Fc.aX KX G ?a ?l ?c ?k ?b
      (case a=>k_is);(case l=>k_is);(case c=>k_is);(case k=>k_is);(case b=>exact fun _ _ _ _ _ _ us hl=>match us,hl with | [_],_=>rfl)
    have DRF:Fc.Def (L2.aQ KX) mg "has_row_form" K1.vK ["row"]:=by
      dsimp only [L2.aQ]
      refine' Fc.aX KX G ?a ?l ?c ?k ?b
      (case a=>k_is);(case l=>k_is);(case c=>k_is);(case k=>k_is);(case b=>exact fun _ _ _ _ _ _ us hl=>match us,hl with | [_],_=>rfl)
    have DWF:Fc.Def (L2.aQ KX) mg "has_web_form" K1.rA ["web"]:=by
      dsimp only [L2.aQ]
      refine' Fc.aX KX G ?a ?l ?c ?k ?b
      (case a=>k_is);(case l=>k_is);(case c=>k_is);(case k=>k_is);(case b=>exact fun _ _ _ _ _ _ us hl=>match us,hl with | [_],_=>rfl)
    have DWZ:Fc.Def (L2.aQ KX) mg "has_web_sizes" K1.sF ["web"]:=by
      dsimp only [L2.aQ]
      refine' Fc.aX KX G ?a ?l ?c ?k ?b
      (case a=>k_is);(case l=>k_is);(case c=>k_is);(case k=>k_is);(case b=>exact fun _ _ _ _ _ _ us hl=>match us,hl with | [_],_=>rfl)
    have DLW:Fc.Def (L2.aQ KX) mg "leads_within" K1.wz ["places","row"]:=by
      dsimp only [L2.aQ]
      refine' Fc.aX KX G ?a ?l ?c ?k ?b
      (case a=>k_is);(case l=>k_is);(case c=>k_is);(case k=>k_is);(case b=>exact fun _ _ _ _ _ _ us hl=>match us,hl with | [_,_],_=>rfl)
    have DIC:Fc.Def (L2.aQ KX) mg "is_called" K1.rE ["rows","part"]:=by
      dsimp only [L2.aQ]
      refine' Fc.aX KX G ?a ?l ?c ?k ?b
      (case a=>k_is);(case l=>k_is);(case c=>k_is);(case k=>k_is);(case b=>exact fun _ _ _ _ _ _ us hl=>match us,hl with | [_,_],_=>rfl)
    have DRE:Fc.Def (L2.aQ KX) mg "reached" K1.vC ["leads","start"]:=by
      dsimp only [L2.aQ]
      refine' Fc.aX KX G ?a ?l ?c ?k ?b
      (case a=>k_is);(case l=>k_is);(case c=>k_is);(case k=>k_is);(case b=>exact fun _ _ _ _ _ _ us hl=>match us,hl with | [_,_],_=>rfl)
    have DLO:Fc.Def (L2.aQ KX) mg "lies_on_ways" K1.pz ["rows","part","size"]:=by
      dsimp only [L2.aQ]
      refine' Fc.aX KX G ?a ?l ?c ?k ?b
      (case a=>k_is);(case l=>k_is);(case c=>k_is);(case k=>k_is);(case b=>exact fun _ _ _ _ _ _ us hl=>match us,hl with | [_,_,_],_=>rfl)
    have DWE:Fc.Def (L2.aQ KX) mg "is_web" K1.ot ["web"]:=by
      dsimp only [L2.aQ]
      refine' Fc.aX KX G ?a ?l ?c ?k ?b
      (case a=>k_is);(case l=>k_is);(case c=>k_is);(case k=>k_is);(case b=>exact fun _ _ _ _ _ _ us hl=>match us,hl with | [_],_=>rfl)
    have DNW:Fc.Def (L2.aQ KX) mg "need_web" K1.vy ["web"]:=by
      dsimp only [L2.aQ]
      refine' Fc.aX KX G ?a ?l ?c ?k ?b
      (case a=>k_is);(case l=>k_is);(case c=>k_is);(case k=>k_is);(case b=>exact fun _ _ _ _ _ _ us hl=>match us,hl with | [_],_=>rfl)
    have DIP:Fc.Def (L2.aQ KX) mg "is_part" K1.sZ ["web","part"]:=by
      dsimp only [L2.aQ]
      refine' Fc.aX KX G ?a ?l ?c ?k ?b
      (case a=>k_is);(case l=>k_is);(case c=>k_is);(case k=>k_is);(case b=>exact fun _ _ _ _ _ _ us hl=>match us,hl with | [_,_],_=>rfl)
    have DNP:Fc.Def (L2.aQ KX) mg "need_part" K1.p7 ["web","part"]:=by
      dsimp only [L2.aQ]
      refine' Fc.aX KX G ?a ?l ?c ?k ?b
      (case a=>k_is);(case l=>k_is);(case c=>k_is);(case k=>k_is);(case b=>exact fun _ _ _ _ _ _ us hl=>match us,hl with | [_,_],_=>rfl)
    have DIL:Fc.Def (L2.aQ KX) mg "is_loose" K1.nY ["web","part"]:=by
      dsimp only [L2.aQ]
      refine' Fc.aX KX G ?a ?l ?c ?k ?b
      (case a=>k_is);(case l=>k_is);(case c=>k_is);(case k=>k_is);(case b=>exact fun _ _ _ _ _ _ us hl=>match us,hl with | [_,_],_=>rfl)
    have DNO:Fc.Def (L2.aQ KX) mg "need_loose" K1.tD ["web","part"]:=by
      dsimp only [L2.aQ]
      refine' Fc.aX KX G ?a ?l ?c ?k ?b
      (case a=>k_is);(case l=>k_is);(case c=>k_is);(case k=>k_is);(case b=>exact fun _ _ _ _ _ _ us hl=>match us,hl with | [_,_],_=>rfl)
    have DRV:Fc.Def (L2.aQ KX) mg "rows_leaving" K1.sT ["web","part"]:=by
      dsimp only [L2.aQ]
      refine' Fc.aX KX G ?a ?l ?c ?k ?b
      (case a=>k_is);(case l=>k_is);(case c=>k_is);(case k=>k_is);(case b=>exact fun _ _ _ _ _ _ us hl=>match us,hl with | [_,_],_=>rfl)
    have DWN:Fc.Def (L2.aQ KX) mg "ways_on" K1.md ["web","part"]:=by
      dsimp only [L2.aQ]
      refine' Fc.aX KX G ?a ?l ?c ?k ?b
      (case a=>k_is);(case l=>k_is);(case c=>k_is);(case k=>k_is);(case b=>exact fun _ _ _ _ _ _ us hl=>match us,hl with | [_,_],_=>rfl)
    have DWY:Fc.Def (L2.aQ KX) mg "ways" K1.t9 ["web","part"]:=by
      dsimp only [L2.aQ]
      refine' Fc.aX KX G ?a ?l ?c ?k ?b
      (case a=>k_is);(case l=>k_is);(case c=>k_is);(case k=>k_is);(case b=>exact fun _ _ _ _ _ _ us hl=>match us,hl with | [_,_],_=>rfl)
    have DWI:Fc.Def (L2.aQ KX) mg "worths_in" K1.rB ["web","part"]:=by
      dsimp only [L2.aQ]
      refine' Fc.aX KX G ?a ?l ?c ?k ?b
      (case a=>k_is);(case l=>k_is);(case c=>k_is);(case k=>k_is);(case b=>exact fun _ _ _ _ _ _ us hl=>match us,hl with | [_,_],_=>rfl)
    have DWT:Fc.Def (L2.aQ KX) mg "worths" K1.vH ["web","part"]:=by
      dsimp only [L2.aQ]
      refine' Fc.aX KX G ?a ?l ?c ?k ?b
      (case a=>k_is);(case l=>k_is);(case c=>k_is);(case k=>k_is);(case b=>exact fun _ _ _ _ _ _ us hl=>match us,hl with | [_,_],_=>rfl)
    have DST:Fc.Def (L2.aQ KX) mg "steps" K1.vM ["web","part"]:=by
      dsimp only [L2.aQ]
      refine' Fc.aX KX G ?a ?l ?c ?k ?b
      (case a=>k_is);(case l=>k_is);(case c=>k_is);(case k=>k_is);(case b=>exact fun _ _ _ _ _ _ us hl=>match us,hl with | [_,_],_=>rfl)
    have DRW:Fc.Def (L2.aQ KX) mg "is_row" K1.vV ["web","number"]:=by
      dsimp only [L2.aQ]
      refine' Fc.aX KX G ?a ?l ?c ?k ?b
      (case a=>k_is);(case l=>k_is);(case c=>k_is);(case k=>k_is);(case b=>exact fun _ _ _ _ _ _ us hl=>match us,hl with | [_,_],_=>rfl)
    have DCG:Fc.Def (L2.aQ KX) mg "can_go" K1.tf ["web","stack","number"]:=by
      dsimp only [L2.aQ]
      refine' Fc.aX KX G ?a ?l ?c ?k ?b
      (case a=>k_is);(case l=>k_is);(case c=>k_is);(case k=>k_is);(case b=>exact fun _ _ _ _ _ _ us hl=>match us,hl with | [_,_,_],_=>rfl)
    have DLT:Fc.Def (L2.aQ KX) mg "leads_through" K1.vW ["web","part","rows"]:=by
      dsimp only [L2.aQ]
      refine' Fc.aX KX G ?a ?l ?c ?k ?b
      (case a=>k_is);(case l=>k_is);(case c=>k_is);(case k=>k_is);(case b=>exact fun _ _ _ _ _ _ us hl=>match us,hl with | [_,_,_],_=>rfl)
    have DNU:Fc.Def (L2.aQ KX) mg "number_of" K1.rT ["web","part","way"]:=by
      dsimp only [L2.aQ]
      refine' Fc.aX KX G ?a ?l ?c ?k ?b
      (case a=>k_is);(case l=>k_is);(case c=>k_is);(case k=>k_is);(case b=>exact fun _ _ _ _ _ _ us hl=>match us,hl with | [_,_,_],_=>rfl)
    have DYB:Fc.Def (L2.aQ KX) mg "way_by" K1.ub ["web","known","leaving","number"]:=by
      dsimp only [L2.aQ]
      refine' Fc.aX KX G ?a ?l ?c ?k ?b
      (case a=>k_is);(case l=>k_is);(case c=>k_is);(case k=>k_is);(case b=>exact fun _ _ _ _ _ _ us hl=>match us,hl with | [_,_,_,_],_=>rfl)
    have DWS:Fc.Def (L2.aQ KX) mg "ways_of" K1.kZ ["web","part","numbers"]:=by
      dsimp only [L2.aQ]
      refine' Fc.aX KX G ?a ?l ?c ?k ?b
      (case a=>k_is);(case l=>k_is);(case c=>k_is);(case k=>k_is);(case b=>exact fun _ _ _ _ _ _ us hl=>match us,hl with | [_,_,_],_=>rfl)
    have DWO4:Fc.Def (L2.aQ KX) mg "way_of" K1.ow ["web","part","number"]:=by
      dsimp only [L2.aQ]
      refine' Fc.aX KX G ?a ?l ?c ?k ?b
      (case a=>k_is);(case l=>k_is);(case c=>k_is);(case k=>k_is);(case b=>exact fun _ _ _ _ _ _ us hl=>match us,hl with | [_,_,_],_=>rfl)
    have DDR:Fc.Def (L2.aQ KX) mg "_law_draw" K1.wg ["_law_purse_here","_law_out_of"]:=by
      dsimp only [L2.aQ]
      refine' Fc.aX KX G ?a ?l ?c ?k ?b
      (case a=>k_is);(case l=>k_is);(case c=>k_is);(case k=>k_is);(case b=>exact fun _ _ _ _ _ _ us hl=>match us,hl with | [_,_],_=>rfl)
    have DPU:Fc.Def (L2.aQ KX) mg "_law_purse" K1.oC ["_law_script"]:=by
      dsimp only [L2.aQ]
      refine' Fc.aX KX G ?a ?l ?c ?k ?b
      (case a=>k_is);(case l=>k_is);(case c=>k_is);(case k=>k_is);(case b=>exact fun _ _ _ _ _ _ us hl=>match us,hl with | [_],_=>rfl)
    have DOR:Fc.Def (L2.aQ KX) mg "_law_order" K1.vD ["_law_purse_here","_law_many"]:=by
      dsimp only [L2.aQ]
      refine' Fc.aX KX G ?a ?l ?c ?k ?b
      (case a=>k_is);(case l=>k_is);(case c=>k_is);(case k=>k_is);(case b=>exact fun _ _ _ _ _ _ us hl=>match us,hl with | [_,_],_=>rfl)
    have DPT:Fc.Def (L2.aQ KX) mg "_law_part" K1.js ["_law_purse_here","_law_many","_law_loose"]:=by
      dsimp only [L2.aQ]
      refine' Fc.aX KX G ?a ?l ?c ?k ?b
      (case a=>k_is);(case l=>k_is);(case c=>k_is);(case k=>k_is);(case b=>exact fun _ _ _ _ _ _ us hl=>match us,hl with | [_,_,_],_=>rfl)
    have DCL:Fc.Def (L2.aQ KX) mg "_law_called" K1.sU ["_law_purse_here","_law_rows","_law_parts"]:=by
      dsimp only [L2.aQ]
      refine' Fc.aX KX G ?a ?l ?c ?k ?b
      (case a=>k_is);(case l=>k_is);(case c=>k_is);(case k=>k_is);(case b=>exact fun _ _ _ _ _ _ us hl=>match us,hl with | [_,_,_],_=>rfl)
    have DWB:Fc.Def (L2.aQ KX) mg "_law_web" K1.pI ["_law_purse_here","_law_loose"]:=by
      dsimp only [L2.aQ]
      refine' Fc.aX KX G ?a ?l ?c ?k ?b
      (case a=>k_is);(case l=>k_is);(case c=>k_is);(case k=>k_is);(case b=>exact fun _ _ _ _ _ _ us hl=>match us,hl with | [_,_],_=>rfl)
    have DCP:Fc.Def (L2.aQ KX) mg "_law_copy" K1.rM ["_law_web_here"]:=by
      dsimp only [L2.aQ]
      refine' Fc.aX KX G ?a ?l ?c ?k ?b
      (case a=>k_is);(case l=>k_is);(case c=>k_is);(case k=>k_is);(case b=>exact fun _ _ _ _ _ _ us hl=>match us,hl with | [_],_=>rfl)
    have DFR:Fc.Def (L2.aQ KX) mg "_law_from" K1.pU ["_law_web_here","_law_part_here","_law_place"]:=by
      dsimp only [L2.aQ]
      refine' Fc.aX KX G ?a ?l ?c ?k ?b
      (case a=>k_is);(case l=>k_is);(case c=>k_is);(case k=>k_is);(case b=>exact fun _ _ _ _ _ _ us hl=>match us,hl with | [_,_,_],_=>rfl)
    have DLL:Fc.Def (L2.aQ KX) mg "_law_is_loose" K1.nO ["_law_web_here","_law_part_here"]:=by
      dsimp only [L2.aQ]
      refine' Fc.aX KX G ?a ?l ?c ?k ?b
      (case a=>k_is);(case l=>k_is);(case c=>k_is);(case k=>k_is);(case b=>exact fun _ _ _ _ _ _ us hl=>match us,hl with | [_,_],_=>rfl)
    have DON:Fc.Def (L2.aQ KX) mg "_law_on" K1.ma ["_law_web_here","_law_part_here"]:=by
      dsimp only [L2.aQ]
      refine' Fc.aX KX G ?a ?l ?c ?k ?b
      (case a=>k_is);(case l=>k_is);(case c=>k_is);(case k=>k_is);(case b=>exact fun _ _ _ _ _ _ us hl=>match us,hl with | [_,_],_=>rfl)
    have DGO:Fc.Def (L2.aQ KX) mg "_law_goes" K1.wB ["_law_web_here","_law_part_here","_law_rows"]:=by
      dsimp only [L2.aQ]
      refine' Fc.aX KX G ?a ?l ?c ?k ?b
      (case a=>k_is);(case l=>k_is);(case c=>k_is);(case k=>k_is);(case b=>exact fun _ _ _ _ _ _ us hl=>match us,hl with | [_,_,_],_=>rfl)
    have DDU:Fc.Def (L2.aQ KX) mg "_law_due" K1.rN ["_law_k","_law_web_here","_law_part_here","_law_way","_law_number"]:=by
      dsimp only [L2.aQ]
      refine' Fc.aX KX G ?a ?l ?c ?k ?b
      (case a=>k_is);(case l=>k_is);(case c=>k_is);(case k=>k_is);(case b=>exact fun _ _ _ _ _ _ us hl=>match us,hl with | [_,_,_,_,_],_=>rfl)
    have DSW:Fc.Def (L2.aQ KX) mg "_law_some_way" K1.wD ["_law_purse_here","_law_web_here","_law_part_here"]:=by
      dsimp only [L2.aQ]
      refine' Fc.aX KX G ?a ?l ?c ?k ?b
      (case a=>k_is);(case l=>k_is);(case c=>k_is);(case k=>k_is);(case b=>exact fun _ _ _ _ _ _ us hl=>match us,hl with | [_,_,_],_=>rfl)
    have DBT:Fc.Def (L2.aQ KX) mg "_law_bent" K1.vE ["_law_purse_here","_law_web_here","_law_way"]:=by
      dsimp only [L2.aQ]
      refine' Fc.aX KX G ?a ?l ?c ?k ?b
      (case a=>k_is);(case l=>k_is);(case c=>k_is);(case k=>k_is);(case b=>exact fun _ _ _ _ _ _ us hl=>match us,hl with | [_,_,_],_=>rfl)
    have DNO8:Fc.Def (L2.aQ KX) mg "_law_no_web" K1.qo ["_law_purse_here","_law_web_here"]:=by
      dsimp only [L2.aQ]
      refine' Fc.aX KX G ?a ?l ?c ?k ?b
      (case a=>k_is);(case l=>k_is);(case c=>k_is);(case k=>k_is);(case b=>exact fun _ _ _ _ _ _ us hl=>match us,hl with | [_,_],_=>rfl)
    have DMK:Fc.Def (L2.aQ KX) mg "_law_marks" K1.ny ["_law_caught"]:=by
      dsimp only [L2.aQ]
      refine' Fc.aX KX G ?a ?l ?c ?k ?b
      (case a=>k_is);(case l=>k_is);(case c=>k_is);(case k=>k_is);(case b=>exact fun _ _ _ _ _ _ us hl=>match us,hl with | [_],_=>rfl)
    have DAS:Fc.Def (L2.aQ KX) mg "_law_asked" K1.gg ["_law_k","_law_web_here","_law_part_here","_law_way","_law_number"]:=by
      dsimp only [L2.aQ]
      refine' Fc.aX KX G ?a ?l ?c ?k ?b
      (case a=>k_is);(case l=>k_is);(case c=>k_is);(case k=>k_is);(case b=>exact fun _ _ _ _ _ _ us hl=>match us,hl with | [_,_,_,_,_],_=>rfl)
    have DRG:Fc.Def (L2.aQ KX) mg "_law_refused" K1.mV ["_law_k","_law_web_here","_law_part_here","_law_way","_law_number"]:=by
      dsimp only [L2.aQ]
      refine' Fc.aX KX G ?a ?l ?c ?k ?b
      (case a=>k_is);(case l=>k_is);(case c=>k_is);(case k=>k_is);(case b=>exact fun _ _ _ _ _ _ us hl=>match us,hl with | [_,_,_,_,_],_=>rfl)
    refine' K1.ye KX G hmg ⟨M,DX1,DX2,DX3,DIW,DAW,DRF,DWF,DWZ,DLW,DIC,DRE,DLO,DWE,DNW,DIP,DNP,DIL,DNO,DRV,DWN,DWY,DWI,DWT,DST,DRW,DCG,DLT,DNU,DYB,DWS,DWO4,DDR,DPU,DOR,DPT,DCL,DWB,DCP,DFR,DLL,DON,DGO,DDU,DSW,DBT,DNO8,DMK,DAS,DRG⟩ ?a ?l ?c ?k
    (case a=>k_is);(case l=>k_is);(case c=>k_is);(case k=>k_is)
