import PyProof.Rows.All
import Wide.All
import OpenK.AllK
import Wide.FinOn
import Lean
import PyProof.EqAt
import PyProof.EqKinds
import PyProof.TupleCall
import PyProof.NeKinds
import PyProof.WalksEnum
import PyProof.EnumMake
import PySem.Challenge.RW_fewcounters_k02_no_webs_refused
import PyProof.SumWalkG
import PyProof.SeqI3
import KE.KTryMore
import PyProof.NsDelKeeps
set_option Elab.async false
set_option linter.all false
set_option maxRecDepth 100000
namespace L2
open PySem PySem.Spec PyProof.Rows
abbrev Key := Sum Int Str
def keyIs : Key → Value → Bool
  | .inl k, v => Value.isInt k v
  | .inr x, v => Value.isStrOf x v
def keyH (w : World) : Key → Int
  | .inl k => hashInt k
  | .inr x => hashStr w x
theorem keyIs_shape : ∀ {k : Key} {v : Value}, keyIs k v = true → (∃ i t, k = Sum.inl i ∧ v = Value.int i t) ∨ (∃ x t, k = Sum.inr x ∧ v = Value.str x t)
  | .inl i, v, h => by
    obtain ⟨t, e⟩ := Value.isInt_shape (k := i) (v := v) h
    exact .inl ⟨i, t, rfl, e⟩
  | .inr x, v, h => by
    obtain ⟨t, e⟩ := Value.isStrOf_shape (x := x) (v := v) h
    exact .inr ⟨x, t, rfl, e⟩
theorem keyIs_int (i : Int) (t : Tok) : keyIs (.inl i) (.int i t) = true := by simp [keyIs, Value.isInt]
theorem keyIs_str (x : Str) (t : Tok) : keyIs (.inr x) (.str x t) = true := by simp [keyIs, Value.isStrOf]
theorem key_ll (a b : Int) : decide ((Sum.inl a : Key) = Sum.inl b) = (a == b) := by
  by_cases e : a = b
  · subst e; simp
  · have h : ¬ (Sum.inl a : Key) = Sum.inl b := fun q => e (Sum.inl.inj q)
    rw [decide_eq_false h]
    exact (beq_eq_false_iff_ne.mpr e).symm
theorem key_rr (a b : Str) : decide ((Sum.inr a : Key) = Sum.inr b) = decide (a = b) := by
  by_cases e : a = b
  · subst e; simp
  · have h : ¬ (Sum.inr a : Key) = Sum.inr b := fun q => e (Sum.inr.inj q)
    rw [decide_eq_false h, decide_eq_false e]
theorem key_lr (a : Int) (b : Str) : decide ((Sum.inl a : Key) = Sum.inr b) = false := decide_eq_false (fun q => nomatch q)
theorem key_rl (a : Str) (b : Int) : decide ((Sum.inr a : Key) = Sum.inl b) = false := decide_eq_false (fun q => nomatch q)
def mixKind (prog : Program) (w : World) : PySem.KeyKind prog w Key where
  is := keyIs
  hash := keyH w
  inj := fun v a b ha hb => by
    rcases keyIs_shape ha with ⟨i, t, rfl, rfl⟩ | ⟨x, t, rfl, rfl⟩
    · rcases keyIs_shape hb with ⟨j, u, rfl, e⟩ | ⟨y, u, rfl, e⟩
      · injection e with e1 _; rw [e1]
      · exact nomatch e
    · rcases keyIs_shape hb with ⟨j, u, rfl, e⟩ | ⟨y, u, rfl, e⟩
      · exact nomatch e
      · injection e with e1 _; rw [e1]
  byValue := fun k v h => by
    rcases keyIs_shape h with ⟨i, t, rfl, rfl⟩ | ⟨x, t, rfl, rfl⟩ <;> rfl
  pyHash := fun hv h => by
    rcases keyIs_shape hv with ⟨i, t, rfl, rfl⟩ | ⟨x, t, rfl, rfl⟩
    · exact wpAny_pyHash_int h
    · exact wpAny_pyHash_str h
  eqBool := fun hu hv h => by
    rcases keyIs_shape hu with ⟨i, t, rfl, rfl⟩ | ⟨x, t, rfl, rfl⟩
    · rcases keyIs_shape hv with ⟨j, u, rfl, rfl⟩ | ⟨y, u, rfl, rfl⟩
      · rw [key_ll] at h; exact wpAny_eqBool_int h
      · rw [key_lr] at h; exact SeqAt.EqAt.int_str i t y u _ _ _ _ h
    · rcases keyIs_shape hv with ⟨j, u, rfl, rfl⟩ | ⟨y, u, rfl, rfl⟩
      · rw [key_rl] at h; exact SeqAt.EqAt.str_int x t j u _ _ _ _ h
      · rw [key_rr] at h; exact wpAny_eqBool_str h
  «strs» := fun k x t v h => by
    rcases keyIs_shape h with ⟨i, u, rfl, e⟩ | ⟨y, u, rfl, e⟩
    · exact nomatch e
    · injection e with e1 _
      subst e1
      cases v <;> rfl
theorem mixKind_int (prog : Program) (w : World) (i : Int) (t : Tok) : (mixKind prog w).is (.inl i) (.int i t) = true := keyIs_int i t
theorem mixKind_str (prog : Program) (w : World) (x : Str) (t : Tok) : (mixKind prog w).is (.inr x) (.str x t) = true := keyIs_str x t
end L2
namespace L2
open PySem PySem.Spec PyProof.Rows
inductive V where
  | non | bl (b : Bool) | int (i : Int) | str (x : Str) | byt (b : Array UInt8) | flt (b : UInt64) | ref (a : Addr) | ty (n : String)
  deriving DecidableEq
def RelV : V → Value → Prop
  | .non, u => u = Value.none
  | .bl b, u => u = Value.bool b
  | .int i, u => ∃ t, u = Value.int i t
  | .str x, u => ∃ t, u = Value.str x t
  | .byt b, u => ∃ t, u = Value.bytes b t
  | .flt b, u => ∃ t, u = Value.float b t
  | .ref a, u => u = Value.ref a
  | .ty n, u => u = Value.type n
abbrev Vals : List V → List Value → Prop := Paired RelV
theorem Vals.length {xs : List V} {us : List Value} (r : Vals xs us) : xs.length = us.length := Paired.length r
theorem Vals.get : ∀ {xs : List V} {us : List Value} {i : Nat} {x : V}, Vals xs us → xs[i]? = some x → ∃ u, us[i]? = some u ∧ RelV x u
  | _, _, _, _, .nil, e => by simp at e
  | _, _, 0, _, .cons r _, e => by simp at e; subst e; exact ⟨_, rfl, r⟩
  | _, _, i + 1, x, .cons _ t, e => by
    obtain ⟨u, h1, h2⟩ := Vals.get (i := i) (x := x) t (by simpa using e)
    exact ⟨u, by simpa using h1, h2⟩
theorem Vals.set {x : V} {u : Value} (r : RelV x u) : ∀ {xs : List V} {us : List Value} (i : Nat), Vals xs us → Vals (xs.set i x) (us.set i u)
  | _, _, _, .nil => .nil
  | _, _, 0, .cons _ t => .cons r t
  | _, _, i + 1, .cons q t => .cons q (Vals.set r i t)
theorem Vals.append : ∀ {xs ys : List V} {us ws : List Value}, Vals xs us → Vals ys ws → Vals (xs ++ ys) (us ++ ws)
  | _, _, _, _, .nil, s => s
  | _, _, _, _, .cons r t, s => .cons r (Vals.append t s)
theorem Vals.take : ∀ {xs : List V} {us : List Value} (n : Nat), Vals xs us → Vals (xs.take n) (us.take n)
  | _, _, 0, _ => .nil
  | _, _, _ + 1, .nil => .nil
  | _, _, n + 1, .cons r t => .cons r (Vals.take n t)
theorem Vals.drop : ∀ {xs : List V} {us : List Value} (n : Nat), Vals xs us → Vals (xs.drop n) (us.drop n)
  | _, _, 0, r => r
  | _, _, _ + 1, .nil => .nil
  | _, _, n + 1, .cons _ t => Vals.drop n t
def RelO : Option V → Option Value → Prop
  | some v, some u => RelV v u
  | none, none => True
  | _, _ => False
def KV {κ : Type} : List (κ × V) → List (κ × Value) → Prop := Paired fun (p : κ × V) (q : κ × Value) => p.1 = q.1 ∧ RelV p.2 q.2
def kV : Key → V
  | .inl i => .int i
  | .inr x => .str x
inductive HO where
  /-- a list -/
  | lst (xs : List V)
  /-- a tuple (never changes) -/
  | tup (xs : List V)
  /-- a dict whose keys are ints and texts; one whose keys are tuples of ints and texts (the empty one is both) -/
  | dK (kvs : List (Key × V)) | dT (kvs : List (List Key × V))
  /-- a set of ints: its members, its size -/
  | set (S : Int → Bool) (n : Nat)
  /-- an instance of the class at C, its dict at dx, its attributes -/
  | ins (C dx : Addr) (fs : List (Str × V))
  /-- the dict of the instance at x -/
  | own (x : Addr)
  /-- the dict of an exception -/
  | xd (fs : List (Str × V))
  /-- a bound method, f of x -/
  | met (f x : Addr)
  /-- a range object lo, lo + 1, .. below hi -/
  | rng (lo hi : Int)
  /-- a thing that is known to the object (the script; a dict while a loop walks it): read, never written while it is so -/
  | frz (o : Obj) (u : HO)
  /-- a code object's table -/
  | tbl (ps : Array Value)
  /-- any other thing, by what is true of its one object (a def of one's own: SetO a S n := HO.ext fun h => ..) -/
  | ext (φ : Heap → Prop)
abbrev Hp := Addr → Option HO
def upd (H : Hp) (a : Addr) (o : HO) : Hp := fun b => if b = a then some o else H b
theorem upd_same {H : Hp} {a : Addr} {o : HO} : upd H a o a = some o := by unfold upd; rw [if_pos rfl]
theorem upd_ne {H : Hp} {a b : Addr} {o : HO} (h : b ≠ a) : upd H a o b = H b := by unfold upd; rw [if_neg h]
theorem upd_upd {H : Hp} {a : Addr} {o u : HO} : upd (upd H a o) a u = upd H a u := by
  funext b; unfold upd; split <;> rfl
theorem ne_of {H : Hp} {a b : Addr} {o u : HO} (h : H a = some o) (h' : H b = some u) (d : o ≠ u) : a ≠ b := by
  intro e; subst e; rw [h] at h'; exact d (Option.some.inj h')
theorem ne_of_none {H : Hp} {a b : Addr} {o : HO} (h : H a = some o) (h' : H b = none) : a ≠ b := by
  intro e; subst e; rw [h] at h'; cases h'
section
variable (P : Program) (w : World)
def ObjOk (H : Hp) (h : Heap) (a : Addr) : HO → Prop
  | .lst xs => xs.length ≤ sizeLine ∧ ∃ (its : List Value) (n : Nat), Vals xs its ∧ h.get? a = some { cls := .type "list", data := .seq its.toArray n }
  | .tup xs => xs.length ≤ sizeLine ∧ ∃ its : List Value, Vals xs its ∧ IsTup h a its.toArray
  | .dK kvs => kvs.length ≤ sizeLine ∧ (a == sysModules) = false ∧ ∃ vs, KV kvs vs ∧ h.DictOf (mixKind P w) a vs
  | .dT kvs => kvs.length ≤ sizeLine ∧ (a == sysModules) = false ∧ ∃ xs : List (List Key × Addr × Value),
      Paired (fun (p : List Key × V) (q : List Key × Addr × Value) => p.1 = q.1 ∧ H q.2.1 = some (.tup (p.1.map kV)) ∧ RelV p.2 q.2.2) kvs xs ∧
      ∃ o es ep, h.get? a = some o ∧ o.ExactDict ∧ o.data = .dict es ep ∧ es.toList = xs.map (entryOfKey (tupleKind (mixKind P w))) ∧ (xs.map (·.1)).Nodup
  | .set S n => h.SetOf (intKind P w) a S n
  | .ins C dx fs => H dx = some (.own a) ∧ fs.length ≤ 1000 ∧ dx ≠ a ∧ h.get? a = some (PySem.W.instObj C dx) ∧
      ∃ mA, h.Ns1 dx mA ∧ (∀ f, RelO (fs.lookup f) (mA f)) ∧ PySem.Within mA (fs.map (·.1))
  | .own _ => ∃ o, h.get? a = some o
  | .xd fs => ∃ mA, h.Ns1 a mA ∧ ∀ f, RelO (fs.lookup f) (mA f)
  | .rng lo hi => ∃ t u v, h.get? a = some { cls := .type "range", data := .fields #[.int lo t, .int hi u, .int 1 v] }
  | .frz o u => h.get? a = some o ∧ ObjOk H h a u
  | .tbl ps => h.get? a = some { cls := .none, data := .fields ps }
  | .met f x => h.get? a = some (PySem.W.methodObj (.ref f) (.ref x))
  | .ext φ => φ h ∧ (∃ o, h.get? a = some o) ∧ ∀ h1 h2 : Heap, φ h1 → (∀ o, h1.get? a = some o → h2.get? a = some o) → φ h2
def HOk (H : Hp) (h : Heap) : Prop := ∀ a o, H a = some o → ObjOk P w H h a o
end
section
variable {P : Program} {w : World} {H H' : Hp} {h h' : Heap} {a : Addr} {o : HO}
theorem ObjOk.lt (x : ObjOk P w H h a o) : a < h.objs.size := by
  cases o with
  | lst xs => obtain ⟨_, _, _, _, e⟩ := x; exact Heap.lt_size e
  | tup xs => obtain ⟨_, _, _, p⟩ := x; exact p.lt
  | dK kvs => obtain ⟨_, _, _, _, o, _, _, e, _⟩ := x; exact Heap.lt_size e
  | dT kvs => obtain ⟨_, _, _, _, o, _, _, e, _⟩ := x; exact Heap.lt_size e
  | set S n => obtain ⟨o, _, _, _, e, _⟩ := x; exact Heap.lt_size e
  | ins C dx fs => obtain ⟨_, _, _, e, _⟩ := x; exact Heap.lt_size e
  | own y => obtain ⟨_, e⟩ := x; exact Heap.lt_size e
  | xd fs => obtain ⟨_, ⟨_, _, _, e, _⟩, _⟩ := x; exact Heap.lt_size e
  | rng lo hi => obtain ⟨_, _, _, e⟩ := x; exact Heap.lt_size e
  | frz ob u => obtain ⟨e, _⟩ := x; exact Heap.lt_size e
  | tbl ps => exact Heap.lt_size (show h.get? a = some _ from x)
  | met f y => exact Heap.lt_size (show h.get? a = some _ from x)
  | ext φ => obtain ⟨_, ⟨_, e⟩, _⟩ := x; exact Heap.lt_size e
theorem Paired.mapP {α β : Type} {F G : α → β → Prop} : ∀ {l₁ : List α} {l₂ : List β}, Paired F l₁ l₂ → (∀ a b, F a b → G a b) → Paired G l₁ l₂
  | _, _, .nil, _ => .nil
  | _, _, .cons r t, f => .cons (f _ _ r) (Paired.mapP t f)
theorem ObjOk.stay (x : ObjOk P w H h a o) (k : ∀ b u, (b = a ∨ H b = some (.own a)) → h.get? b = some u → h'.get? b = some u)
    (ho : ∀ b, H b = some (.own a) → H' b = some (.own a)) (ht : ∀ b xs, H b = some (.tup xs) → H' b = some (.tup xs)) : ObjOk P w H' h' a o := by
  induction o with
  | lst xs => obtain ⟨z, its, n, r, e⟩ := x; exact ⟨z, its, n, r, k _ _ (.inl rfl) e⟩
  | tup xs => obtain ⟨z, its, r, ob, e, c⟩ := x; exact ⟨z, its, r, ob, k _ _ (.inl rfl) e, c⟩
  | dK kvs => obtain ⟨z, y, vs, r, ob, es, ep, e, c⟩ := x; exact ⟨z, y, vs, r, ob, es, ep, k _ _ (.inl rfl) e, c⟩
  | dT kvs =>
    obtain ⟨z, y, xs, r, ob, es, ep, e, c⟩ := x
    exact ⟨z, y, xs, Paired.mapP r fun p q z => ⟨z.1, ht _ _ z.2.1, z.2.2⟩, ob, es, ep, k _ _ (.inl rfl) e, c⟩
  | set S n => obtain ⟨ob, es, ep, t, e, c⟩ := x; exact ⟨ob, es, ep, t, k _ _ (.inl rfl) e, c⟩
  | ins C dx fs =>
    obtain ⟨d, z, ne, e, mA, ⟨od, es, ep, e2, c⟩, r⟩ := x
    exact ⟨ho _ d, z, ne, k _ _ (.inl rfl) e, mA, ⟨od, es, ep, k _ _ (.inr d) e2, c⟩, r⟩
  | own y => obtain ⟨ob, e⟩ := x; exact ⟨ob, k _ _ (.inl rfl) e⟩
  | xd fs => obtain ⟨mA, ⟨od, es, ep, e, c⟩, r⟩ := x; exact ⟨mA, ⟨od, es, ep, k _ _ (.inl rfl) e, c⟩, r⟩
  | rng lo hi => obtain ⟨t, u, v, e⟩ := x; exact ⟨t, u, v, k _ _ (.inl rfl) e⟩
  | frz ob u ih => obtain ⟨e, q⟩ := x; exact ⟨k _ _ (.inl rfl) e, ih q⟩
  | tbl ps =>
    have e : h.get? a = some { cls := .none, data := .fields ps } := x
    show h'.get? a = some { cls := .none, data := .fields ps }
    exact k a _ (.inl rfl) e
  | met f y =>
    have e : h.get? a = some (PySem.W.methodObj (.ref f) (.ref y)) := x
    show h'.get? a = some (PySem.W.methodObj (.ref f) (.ref y))
    exact k a _ (.inl rfl) e
  | ext φ => obtain ⟨p, ⟨o, e⟩, st⟩ := x; exact ⟨st _ _ p fun o q => k _ _ (.inl rfl) q, ⟨o, k _ _ (.inl rfl) e⟩, st⟩
theorem HOk.lt (x : HOk P w H h) (e : H a = some o) : a < h.objs.size := (x a o e).lt
theorem HOk.fresh (x : HOk P w H h) (e : h.objs.size ≤ a) : H a = none := by
  cases q : H a with
  | none => rfl
  | some u => exact absurd (Nat.lt_of_lt_of_le (x.lt q) e) (Nat.lt_irrefl _)
theorem HOk.kept (x : HOk P w H h) (k : ∀ b u, h.get? b = some u → h'.get? b = some u) : HOk P w H h' := fun a o e =>
  (x a o e).stay (fun b u _ q => k b u q) (fun _ q => q) fun _ _ q => q
theorem HOk.laid (x : HOk P w H h) (k : ∀ b u, h.get? b = some u → h'.get? b = some u) (hp : h.objs.size ≤ a) (new : ObjOk P w (upd H a o) h' a o) : HOk P w (upd H a o) h' := fun b u e => by
  have hn := x.fresh hp
  by_cases hb : b = a
  · subst hb; rw [upd_same] at e; cases e; exact new
  · rw [upd_ne hb] at e
    exact (x b u e).stay (fun c v _ q => k c v q) (fun c q => by rw [upd_ne (ne_of_none q hn)]; exact q) fun c xs q => by rw [upd_ne (ne_of_none q hn)]; exact q
end
def Rd (H : Hp) (a : Addr) (u : HO) : Prop := H a = some u ∨ ∃ o, H a = some (.frz o u)
theorem Rd.ok {P : Program} {w : World} {H : Hp} {h : Heap} {a : Addr} {u : HO} (r : Rd H a u) (x : HOk P w H h) : ObjOk P w H h a u := by
  rcases r with r | ⟨o, r⟩
  · exact x a u r
  · obtain ⟨_, q⟩ := x a _ r
    exact q
def Mut : Option HO → Prop
  | some (.lst _) => True
  | some (.dK _) => True
  | some (.dT _) => True
  | some (.set _ _) => True
  | some (.ins _ _ _) => True
  | some (.ext _) => True
  | _ => False
section
variable {P : Program} {w : World} {H : Hp} {h h' : Heap} {x e : Addr} {o' : HO}
theorem HOk.write (ok : HOk P w H h) (mu : Mut (H x)) (he : e = x ∨ H e = some (.own x)) (k : ∀ b u, b ≠ e → h.get? b = some u → h'.get? b = some u) (heo : ∃ u, h'.get? e = some u)
    (new : ObjOk P w (upd H x o') h' x o') : HOk P w (upd H x o') h' := fun b u q => by
  have nown : ∀ c y, H c = some (.own y) → c ≠ x := fun c y r z => by subst z; rw [r] at mu; exact mu
  have ntup : ∀ c xs, H c = some (.tup xs) → c ≠ x := fun c xs r z => by subst z; rw [r] at mu; exact mu
  by_cases hb : b = x
  · subst hb; rw [upd_same] at q; cases q; exact new
  · rw [upd_ne hb] at q
    by_cases hbe : b = e
    · have q' : H b = some (.own x) := by
        rcases he with z | z
        · exact absurd (hbe.trans z) hb
        · rw [hbe]; exact z
      rw [q] at q'; cases q'
      obtain ⟨v, hv⟩ := heo
      exact ⟨v, by rw [hbe]; exact hv⟩
    · refine (ok b u q).stay (fun c v hc r => k c v ?_ r) (fun c r => by rw [upd_ne (nown c b r)]; exact r) fun c xs r => by rw [upd_ne (ntup c xs r)]; exact r
      rcases hc with rfl | hc
      · exact hbe
      · rintro rfl
        rcases he with z | z
        · exact nown c b hc z
        · rw [hc] at z; cases z; exact hb rfl
end
structure Un (fs ex : List Addr) (H H' : Hp) (h h' : Heap) : Prop where
  keep : ∀ b o, h.get? b = some o → H b = none → b ∉ fs → b ∉ ex → h'.get? b = some o
  slot : ∀ b o, h.get? b = some o → H b = none → b ∈ fs → b ∉ ex → ∃ sl, h'.get? b = some { o with slots := sl }
  free : ∀ b o, h.get? b = some o → H b = none → b ∉ ex → H' b = none
  there : ∀ b o, h.get? b = some o → b ∉ ex → ∃ o', h'.get? b = some o'
  tups : ∀ b xs, H b = some (.tup xs) → H' b = some (.tup xs)
  frzs : ∀ b o u, H b = some (.frz o u) → H' b = some (.frz o u)
  tbls : ∀ b ps, H b = some (.tbl ps) → ∃ more, H' b = some (.tbl (ps ++ more))
section
variable {fs fs' ex ex' : List Addr} {H H1 H2 : Hp} {h h1 h2 h' : Heap} {a x e : Addr} {o : HO}
theorem Un.any (u : Un fs ex H H1 h h1) {b : Addr} {ob : Obj} (q : h.get? b = some ob) (n : H b = none) (hx : b ∉ ex) : ∃ sl, h1.get? b = some { ob with slots := sl } := by
  by_cases hb : b ∈ fs
  · exact u.slot b ob q n hb hx
  · exact ⟨ob.slots, u.keep b ob q n hb hx⟩
theorem Un.trans (a : Un fs ex H H1 h h1) (b : Un fs ex H1 H2 h1 h2) : Un fs ex H H2 h h2 where
  keep := fun c ob q n hc hx => b.keep c ob (a.keep c ob q n hc hx) (a.free c ob q n hx) hc hx
  slot := fun c ob q n hc hx => by
    obtain ⟨sl, e1⟩ := a.slot c ob q n hc hx
    obtain ⟨sl', e2⟩ := b.slot c _ e1 (a.free c ob q n hx) hc hx
    exact ⟨sl', e2⟩
  free := fun c ob q n hx => by
    obtain ⟨o', e1⟩ := a.there c ob q hx
    exact b.free c o' e1 (a.free c ob q n hx) hx
  there := fun c ob q hx => by
    obtain ⟨o', e1⟩ := a.there c ob q hx
    exact b.there c o' e1 hx
  tups := fun c xs q => b.tups c xs (a.tups c xs q)
  frzs := fun c ob xs q => b.frzs c ob xs (a.frzs c ob xs q)
  tbls := fun c ps q => by
    obtain ⟨m1, e1⟩ := a.tbls c ps q
    obtain ⟨m2, e2⟩ := b.tbls c _ e1
    exact ⟨m1 ++ m2, by rw [e2, Array.append_assoc]⟩
theorem Un.kept (k : ∀ b u, h.get? b = some u → h'.get? b = some u) : Un fs ex H H h h' :=
  ⟨fun b ob q _ _ _ => k b ob q, fun b ob q _ _ _ => ⟨ob.slots, k b ob q⟩, fun _ _ _ n _ => n, fun b ob q _ => ⟨ob, k b ob q⟩, fun _ _ q => q, fun _ _ _ q => q, fun _ ps q => ⟨#[], by rw [q]; simp⟩⟩
theorem Un.refl : Un fs ex H H h h := Un.kept fun _ _ q => q
theorem Un.laid (k : ∀ b u, h.get? b = some u → h'.get? b = some u) (hp : h.objs.size ≤ a) (hn : H a = none) : Un fs ex H (upd H a o) h h' where
  keep := fun b u q _ _ _ => k b u q
  slot := fun b u q _ _ _ => ⟨u.slots, k b u q⟩
  free := fun b u q n _ => by rw [upd_ne (Nat.ne_of_lt (Nat.lt_of_lt_of_le (Heap.lt_size q) hp))]; exact n
  there := fun b u q _ => ⟨u, k b u q⟩
  tups := fun b xs q => by rw [upd_ne (ne_of_none q hn)]; exact q
  frzs := fun b u xs q => by rw [upd_ne (ne_of_none q hn)]; exact q
  tbls := fun b ps q => ⟨#[], by rw [upd_ne (ne_of_none q hn), q]; simp⟩
theorem Un.write (mu : Mut (H x)) (he : e = x ∨ H e = some (.own x)) (k : ∀ b u, b ≠ e → h.get? b = some u → h'.get? b = some u) (heo : ∃ u, h'.get? e = some u) : Un fs ex H (upd H x o) h h' := by
  have hx : ∀ b, H b = none → b ≠ x := fun b n z => by subst z; rw [n] at mu; exact mu
  have hb : ∀ b, H b = none → b ≠ e := fun b n z => by
    subst z
    rcases he with r | r
    · exact hx b n r
    · rw [n] at r; cases r
  have hm : ∀ b u, H b = some u → ¬ Mut (some u) → b ≠ x := fun b u q nm z => by subst z; rw [q] at mu; exact nm mu
  refine ⟨fun b u q n _ _ => k b u (hb b n) q, fun b u q n _ _ => ⟨u.slots, k b u (hb b n) q⟩, fun b u q n _ => by rw [upd_ne (hx b n)]; exact n, fun b u q _ => ?_,
    fun b xs q => by rw [upd_ne (hm b _ q fun z => z)]; exact q, fun b u xs q => by rw [upd_ne (hm b _ q fun z => z)]; exact q, fun b ps q => ⟨#[], by rw [upd_ne (hm b _ q fun z => z), q]; simp⟩⟩
  by_cases hbe : b = e
  · subst hbe; exact heo
  · exact ⟨u, k b u hbe q⟩
theorem Un.mono (u : Un fs ex H H1 h h1) (hs : ∀ b ∈ fs, b ∈ fs') (hx : ∀ b ∈ ex, b ∈ ex') : Un fs' ex' H H1 h h1 :=
  ⟨fun b ob q n hb he => u.keep b ob q n (fun z => hb (hs b z)) fun z => he (hx b z), fun _ _ q n _ he => u.any q n fun z => he (hx _ z), fun b ob q n he => u.free b ob q n fun z => he (hx b z), fun b ob q he => u.there b ob q fun z => he (hx b z), u.tups, u.frzs, u.tbls⟩
end
def trk (h : Heap) (H : Hp) : List Addr := (List.range h.objs.size).filter fun a => (H a).isSome
def hidT (h : Heap) (H : Hp) : Heap := PySem.W.hideAll h (trk h H)
theorem hidT_size (h : Heap) (H : Hp) : (hidT h H).objs.size = h.objs.size := PySem.W.hideAll_size _ _
theorem hidT_get {h : Heap} {H : Hp} {b : Addr} {o : Obj} (e : h.get? b = some o) (n : H b = none) : (hidT h H).get? b = some o :=
  PySem.W.hideAll_get _ e fun hm => by
    have q : (H b).isSome = true := (List.mem_filter.mp hm).2
    rw [n] at q; simp at q
theorem of_hidT {h : Heap} {H : Hp} {b : Addr} {o : Obj} (e : (hidT h H).get? b = some o) : h.get? b = some o ∧ H b = none := by
  have e' : h.get? b = some o := PySem.W.of_hideAll (trk h H) e
  refine ⟨e', ?_⟩
  cases q : H b with
  | none => rfl
  | some x =>
    have hm : b ∈ trk h H := List.mem_filter.mpr ⟨List.mem_range.mpr (Heap.lt_size e'), by simp [q]⟩
    have z : (hidT h H).get? b = none := PySem.W.hideAll_none (trk h H) hm
    rw [z] at e; cases e
end L2
namespace L2
open PySem PySem.Spec PyProof.Rows
structure Mod (K : PySem.W.Frag) (mg : Str → Option Value) (base : Heap) : Prop where
  kin : K.In base
  glob : base.Ns mainGlobals mg
  blt : ∃ mb, base.Ns builtinsNs mb ∧ ∀ x : Str, x ≠ "__name__" → mb x = bootBuiltins x
  nolimit : base.NoLimit
structure Cx where
  prog : Program
  w : World
  K : PySem.W.Frag
  mg : Str → Option Value
  base : Heap
  A : Around
  N : List Str
  s₀ : Shared
  H₀ : Hp
  env : Env
  outer : List Env
  stack : List Env
  ex : List Addr
  fn : Str → Bool
  calm : Bool
  pn : List (Addr × Obj)
  xe : Value → Shared → Prop
def frs (l : List Env) : List Addr := l.filterMap (·.frame)
abbrev Cx.fs (X : Cx) : List Addr := frs X.outer
def Vis (sc : Scope) (x : Str) : Prop := sc.names.lookup x = some .local ∨ sc.names.lookup x = some .cell ∨ sc.names.lookup x = some .free
def Loc (sc : Scope) (x : Str) : Prop := sc.names.lookup x = some .local ∨ sc.names.lookup x = some .cell
def Look (env : Env) (h : Heap) (m : Str → Option Value) (x : Str) (u : Value) : Prop :=
  (env.kindOf x = some .local ∧ m x = some u) ∨ ((env.kindOf x = some .cell ∨ env.kindOf x = some .free) ∧ ∃ c, env.cells.lookup x = some c ∧ h.IsCell c (some u))
structure Cx.Ok (X : Cx) : Prop where
  mod : Mod X.K X.mg X.base
  kind : X.env.scope.kind = .function
  glob : X.env.globals = mainGlobals
  blt : X.env.builtins = builtinsNs
  above : X.s₀.heap.objs.size ≤ X.env.locals
  inj : ∀ x y c, X.env.cells.lookup x = some c → X.env.cells.lookup y = some c → x = y
  has : ∀ x, (X.env.kindOf x = some .cell ∨ X.env.kindOf x = some .free) → ∃ c, X.env.cells.lookup x = some c
  cab : ∀ x c, X.fn x = true → X.env.cells.lookup x = some c → X.s₀.heap.objs.size ≤ c
  hd : X.calm = true → X.A.handled = none
  frames : X.A.frames = some X.stack
  stk : X.stack = X.outer ∨ (X.stack = X.env :: X.outer ∧ X.env.frame = some X.env.locals)
  exf : ∀ b ∈ X.ex, b ≠ X.env.locals ∧ ∀ x c, X.env.cells.lookup x = some c → c ≠ b
  bs : ∀ b o, X.base.get? b = some o → X.s₀.heap.get? b = some o ∧ X.H₀ b = none
  bsz : X.base.objs.size ≤ X.s₀.heap.objs.size
  noex : ∀ b o, X.base.get? b = some o → b ∉ X.ex
  exfs : ∀ b ∈ X.ex, b ∉ X.fs
  funs : X.s₀.heap.FunFrames X.base X.outer
  frf : ∀ b ∈ X.fs, X.H₀ b = none
structure Inv (X : Cx) (pins : List (Addr × Obj)) (σ : List (Option V)) (H : Hp) (s : Shared) : Prop where
  ok : X.Ok
  os : s.os = X.s₀.os
  bare : AllBare s.gens
  base : Un X.fs X.ex X.H₀ H X.s₀.heap s.heap
  loc : ∃ m, s.heap.Ns X.env.locals m ∧ ∀ (i : Nat) (x : Str) (v : V), X.N[i]? = some x → σ[i]? = some (some v) → Vis X.env.scope x → ∃ u, RelV v u ∧ Look X.env s.heap m x u
  cell : ∀ x c, X.env.cells.lookup x = some c → ∃ v, s.heap.IsCell c v
  free : H X.env.locals = none
  freeC : ∀ x c, X.env.cells.lookup x = some c → H c = none
  pin : ∀ p ∈ X.pn ++ pins, s.heap.get? p.1 = some p.2 ∧ H p.1 = none ∧ p.1 ≠ X.env.locals ∧ p.1 ∉ X.fs ∧ ∀ v, p.2.data ≠ .cell v
  hok : HOk X.prog X.w H s.heap
  len : σ.length = X.N.length
section
variable {X : Cx} {pins : List (Addr × Obj)} {σ : List (Option V)} {H H' : Hp} {s : Shared} {h' : Heap}
theorem Cx.Ok.nofr (ok : X.Ok) {b : Addr} {o : Obj} (e : X.base.get? b = some o) : b ∉ X.fs := fun hb => by
  have := (ok.funs.mem hb).1
  rw [e] at this; cases this
theorem Inv.bs (I : Inv X pins σ H s) : ∀ b o, X.base.get? b = some o → s.heap.get? b = some o ∧ H b = none := fun b o e =>
  ⟨I.base.keep b o (I.ok.bs b o e).1 (I.ok.bs b o e).2 (I.ok.nofr e) (I.ok.noex b o e), I.base.free b o (I.ok.bs b o e).1 (I.ok.bs b o e).2 (I.ok.noex b o e)⟩
theorem Inv.bk (I : Inv X pins σ H s) : ∀ b o, X.base.get? b = some o → s.heap.get? b = some o := fun b o e => (I.bs b o e).1
theorem Inv.mod (I : Inv X pins σ H s) : Mod X.K X.mg X.base := I.ok.mod
theorem Inv.kIn (I : Inv X pins σ H s) : X.K.In s.heap := I.ok.mod.kin.keeps I.bk
theorem Inv.lt (I : Inv X pins σ H s) : X.env.locals < s.heap.objs.size := let ⟨_, hn, _⟩ := I.loc; hn.lt
theorem Inv.sz (I : Inv X pins σ H s) : X.s₀.heap.objs.size ≤ s.heap.objs.size := Nat.le_trans I.ok.above (Nat.le_of_lt I.lt)
theorem Inv.nofs (I : Inv X pins σ H s) {a : Addr} (h : s.heap.objs.size ≤ a) : a ∉ X.fs := fun hb => by
  obtain ⟨_, o, ho, _⟩ := I.ok.funs.mem hb
  exact absurd (Nat.lt_of_lt_of_le (Heap.lt_size ho) (Nat.le_trans I.sz h)) (Nat.lt_irrefl _)
theorem Inv.cne (I : Inv X pins σ H s) : ∀ x c, X.env.cells.lookup x = some c → c ≠ X.env.locals := fun x c e z => by
  obtain ⟨v, o, ho, hd⟩ := I.cell x c e
  obtain ⟨m, ⟨o', es, ep, ho', hd', _⟩, _⟩ := I.loc
  rw [z, ho'] at ho; cases ho; rw [hd'] at hd; cases hd
theorem Inv.funs (I : Inv X pins σ H s) : s.heap.FunFrames X.base X.outer := by
  have all : ∀ (l : List Env), (∀ b ∈ frs l, b ∈ X.fs) → X.s₀.heap.FunFrames X.base l → s.heap.FunFrames X.base l := by
    intro l
    induction l with
    | nil => intro _ _; trivial
    | cons env r ih =>
      intro hs hl
      obtain ⟨hk, ⟨L, o, hf, hn, ho, hd⟩, hr⟩ := hl
      have hL : L ∈ X.fs := hs L (by unfold frs; rw [List.filterMap_cons, hf]; exact List.mem_cons_self)
      obtain ⟨sl, e⟩ := I.base.slot L o ho (I.ok.frf L hL) hL fun z => I.ok.exfs L z hL
      exact ⟨hk, ⟨L, _, hf, hn, e, hd⟩, ih (fun b hb => hs b (by unfold frs; rw [List.filterMap_cons, hf]; exact List.mem_cons_of_mem _ hb)) hr⟩
  exact all X.outer (fun _ hb => hb) I.ok.funs
theorem Inv.stack (I : Inv X pins σ H s) : s.heap.FunFrames X.base X.stack := by
  rcases I.ok.stk with e | ⟨e, hf⟩
  · rw [e]; exact I.funs
  · rw [e]
    obtain ⟨m, hn, _⟩ := I.loc
    refine .cons (by rw [I.ok.kind]; decide) hf hn ?_ I.funs
    exact Heap.get?_none_of_le (Nat.le_trans I.ok.bsz I.ok.above)
theorem Inv.stkSub (I : Inv X pins σ H s) : ∀ b ∈ frs X.stack, b ∈ X.env.locals :: X.fs := fun b hb => by
  rcases I.ok.stk with e | ⟨e, hf⟩
  · rw [e] at hb; exact List.mem_cons_of_mem _ hb
  · rw [e] at hb
    unfold frs at hb
    rw [List.filterMap_cons, hf] at hb
    exact hb
theorem Inv.stkFree (I : Inv X pins σ H s) : ∀ b ∈ frs X.stack, H b = none := fun b hb => by
  rcases List.mem_cons.mp (I.stkSub b hb) with e | hb
  · rw [e]; exact I.free
  · obtain ⟨_, o, ho, _⟩ := I.ok.funs.mem hb
    exact I.base.free b o ho (I.ok.frf b hb) fun z => I.ok.exfs b z hb
theorem Inv.step {g' : Array GenState} {t' : Nat} {d' : Drawn} {ch : List Addr} (I : Inv X pins σ H s)
    (hch : ∀ b ∈ ch, (b ∈ X.ex ∨ X.s₀.heap.objs.size ≤ b) ∧ b ≠ X.env.locals ∧ (∀ x c, X.env.cells.lookup x = some c → c ≠ b) ∧ ∀ p ∈ X.pn ++ pins, p.1 ≠ b)
    (keep : ∀ b o, b ≠ X.env.locals → b ∉ X.fs → b ∉ ch → s.heap.get? b = some o → H b = none → h'.get? b = some o)
    (slot : ∀ b o, b ≠ X.env.locals → b ∈ X.fs → b ∉ ch → s.heap.get? b = some o → H b = none → ∃ sl, h'.get? b = some { o with slots := sl }) (free : ∀ b o, b ∉ ch → s.heap.get? b = some o → H b = none → H' b = none)
    (there : ∀ b o, b ∉ ch → s.heap.get? b = some o → ∃ o', h'.get? b = some o')
    (tups : ∀ b xs, H b = some (.tup xs) → H' b = some (.tup xs)) (frzs : ∀ b o u, H b = some (.frz o u) → H' b = some (.frz o u)) (tbls : ∀ b ps, H b = some (.tbl ps) → ∃ more, H' b = some (.tbl (ps ++ more)))
    (ns : ∀ m, s.heap.Ns X.env.locals m → h'.Ns X.env.locals m) (hok : HOk X.prog X.w H' h') (hg : AllBare g') :
    Inv X pins σ H' { s with heap := h', gens := g', drawn := d', toks := t' } := by
  have neL : ∀ b o, X.s₀.heap.get? b = some o → b ≠ X.env.locals := fun b o e => Nat.ne_of_lt (Nat.lt_of_lt_of_le (Heap.lt_size e) I.ok.above)
  have neC : ∀ b o, X.s₀.heap.get? b = some o → b ∉ X.ex → b ∉ ch := fun b o e hx hb => by
    rcases (hch b hb).1 with z | z
    · exact hx z
    · exact absurd (Nat.lt_of_lt_of_le (Heap.lt_size e) z) (Nat.lt_irrefl _)
  have cellK : ∀ x c, X.env.cells.lookup x = some c → ∀ v, s.heap.IsCell c v → h'.IsCell c v := fun x c e v ⟨o, ho, hd⟩ => by
    have nch : c ∉ ch := fun z => (hch c z).2.2.1 x c e rfl
    by_cases hc : c ∈ X.fs
    · obtain ⟨sl, q⟩ := slot c o (I.cne x c e) hc nch ho (I.freeC x c e)
      exact ⟨_, q, hd⟩
    · exact ⟨o, keep c o (I.cne x c e) hc nch ho (I.freeC x c e), hd⟩
  refine ⟨I.ok, I.os, hg, ⟨fun b o e n hb hx => ?_, fun b o e n hb hx => ?_, fun b o e n hx => ?_, fun b o e hx => ?_, fun b xs e => tups b xs (I.base.tups b xs e), fun b o xs e => frzs b o xs (I.base.frzs b o xs e), fun b ps e => ?_⟩, ?_, fun x c e => ?_, ?_, fun x c e => ?_, fun p hp => ?_, hok, I.len⟩
  · exact keep b o (neL b o e) hb (neC b o e hx) (I.base.keep b o e n hb hx) (I.base.free b o e n hx)
  · obtain ⟨sl, e1⟩ := I.base.slot b o e n hb hx
    obtain ⟨sl', e2⟩ := slot b _ (neL b o e) hb (neC b o e hx) e1 (I.base.free b o e n hx)
    exact ⟨sl', e2⟩
  · obtain ⟨o', e1⟩ := I.base.there b o e hx
    exact free b o' (neC b o e hx) e1 (I.base.free b o e n hx)
  · obtain ⟨o', e1⟩ := I.base.there b o e hx
    exact there b o' (neC b o e hx) e1
  · obtain ⟨m1, e1⟩ := I.base.tbls b ps e
    obtain ⟨m2, e2⟩ := tbls b _ e1
    exact ⟨m1 ++ m2, by rw [e2, Array.append_assoc]⟩
  · obtain ⟨m, hn, hl⟩ := I.loc
    refine ⟨m, ns m hn, fun i x v e1 e2 e3 => ?_⟩
    obtain ⟨u, r, l⟩ := hl i x v e1 e2 e3
    refine ⟨u, r, ?_⟩
    rcases l with l | ⟨k, c, e, z⟩
    · exact .inl l
    · exact .inr ⟨k, c, e, cellK x c e _ z⟩
  · obtain ⟨v, z⟩ := I.cell x c e
    exact ⟨v, cellK x c e v z⟩
  · obtain ⟨m, ⟨o, _, _, ho, _⟩, _⟩ := I.loc
    exact free _ o (fun z => (hch _ z).2.1 rfl) ho I.free
  · obtain ⟨v, o, ho, hd⟩ := I.cell x c e
    exact free c o (fun z => (hch c z).2.2.1 x c e rfl) ho (I.freeC x c e)
  · obtain ⟨e, n, ne, nf, d⟩ := I.pin p hp
    have nch : p.1 ∉ ch := fun z => (hch p.1 z).2.2.2 p hp rfl
    exact ⟨keep p.1 p.2 ne nf nch e n, free p.1 p.2 nch e n, ne, nf, d⟩
theorem Inv.un {t' : Nat} (I : Inv X pins σ H s) (u : Un X.fs [] H H' s.heap h') (hok : HOk X.prog X.w H' h') : Inv X pins σ H' { s with heap := h', toks := t' } := by
  obtain ⟨m, ⟨o, es, ep, ho, r⟩, _⟩ := id I.loc
  obtain ⟨sl, hL⟩ := u.any ho I.free (by simp)
  exact I.step (g' := s.gens) (d' := s.drawn) (ch := []) (fun _ z => nomatch z) (fun b o _ hb _ e n => u.keep b o e n hb (by simp)) (fun b o _ hb _ e n => u.slot b o e n hb (by simp)) (fun b o _ e n => u.free b o e n (by simp)) (fun b o _ e => u.there b o e (by simp)) u.tups u.frzs u.tbls (fun m' hm => by
    obtain ⟨o', es', ep', ho', r'⟩ := hm
    rw [ho] at ho'; cases ho'
    exact ⟨_, es', ep', hL, r'⟩) hok I.bare
theorem Inv.call {g' : Array GenState} {t' : Nat} {d' : Drawn} {ch : List Addr} (I : Inv X pins σ H s) (u : Un (frs X.stack) ch H H' s.heap h') (hok : HOk X.prog X.w H' h') (hg : AllBare g')
    (hch : ∀ b ∈ ch, (b ∈ X.ex ∨ X.s₀.heap.objs.size ≤ b) ∧ b ≠ X.env.locals ∧ (∀ x c, X.env.cells.lookup x = some c → c ≠ b) ∧ ∀ p ∈ X.pn ++ pins, p.1 ≠ b) :
    Inv X pins σ H' { s with heap := h', gens := g', drawn := d', toks := t' } := by
  obtain ⟨m, ⟨o, es, ep, ho, r⟩, _⟩ := id I.loc
  obtain ⟨sl, hL⟩ := u.any ho I.free fun z => (hch _ z).2.1 rfl
  exact I.step (ch := ch) hch (fun b o hL hb hc e n => u.keep b o e n (fun z => (List.mem_cons.mp (I.stkSub b z)).elim hL hb) hc) (fun b o _ _ hc e n => u.any e n hc) (fun b o hc e n => u.free b o e n hc) (fun b o hc e => u.there b o e hc) u.tups u.frzs u.tbls (fun m' hm => by
    obtain ⟨o', es', ep', ho', r'⟩ := hm
    rw [ho] at ho'; cases ho'
    exact ⟨_, es', ep', hL, r'⟩) hok hg
theorem Inv.turned {t' : Nat} {it : Addr} (I : Inv X pins σ H s) (k : ∀ b o, b ≠ it → s.heap.get? b = some o → h'.get? b = some o) (hn : H it = none) (hL : it ≠ X.env.locals)
    (h1 : it ∈ X.ex ∨ X.s₀.heap.objs.size ≤ it) (h2 : ∀ x c, X.env.cells.lookup x = some c → c ≠ it) (h3 : ∀ p ∈ X.pn ++ pins, p.1 ≠ it) : Inv X pins σ H { s with heap := h', toks := t' } := by
  have nit : ∀ b u, H b = some u → b ≠ it := fun b u e z => by rw [z, hn] at e; cases e
  refine I.step (g' := s.gens) (d' := s.drawn) (ch := [it]) (fun b hb => ?_) (fun b o _ _ hc e _ => k b o (fun z => hc (by simp [z])) e) (fun b o _ _ hc e _ => ⟨o.slots, k b o (fun z => hc (by simp [z])) e⟩) (fun _ _ _ _ n => n)
    (fun b o hc e => ⟨o, k b o (fun z => hc (by simp [z])) e⟩) (fun _ _ e => e) (fun _ _ _ e => e) (fun b ps e => ⟨#[], by rw [e]; simp⟩) (fun m hm => ?_) (fun b u e => ?_) I.bare
  · have e : b = it := by simpa using hb
    subst e
    exact ⟨h1, hL, h2, h3⟩
  · obtain ⟨o, es, ep, ho, r⟩ := hm
    exact ⟨o, es, ep, k _ o (Ne.symm hL) ho, r⟩
  · refine (I.hok b u e).stay (fun c v hc q => k c v ?_ q) (fun _ q => q) fun _ _ q => q
    rcases hc with z | z
    · rw [z]; exact nit b u e
    · exact nit c _ z
theorem Inv.tok (I : Inv X pins σ H s) (t : Nat) : Inv X pins σ H { s with toks := t } := I.un (h' := s.heap) (t' := t) Un.refl I.hok
theorem Inv.kept {t' : Nat} (I : Inv X pins σ H s) (k : ∀ b u, s.heap.get? b = some u → h'.get? b = some u) : Inv X pins σ H { s with heap := h', toks := t' } := I.un (Un.kept k) (I.hok.kept k)
theorem Inv.laid {a : Addr} {o : HO} {t' : Nat} (I : Inv X pins σ H s) (k : ∀ b u, s.heap.get? b = some u → h'.get? b = some u) (hp : s.heap.objs.size ≤ a) (new : ObjOk X.prog X.w (upd H a o) h' a o) :
    Inv X pins σ (upd H a o) { s with heap := h', toks := t' } := I.un (Un.laid k hp (I.hok.fresh hp)) (I.hok.laid k hp new)
theorem Inv.write {x e : Addr} {o : HO} {t' : Nat} (I : Inv X pins σ H s) (mu : Mut (H x)) (he : e = x ∨ H e = some (.own x)) (k : ∀ b u, b ≠ e → s.heap.get? b = some u → h'.get? b = some u) (heo : ∃ u, h'.get? e = some u)
    (new : ObjOk X.prog X.w (upd H x o) h' x o) : Inv X pins σ (upd H x o) { s with heap := h', toks := t' } := I.un (Un.write mu he k heo) (I.hok.write mu he k heo new)
theorem Inv.pins_of {pins' : List (Addr × Obj)} (I : Inv X pins σ H s) (h : ∀ p ∈ pins', s.heap.get? p.1 = some p.2 ∧ H p.1 = none ∧ p.1 ≠ X.env.locals ∧ p.1 ∉ X.fs ∧ ∀ v, p.2.data ≠ .cell v) : Inv X pins' σ H s :=
  ⟨I.ok, I.os, I.bare, I.base, I.loc, I.cell, I.free, I.freeC, fun p hp => (List.mem_append.mp hp).elim (fun z => I.pin p (List.mem_append_left _ z)) (h p), I.hok, I.len⟩
theorem nodup_ix {N : List Str} (hN : N.Nodup) {i j : Nat} {x : Str} (a : N[i]? = some x) (b : N[j]? = some x) : i = j := by
  obtain ⟨h1, e1⟩ := List.getElem?_eq_some_iff.mp a
  obtain ⟨h2, e2⟩ := List.getElem?_eq_some_iff.mp b
  exact (List.getElem_inj hN).mp (e1.trans e2.symm)
theorem store_ok2 {M : Model} {A : Around} {E : Value → Shared → Prop} {i : Nat} {x : Str} {v : V} {u : Value} {Q : Unit → Shared → Prop} (I : Inv X pins σ H s) (hN : X.N.Nodup) (hi : X.N[i]? = some x) (hx : Loc X.env.scope x) (r : RelV v u)
    (h : ∀ s', Inv X pins (σ.set i (some v)) H s' → (∃ a, Heap.SameBut a s.heap s'.heap ∧ (a = X.env.locals ∨ X.env.cells.lookup x = some a)) → Q () s') (hf : X.fn x = true ∨ X.env.scope.names.lookup x = some .local := by first | exact .inl rfl | exact .inr rfl | assumption) : wpAny M A (storeName X.env x u) Q E s := by
  obtain ⟨m, hn, hl⟩ := id I.loc
  have hcls : (X.env.scope.kind == .class || (X.env.scope.kind == .module && X.env.locals != X.env.globals)) = false := by rw [I.ok.kind]; rfl
  have hiσ : i < σ.length := by rw [I.len]; exact (List.getElem?_eq_some_iff.mp hi).1
  have cne := I.cne
  have tracked : ∀ {a : Addr} {h' : Heap}, (∃ o, s.heap.get? a = some o ∧ H a = none) → Heap.SameBut a s.heap h' → HOk X.prog X.w H h' := fun {a h'} ha hs b ob e => by
    obtain ⟨_, _, hfree⟩ := ha
    refine (I.hok b ob e).stay (fun c w' hc q => (hs.2 c ?_).trans q) (fun _ q => q) fun _ _ q => q
    rintro rfl
    rcases hc with rfl | hc
    · rw [hfree] at e; cases e
    · rw [hfree] at hc; cases hc
  rcases hx with hk | hk
  · refine wpAny_storeName_local hk hn (fun h' hn' hs => ?_) hcls
    obtain ⟨oL, _, _, hoL, _⟩ := id hn
    refine h _ ⟨I.ok, I.os, I.bare, ⟨fun b o e n hb hx => ?_, fun b o e n hb hx => ?_, I.base.free, fun b o e hx => ?_, I.base.tups, I.base.frzs, I.base.tbls⟩, ⟨_, hn', fun j y v' e1 e2 e3 => ?_⟩, fun y c e => ?_, I.free, I.freeC, fun p hp => ?_, tracked ⟨oL, hoL, I.free⟩ hs, by simpa using I.len⟩ ⟨_, hs, .inl rfl⟩
    · exact (hs.2 b (Nat.ne_of_lt (Nat.lt_of_lt_of_le (Heap.lt_size e) I.ok.above))).trans (I.base.keep b o e n hb hx)
    · obtain ⟨sl, e1⟩ := I.base.slot b o e n hb hx
      exact ⟨sl, (hs.2 b (Nat.ne_of_lt (Nat.lt_of_lt_of_le (Heap.lt_size e) I.ok.above))).trans e1⟩
    · obtain ⟨o', e1⟩ := I.base.there b o e hx
      exact ⟨o', (hs.2 b (Nat.ne_of_lt (Nat.lt_of_lt_of_le (Heap.lt_size e) I.ok.above))).trans e1⟩
    · by_cases hj : j = i
      · subst hj
        rw [hi] at e1; cases e1
        rw [List.getElem?_set_self hiσ] at e2
        cases e2
        exact ⟨u, r, .inl ⟨hk, by simp⟩⟩
      · rw [List.getElem?_set_ne (Ne.symm hj)] at e2
        obtain ⟨u', r', q⟩ := hl j y v' e1 e2 e3
        refine ⟨u', r', ?_⟩
        rcases q with ⟨k, e⟩ | ⟨k, c, e, z⟩
        · refine .inl ⟨k, ?_⟩
          have : y ≠ x := fun e => hj (nodup_ix hN e1 (e ▸ hi))
          simp [this, e]
        · exact .inr ⟨k, c, e, z.sameBut hs (cne y c e)⟩
    · obtain ⟨w', z⟩ := I.cell y c e
      exact ⟨w', z.sameBut hs (cne y c e)⟩
    · obtain ⟨e, n, ne, nf, d⟩ := I.pin p hp
      exact ⟨(hs.2 p.1 ne).trans e, n, ne, nf, d⟩
  · have hfn : X.fn x = true := by
      rcases hf with z | z
      · exact z
      · rw [z] at hk; cases hk
    obtain ⟨c, hc⟩ := I.ok.has x (.inl hk)
    obtain ⟨w', z⟩ := I.cell x c hc
    refine wpAny_storeName_cell I.ok.kind hk hc z (fun h' hc' hs => ?_)
    obtain ⟨oc, hoc, hocd⟩ := id z
    refine h { s with heap := h' } ⟨I.ok, I.os, I.bare, ⟨fun b o e n hb hx => ?_, fun b o e n hb hx => ?_, I.base.free, fun b o e hx => ?_, I.base.tups, I.base.frzs, I.base.tbls⟩, ⟨m, hn.sameBut hs (Ne.symm (cne x c hc)), fun j y v' e1 e2 e3 => ?_⟩, fun y c' e => ?_, I.free, I.freeC, fun p hp => ?_, tracked ⟨oc, hoc, I.freeC x c hc⟩ hs, by simpa using I.len⟩ ⟨c, hs, .inr hc⟩
    · exact (hs.2 b (Nat.ne_of_lt (Nat.lt_of_lt_of_le (Heap.lt_size e) (I.ok.cab x c hfn hc)))).trans (I.base.keep b o e n hb hx)
    · obtain ⟨sl, e1⟩ := I.base.slot b o e n hb hx
      exact ⟨sl, (hs.2 b (Nat.ne_of_lt (Nat.lt_of_lt_of_le (Heap.lt_size e) (I.ok.cab x c hfn hc)))).trans e1⟩
    · obtain ⟨o', e1⟩ := I.base.there b o e hx
      exact ⟨o', (hs.2 b (Nat.ne_of_lt (Nat.lt_of_lt_of_le (Heap.lt_size e) (I.ok.cab x c hfn hc)))).trans e1⟩
    · by_cases hj : j = i
      · subst hj
        rw [hi] at e1; cases e1
        rw [List.getElem?_set_self hiσ] at e2
        cases e2
        exact ⟨u, r, .inr ⟨.inl hk, c, hc, hc'⟩⟩
      · rw [List.getElem?_set_ne (Ne.symm hj)] at e2
        obtain ⟨u', r', q⟩ := hl j y v' e1 e2 e3
        refine ⟨u', r', ?_⟩
        rcases q with q | ⟨k, c', e, z'⟩
        · exact .inl q
        · refine .inr ⟨k, c', e, z'.sameBut hs ?_⟩
          rintro rfl
          exact hj (nodup_ix hN e1 (I.ok.inj _ _ _ e hc ▸ hi))
    · by_cases hcc : c' = c
      · subst hcc; exact ⟨_, hc'⟩
      · obtain ⟨w2, z2⟩ := I.cell y c' e
        exact ⟨w2, z2.sameBut hs hcc⟩
    · obtain ⟨e, n, ne, nf, d⟩ := I.pin p hp
      refine ⟨(hs.2 p.1 ?_).trans e, n, ne, nf, d⟩
      intro q
      rw [q, hoc] at e
      have q' : oc = p.2 := Option.some.inj e
      exact d w' (by rw [← q']; exact hocd)
theorem store_ok {M : Model} {A : Around} {E : Value → Shared → Prop} {i : Nat} {x : Str} {v : V} {u : Value} {Q : Unit → Shared → Prop} (I : Inv X pins σ H s) (hN : X.N.Nodup) (hi : X.N[i]? = some x) (hx : Loc X.env.scope x) (r : RelV v u)
    (h : ∀ s', Inv X pins (σ.set i (some v)) H s' → Q () s') (hf : X.fn x = true ∨ X.env.scope.names.lookup x = some .local := by first | exact .inl rfl | exact .inr rfl | assumption) : wpAny M A (storeName X.env x u) Q E s :=
  store_ok2 I hN hi hx r (fun s' I' _ => h s' I') hf
theorem Inv.call' {s' : Shared} {ch : List Addr} (I : Inv X pins σ H s) (ho : s'.os = s.os) (u : Un (frs X.stack) ch H H' s.heap s'.heap) (hok : HOk X.prog X.w H' s'.heap) (hg : AllBare s'.gens)
    (hch : ∀ b ∈ ch, (b ∈ X.ex ∨ X.s₀.heap.objs.size ≤ b) ∧ b ≠ X.env.locals ∧ (∀ x c, X.env.cells.lookup x = some c → c ≠ b) ∧ ∀ p ∈ X.pn ++ pins, p.1 ≠ b) : Inv X pins σ H' s' := by
  obtain ⟨h', g', d', t', o'⟩ := s'
  have e : o' = s.os := ho
  subst e
  exact I.call (g' := g') (t' := t') (d' := d') u hok hg hch
end
abbrev XK := Value → Option Addr → Hp → Prop
abbrev St := List (Option V)
abbrev VK := V → Hp → Prop
abbrev TE := St → Hp → VK → Prop
abbrev TT := St → Hp → (Bool → Hp → Prop) → Prop
abbrev TA := St → Hp → (List V → Hp → Prop) → Prop
structure Ends where
  nx : St → Hp → Prop
  rt : VK
  bk : St → Hp → Prop := fun _ _ => False
  ct : St → Hp → Prop := fun _ _ => False
abbrev TS := Ends → St → Hp → Prop
def EP (X : Cx) (pins : List (Addr × Obj)) (σ : St) (Q : VK) (u : Value) (s' : Shared) : Prop := ∃ v H', Inv X pins σ H' s' ∧ RelV v u ∧ Q v H'
def TP (X : Cx) (pins : List (Addr × Obj)) (σ : St) (Q : Bool → Hp → Prop) (b : Bool) (s' : Shared) : Prop := ∃ H', Inv X pins σ H' s' ∧ Q b H'
def AP (X : Cx) (pins : List (Addr × Obj)) (σ : St) (Q : List V → Hp → Prop) (us : List Value) (s' : Shared) : Prop := ∃ vs H', Inv X pins σ H' s' ∧ Vals vs us ∧ Q vs H'
def SP (X : Cx) (pins : List (Addr × Obj)) (D : Ends) (f : Flow) (s' : Shared) : Prop :=
  match f with
  | .next => ∃ σ' H', Inv X pins σ' H' s' ∧ D.nx σ' H'
  | .brk => ∃ σ' H', Inv X pins σ' H' s' ∧ D.bk σ' H'
  | .cont => ∃ σ' H', Inv X pins σ' H' s' ∧ D.ct σ' H'
  | .ret u => ∃ v σ' H', Inv X pins σ' H' s' ∧ RelV v u ∧ D.rt v H'
def PE (X : Cx) (e : Expr) (t : TE) : Prop :=
  ∀ (pins : List (Addr × Obj)) (s : Shared) (σ : St) (H : Hp) (Q : VK), Inv X pins σ H s → t σ H Q → wpAny (model X.prog X.w) X.A (eval e X.env) (EP X pins σ Q) X.xe s
def PT (X : Cx) (e : Expr) (t : TT) : Prop :=
  ∀ (pins : List (Addr × Obj)) (s : Shared) (σ : St) (H : Hp) (Q : Bool → Hp → Prop), Inv X pins σ H s → t σ H Q → wpAny (model X.prog X.w) X.A (isTrue e X.env (eval e X.env)) (TP X pins σ Q) X.xe s
def PW (X : Cx) (e : Expr) (t : TT) : Prop :=
  ∀ (whole : Sem Value) (pins : List (Addr × Obj)) (s : Shared) (σ : St) (H : Hp) (Q : Bool → Hp → Prop), Inv X pins σ H s → t σ H Q → wpAny (model X.prog X.w) X.A (isTrue e X.env whole) (TP X pins σ Q) X.xe s
theorem PW.pt {X : Cx} {e : Expr} {t : TT} (h : PW X e t) : PT X e t := h _
def PA (X : Cx) (es : List Expr) (t : TA) : Prop :=
  ∀ (pos : Pos) (pins : List (Addr × Obj)) (s : Shared) (σ : St) (H : Hp) (Q : List V → Hp → Prop), Inv X pins σ H s → t σ H Q → wpAny (model X.prog X.w) X.A (spliced (backTo pos (starEach es X.env))) (AP X pins σ Q) X.xe s
def PS (X : Cx) (st : Stmt) (t : TS) : Prop :=
  ∀ (pins : List (Addr × Obj)) (s : Shared) (σ : St) (H : Hp) (D : Ends), Inv X pins σ H s → t D σ H → wpAny (model X.prog X.w) X.A (exec st X.env) (SP X pins D) X.xe s
def PSs (X : Cx) (st : List Stmt) (t : TS) : Prop :=
  ∀ (pins : List (Addr × Obj)) (s : Shared) (σ : St) (H : Hp) (D : Ends), Inv X pins σ H s → t D σ H → wpAny (model X.prog X.w) X.A (execs st X.env) (SP X pins D) X.xe s
theorem thn {α : Type} {t : Sem α} {Q Q' : α → Shared → Prop} {M : Model} {A : Around} {E : Value → Shared → Prop} {s : Shared} (h : wpAny M A t Q E s) (hQ : ∀ a s, Q a s → Q' a s) : wpAny M A t Q' E s := wpAny_mono h hQ fun _ _ x => x
end L2
namespace L2
open PySem PySem.Spec PyProof.Rows
section
variable {X : Cx}
def tVar (i : Nat) : TE := fun σ H Q => ∃ v, σ[i]? = some (some v) ∧ Q v H
def tC (v : V) : TE := fun _ H Q => Q v H
theorem pe_var {i : Nat} {x : Str} {pos : Pos} (hN : X.N[i]? = some x) (hv : Vis X.env.scope x) (hd : (x == ("__debug__" : Str)) = false := by decide) (hcd : (x == ("__classdict__" : Str)) = false := by decide) : PE X (.Name x pos) (tVar i) := by
  intro pins s σ H Q I h
  obtain ⟨v, e, h⟩ := h
  obtain ⟨m, hn, hl⟩ := I.loc
  obtain ⟨u, r, l⟩ := hl i x v hN e hv
  have fin : EP X pins σ Q u s := ⟨v, H, I, r, h⟩
  rcases l with ⟨hk, hm⟩ | ⟨hk, c, hc, hcell⟩
  · exact wpAny_Name (wpAny_loadName_local I.ok.kind hk hn hm fin) hd
  · rcases hk with hk | hk
    · exact wpAny_Name (wpAny_loadName_cell I.ok.kind hk hc hcell fin) hd
    · exact wpAny_Name (wpAny_loadName_free I.ok.kind hk hc hcell fin hcd) hd
theorem pe_int {i j pos} : PE X (.Constant (.int i) j pos) (tC (.int i)) := fun _ _ _ H _ I h => wpAny_Constant_int ⟨.int i, H, I.tok _, ⟨_, rfl⟩, h⟩
theorem pe_bl {b j pos} : PE X (.Constant (.bool b) j pos) (tC (.bl b)) := fun _ _ _ H _ I h => Constant_bool ⟨.bl b, H, I, rfl, h⟩
theorem pe_non {j pos} : PE X (.Constant .none j pos) (tC .non) := fun _ _ _ H _ I h => Constant_none ⟨.non, H, I, rfl, h⟩
def Gl (X : Cx) (x : Str) : Prop := X.env.kindOf x = some .globalImplicit
theorem ld_glob {E : Value → Shared → Prop} {pins : List (Addr × Obj)} {s : Shared} {σ : St} {H : Hp} {x : Str} {u : Value} {pos : Pos} {Q : Value → Shared → Prop} (I : Inv X pins σ H s) (hg : Gl X x) (hm : X.mg x = some u) (h : Q u s)
    (hd : (x == ("__debug__" : Str)) = false := by decide) : wpAny (model X.prog X.w) X.A (eval (.Name x pos) X.env) Q E s :=
  Calls.Name_function_global I.ok.kind hg (Calls.loadGlobal_global (by rw [I.ok.glob]; exact I.mod.glob.keeps I.bk) hm h) hd
theorem ld_blt {E : Value → Shared → Prop} {pins : List (Addr × Obj)} {s : Shared} {σ : St} {H : Hp} {x : Str} {u : Value} {pos : Pos} {Q : Value → Shared → Prop} (I : Inv X pins σ H s) (hg : Gl X x) (hm : X.mg x = none) (hv : bootBuiltins x = some u) (h : Q u s)
    (hn : x ≠ "__name__" := by decide) (hd : (x == ("__debug__" : Str)) = false := by decide) : wpAny (model X.prog X.w) X.A (eval (.Name x pos) X.env) Q E s := by
  obtain ⟨mb, h1, h2⟩ := I.mod.blt
  exact Calls.Name_function_global I.ok.kind hg (Calls.loadGlobal_builtin (by rw [I.ok.glob]; exact I.mod.glob.keeps I.bk) hm (by rw [I.ok.blt]; exact h1.keeps I.bk) ((h2 x hn).trans hv) h) hd
theorem pe_glob {x : Str} {v : V} {u : Value} {pos : Pos} (hg : Gl X x) (hm : X.mg x = some u) (r : RelV v u) (hd : (x == ("__debug__" : Str)) = false := by decide) : PE X (.Name x pos) (tC v) :=
  fun _ _ _ H _ I h => ld_glob I hg hm ⟨v, H, I, r, h⟩ hd
theorem pe_bltn {x : Str} {v : V} {u : Value} {pos : Pos} (hg : Gl X x) (hm : X.mg x = none) (hv : bootBuiltins x = some u) (r : RelV v u) (hn : x ≠ "__name__" := by decide) (hd : (x == ("__debug__" : Str)) = false := by decide) : PE X (.Name x pos) (tC v) :=
  fun _ _ _ H _ I h => ld_blt I hg hm hv ⟨v, H, I, r, h⟩ hn hd
variable {a b : Expr} {ta tb : TE} {pos : Pos}
def PC (X : Cx) (op : CmpOp) (a b : Expr) (t : TE) : Prop :=
  ∀ (pins : List (Addr × Obj)) (s : Shared) (σ : St) (H : Hp) (Q : VK), Inv X pins σ H s → t σ H Q →
    wpAny (model X.prog X.w) X.A (eval a X.env) (fun v s₁ => wpAny (model X.prog X.w) X.A (eval b X.env) (fun u s₂ => wpAny (model X.prog X.w) X.A (compareOp op v u) (EP X pins σ Q) X.xe s₂) X.xe s₁) X.xe s
def tB (t : TE) : TT := fun σ H Q => t σ H fun x H1 => ∃ c, x = .bl c ∧ Q c H1
theorem pt_cmp {op : CmpOp} {t : TE} (h : PC X op a b t) (h1 : behindInMarks op b = false := by first | exact nobehind _ (by decide) (by decide) | rfl) : PT X (.Compare a [op] [b] pos) (tB t) := by
  intro pins s σ H Q I hw
  refine wpAny_isTrue_Compare1 (thn (h pins s σ H _ I hw) fun v s1 h1 => thn h1 fun u s2 h2 => thn h2 fun c s3 ⟨x, H1, I1, r1, q1⟩ => ?_) h1
  obtain ⟨d, rfl, q⟩ := q1
  cases r1
  exact wpAny_truthy_bool ⟨H1, I1, q⟩
theorem pt_val {e : Expr} {t : TE} (h : PE X e t) (he : ∀ whole, isTrue e X.env whole = (do let v ← whole; standAt e.pos; holding [v] (truthy v)) := by intro _; rfl) : PT X e (tB t) := by
  intro pins s σ H Q I hw
  refine isTrue_plain (thn (h pins s σ H _ I hw) fun v s1 ⟨x, H1, I1, r1, q1⟩ => ?_) (he _)
  obtain ⟨d, rfl, q⟩ := q1
  cases r1
  exact wpAny_truthy_bool ⟨H1, I1, q⟩
variable {tA tB' : TT} {rest : List Expr}
def tAnd (t u : TT) : TT := fun σ H Q => t σ H fun c H1 => if c = true then u σ H1 Q else Q false H1
def tOr (t u : TT) : TT := fun σ H Q => t σ H fun c H1 => if c = true then Q true H1 else u σ H1 Q
def tNot (t : TT) : TT := fun σ H Q => t σ H fun c H1 => Q (!c) H1
theorem pw_and1 (ha : PT X a tA) : PW X (.BoolOp .And [a] pos) tA := by
  intro wh pins s σ H Q I h
  refine isTrue_and (thn (ha pins s σ H Q I h) fun c s1 e => ?_)
  cases c with
  | true => exact isTrue_and_nil e
  | false => exact e
theorem pw_or1 (ha : PT X a tA) : PW X (.BoolOp .Or [a] pos) tA := by
  intro wh pins s σ H Q I h
  refine isTrue_or (thn (ha pins s σ H Q I h) fun c s1 e => ?_)
  cases c with
  | false => exact isTrue_or_nil e
  | true => exact e
theorem pw_and (ha : PT X a tA) (hb : PW X (.BoolOp .And (b :: rest) pos) tB') : PW X (.BoolOp .And (a :: b :: rest) pos) (tAnd tA tB') := by
  intro wh pins s σ H Q I h
  refine isTrue_and (thn (ha pins s σ H _ I h) fun c s1 ⟨H1, I1, q1⟩ => ?_)
  cases c with
  | true => exact hb wh pins s1 σ H1 Q I1 q1
  | false => exact ⟨H1, I1, q1⟩
theorem pw_or (ha : PT X a tA) (hb : PW X (.BoolOp .Or (b :: rest) pos) tB') : PW X (.BoolOp .Or (a :: b :: rest) pos) (tOr tA tB') := by
  intro wh pins s σ H Q I h
  refine isTrue_or (thn (ha pins s σ H _ I h) fun c s1 ⟨H1, I1, q1⟩ => ?_)
  cases c with
  | true => exact ⟨H1, I1, q1⟩
  | false => exact hb wh pins s1 σ H1 Q I1 q1
theorem pt_not (ha : PT X a tA) : PT X (.UnaryOp .Not a pos) (tNot tA) := by
  intro pins s σ H Q I h
  exact isTrue_not (ha pins s σ H (fun c H1 => Q (!c) H1) I h)
def tAndV (ta tb : TE) : TE := fun σ H Q => ta σ H fun x H1 => ∃ c, x = .bl c ∧ if c = true then tb σ H1 Q else Q (.bl false) H1
def tOrV (ta tb : TE) : TE := fun σ H Q => ta σ H fun x H1 => ∃ c, x = .bl c ∧ if c = true then Q (.bl true) H1 else tb σ H1 Q
def tNotV (ta : TE) : TE := fun σ H Q => ta σ H fun x H1 => ∃ c, x = .bl c ∧ Q (.bl (!c)) H1
theorem pe_one {op} {t : TE} (h : PE X a t) : PE X (.BoolOp op [a] pos) t := fun pins s σ H Q I hw => BoolOp_one (h pins s σ H Q I hw)
theorem pe_and (ha : PE X a ta) (hb : PE X (.BoolOp .And (b :: rest) pos) tb) : PE X (.BoolOp .And (a :: b :: rest) pos) (tAndV ta tb) := by
  intro pins s σ H Q I h
  refine BoolOp_and (thn (ha pins s σ H _ I h) fun v s1 ⟨x, H1, I1, r1, q1⟩ => ?_)
  obtain ⟨c, rfl, q1⟩ := q1
  cases r1
  refine wpAny_truthy_bool ?_
  cases c with
  | true => exact hb pins s1 σ H1 Q I1 q1
  | false => exact ⟨.bl false, H1, I1, rfl, q1⟩
theorem pe_or (ha : PE X a ta) (hb : PE X (.BoolOp .Or (b :: rest) pos) tb) : PE X (.BoolOp .Or (a :: b :: rest) pos) (tOrV ta tb) := by
  intro pins s σ H Q I h
  refine BoolOp_or (thn (ha pins s σ H _ I h) fun v s1 ⟨x, H1, I1, r1, q1⟩ => ?_)
  obtain ⟨c, rfl, q1⟩ := q1
  cases r1
  refine wpAny_truthy_bool ?_
  cases c with
  | false => exact hb pins s1 σ H1 Q I1 q1
  | true => exact ⟨.bl true, H1, I1, rfl, q1⟩
theorem pe_not (ha : PE X a ta) : PE X (.UnaryOp .Not a pos) (tNotV ta) := by
  intro pins s σ H Q I h
  refine UnaryOp_ (thn (ha pins s σ H _ I h) fun v s1 ⟨x, H1, I1, r1, q1⟩ => ?_)
  obtain ⟨c, rfl, q1⟩ := q1
  cases r1
  exact not_of (wpAny_truthy_bool ⟨.bl (!c), H1, I1, rfl, q1⟩)
end
end L2
namespace L2
open PySem PySem.Spec PyProof.Rows
def SqL (K : PySem.W.Frag) (H : Hp) (a : Addr) (xs : List V) : Prop :=
  Rd H a (.lst xs) ∨
    ∃ (o : Obj) (its : Array Value) (n : Nat), K.lookup a = some o ∧ o.cls = .type "list" ∧ o.dict = none ∧ o.data = .seq its n ∧ its.size ≤ sizeLine ∧ Vals xs its.toList
def SqT (K : PySem.W.Frag) (H : Hp) (a : Addr) (xs : List V) : Prop :=
  Rd H a (.tup xs) ∨
    ∃ (o : Obj) (its : Array Value) (n : Nat), K.lookup a = some o ∧ o.cls = .type "tuple" ∧ o.data = .seq its n ∧ its.size ≤ sizeLine ∧ Vals xs its.toList
def absV : Value → Option V
  | .none => some .non
  | .bool b => some (.bl b)
  | .int i _ => some (.int i)
  | .str x _ => some (.str x)
  | .bytes b _ => some (.byt b)
  | .float b _ => some (.flt b)
  | .ref a => some (.ref a)
  | .type n => some (.ty n)
  | _ => none
theorem RelV.abs {x : V} {u : Value} (r : RelV x u) : absV u = some x := by
  cases x with
  | non => cases r; rfl
  | bl _ => cases r; rfl
  | int _ => obtain ⟨t, rfl⟩ := r; rfl
  | str _ => obtain ⟨t, rfl⟩ := r; rfl
  | byt _ => obtain ⟨t, rfl⟩ := r; rfl
  | flt _ => obtain ⟨t, rfl⟩ := r; rfl
  | ref _ => cases r; rfl
  | ty _ => cases r; rfl
theorem RelV.inj {x y : V} {u : Value} (r : RelV x u) (q : RelV y u) : x = y := Option.some.inj (r.abs.symm.trans q.abs)
theorem Vals.inj : ∀ {xs ys : List V} {us : List Value}, Vals xs us → Vals ys us → xs = ys
  | _, _, _, .nil, .nil => rfl
  | _, _, _, .cons r t, .cons r' t' => by rw [r.inj r', Vals.inj t t']
section
variable {X : Cx} {pins : List (Addr × Obj)} {σ : St} {H : Hp} {s : Shared} {a : Addr} {xs ys : List V}
theorem SqL.of {K : PySem.W.Frag} (h : H a = some (.lst xs)) : SqL K H a xs := .inl (.inl h)
theorem SqT.of {K : PySem.W.Frag} (h : H a = some (.tup xs)) : SqT K H a xs := .inl (.inl h)
theorem Inv.list (I : Inv X pins σ H s) (h : SqL X.K H a xs) : ∃ its : List Value, Vals xs its ∧ PlainL s.heap a its.toArray ∧ xs.length ≤ sizeLine := by
  rcases h with h | ⟨o, its, n, hk, hc, hd, hs, hz, r⟩
  · obtain ⟨z, its, n, r, e⟩ := h.ok I.hok
    exact ⟨its, r, ⟨_, n, e, rfl, rfl, rfl⟩, z⟩
  · refine ⟨its.toList, r, ⟨o, n, I.kIn a o hk, hc, hd, by simpa using hs⟩, ?_⟩
    have e := r.length
    simp only [Array.length_toList] at e
    omega
theorem Inv.tuple (I : Inv X pins σ H s) (h : SqT X.K H a xs) : ∃ its : List Value, Vals xs its ∧ IsTup s.heap a its.toArray ∧ xs.length ≤ sizeLine := by
  rcases h with h | ⟨o, its, n, hk, hc, hs, hz, r⟩
  · obtain ⟨z, its, r, p⟩ := h.ok I.hok
    exact ⟨its, r, p, z⟩
  · refine ⟨its.toList, r, ⟨o, I.kIn a o hk, hc, n, by simpa using hs⟩, ?_⟩
    have e := r.length
    simp only [Array.length_toList] at e
    omega
theorem Inv.list_inj (I : Inv X pins σ H s) (h : SqL X.K H a xs) (h' : SqL X.K H a ys) : xs = ys := by
  obtain ⟨its, r, ⟨o, n, e, _, _, d⟩, _⟩ := I.list h
  obtain ⟨its', r', ⟨o', n', e', _, _, d'⟩, _⟩ := I.list h'
  rw [e] at e'; cases e'
  rw [d] at d'
  injection d' with d1 _
  have : its = its' := by simpa using congrArg Array.toList d1
  subst this
  exact r.inj r'
theorem Inv.tuple_inj (I : Inv X pins σ H s) (h : SqT X.K H a xs) (h' : SqT X.K H a ys) : xs = ys := by
  obtain ⟨its, r, ⟨o, e, _, n, d⟩, _⟩ := I.tuple h
  obtain ⟨its', r', ⟨o', e', _, n', d'⟩, _⟩ := I.tuple h'
  rw [e] at e'; cases e'
  rw [d] at d'
  injection d' with d1 _
  have : its = its' := by simpa using congrArg Array.toList d1
  subst this
  exact r.inj r'
end
abbrev Cx.wish (X : Cx) (E : Value → Shared → Prop) : Cx := { X with xe := E }
abbrev Cx.nox (X : Cx) : Cx := X.wish fun _ _ => False
theorem Cx.Ok.wish {X : Cx} (ok : X.Ok) (E : Value → Shared → Prop) : (X.wish E).Ok :=
  ⟨ok.mod, ok.kind, ok.glob, ok.blt, ok.above, ok.inj, ok.has, ok.cab, ok.hd, ok.frames, ok.stk, ok.exf, ok.bs, ok.bsz, ok.noex, ok.exfs, ok.funs, ok.frf⟩
theorem Cx.Ok.unwish {X : Cx} {E : Value → Shared → Prop} (ok : (X.wish E).Ok) : X.Ok :=
  ⟨ok.mod, ok.kind, ok.glob, ok.blt, ok.above, ok.inj, ok.has, ok.cab, ok.hd, ok.frames, ok.stk, ok.exf, ok.bs, ok.bsz, ok.noex, ok.exfs, ok.funs, ok.frf⟩
section
variable {X : Cx} {pins : List (Addr × Obj)} {σ : St} {H : Hp} {s : Shared} {E : Value → Shared → Prop}
theorem Inv.wish (I : Inv X pins σ H s) (E : Value → Shared → Prop) : Inv (X.wish E) pins σ H s := ⟨I.ok.wish E, I.os, I.bare, I.base, I.loc, I.cell, I.free, I.freeC, I.pin, I.hok, I.len⟩
theorem Inv.unwish (I : Inv (X.wish E) pins σ H s) : Inv X pins σ H s := ⟨I.ok.unwish, I.os, I.bare, I.base, I.loc, I.cell, I.free, I.freeC, I.pin, I.hok, I.len⟩
theorem SP.unwish {D : Ends} {f : Flow} {s' : Shared} (h : SP (X.wish E) pins D f s') : SP X pins D f s' := by
  cases f with
  | next => obtain ⟨σ', H', I, q⟩ := h; exact ⟨σ', H', I.unwish, q⟩
  | brk => obtain ⟨σ', H', I, q⟩ := h; exact ⟨σ', H', I.unwish, q⟩
  | cont => obtain ⟨σ', H', I, q⟩ := h; exact ⟨σ', H', I.unwish, q⟩
  | ret u => obtain ⟨v, σ', H', I, r, q⟩ := h; exact ⟨v, σ', H', I.unwish, r, q⟩
theorem PSs.nox {st : List Stmt} {t : TS} (h : PSs X.nox st t) : PSs X st t := fun pins s σ H D I hw =>
  wpAny_mono (h pins s σ H D (I.wish _) hw) (fun _ _ q => q.unwish) fun _ _ z => False.elim z
end
section
variable {X : Cx} {st : Stmt} {rest : List Stmt} {t u : TS} {e : Expr} {te : TE} {pos : Pos}
def tNext : TS := fun D σ H => D.nx σ H
def tSeq (t u : TS) : TS := fun D σ H => t { D with nx := u D } σ H
theorem pss_nil : PSs X [] tNext := fun _ _ σ H _ I h => wpAny_execs_nil ⟨σ, H, I, h⟩
theorem pss_cons (h1 : PS X st t) (h2 : PSs X rest u) : PSs X (st :: rest) (tSeq t u) := by
  intro pins s σ H D I h
  refine wpAny_execs_cons (thn (h1 pins s σ H { D with nx := u D } I h) fun f s1 q => ?_)
  cases f with
  | next =>
    obtain ⟨σ', H', I', q⟩ := q
    exact h2 pins s1 σ' H' D I' q
  | ret v => exact q
  | brk => exact q
  | cont => exact q
theorem pss_one (h1 : PS X st t) : PSs X [st] t := by
  intro pins s σ H D I h
  refine wpAny_execs_cons (thn (h1 pins s σ H D I h) fun f s1 q => ?_)
  cases f with
  | next => exact wpAny_execs_nil q
  | ret v => exact q
  | brk => exact q
  | cont => exact q
theorem Inv.quiet {pins : List (Addr × Obj)} {σ : St} {H : Hp} {s : Shared} (I : Inv X pins σ H s) : interactive X.env = false := by simp [interactive, I.ok.kind]
def tDrop (te : TE) : TS := fun D σ H => te σ H fun _ H1 => D.nx σ H1
theorem ps_expr (he : PE X e te) (hs : swapsWith e none pos.line X.env = pure false := by rfl) : PS X (.Expr e pos) (tDrop te) := by
  intro pins s σ H D I h
  exact wpAny_Expr_any (thn (he pins s σ H _ I h) fun v s1 ⟨x, H1, I1, r1, q1⟩ => ⟨σ, H1, I1, q1⟩) I.quiet hs
def tRet (te : TE) : TS := fun D σ H => te σ H D.rt
theorem ps_ret (he : PE X e te) : PS X (.Return (some e) pos) (tRet te) := by
  intro pins s σ H D I h
  exact wpAny_Return_some (thn (he pins s σ H _ I h) fun v s1 ⟨x, H1, I1, r1, q1⟩ => ⟨x, σ, H1, I1, r1, q1⟩)
def tIfS (c : TT) (t u : TS) : TS := fun D σ H => c σ H fun b H1 => if b = true then t D σ H1 else u D σ H1
theorem ps_if {c : Expr} {a b : List Stmt} {tc : TT} (hc : PT X c tc) (ha : PSs X a t) (hb : PSs X b u) : PS X (.If c a b pos) (tIfS tc t u) := by
  intro pins s σ H D I h
  refine wpAny_If (thn (hc pins s σ H _ I h) fun d s1 ⟨H1, I1, q1⟩ => ?_)
  cases d with
  | true => exact ha pins s1 σ H1 D I1 q1
  | false => exact hb pins s1 σ H1 D I1 q1
end
abbrev TG := V → St → Hp → (St → Hp → Prop) → Prop
abbrev TGs := List V → St → Hp → (St → Hp → Prop) → Prop
def PG (X : Cx) (target : Expr) (t : TG) : Prop :=
  ∀ (pins : List (Addr × Obj)) (s : Shared) (σ : St) (H : Hp) (v : V) (u : Value) (Q : St → Hp → Prop), Inv X pins σ H s → RelV v u → t v σ H Q →
    wpAny (model X.prog X.w) X.A (assign target X.env u) (fun _ s' => ∃ σ' H', Inv X pins σ' H' s' ∧ Q σ' H') X.xe s
def PGs (X : Cx) (ts : List Expr) (t : TGs) : Prop :=
  ∀ (pins : List (Addr × Obj)) (s : Shared) (σ : St) (H : Hp) (vs : List V) (us : List Value) (Q : St → Hp → Prop), Inv X pins σ H s → Vals vs us → t vs σ H Q →
    wpAny (model X.prog X.w) X.A (assignInOrder ((assignEach ts X.env).map (·.2)) us) (fun _ s' => ∃ σ' H', Inv X pins σ' H' s' ∧ Q σ' H') X.xe s
abbrev TSet := V → V → V → Hp → (Hp → Prop) → Prop
def PSet (X : Cx) (t : TSet) : Prop :=
  ∀ (pins : List (Addr × Obj)) (s : Shared) (σ : St) (H : Hp) (o i v : V) (ov iv u : Value) (Q : Hp → Prop), Inv X pins σ H s → RelV o ov → RelV i iv → RelV v u → t o i v H Q →
    wpAny (model X.prog X.w) X.A (setItem ov iv u) (fun _ s' => ∃ H', Inv X pins σ H' s' ∧ Q H') X.xe s
section
variable {X : Cx} {pos : Pos}
def gName (i : Nat) : TG := fun v σ H Q => Q (σ.set i (some v)) H
theorem pg_name {i : Nat} {x : Str} (hN : X.N.Nodup) (hi : X.N[i]? = some x) (hx : Loc X.env.scope x) (hf : X.fn x = true ∨ X.env.scope.names.lookup x = some .local := by first | exact .inl rfl | exact .inr rfl | assumption) : PG X (.Name x pos) (gName i) := by
  intro pins s σ H v u Q I r h
  exact wpAny_assign_Name (store_ok I hN hi hx r (fun s' I' => ⟨_, H, I', h⟩) hf)
def gNil : TGs := fun vs σ H Q => vs = [] ∧ Q σ H
def gCons (t : TG) (u : TGs) : TGs := fun vs σ H Q => ∃ v r, vs = v :: r ∧ t v σ H fun σ' H' => u r σ' H' Q
theorem pgs_nil : PGs X [] gNil := by
  intro pins s σ H vs us Q I r h
  obtain ⟨e, h⟩ := h
  subst e
  cases r
  exact assignInOrder_nil ⟨σ, H, I, h⟩
theorem pgs_cons {e : Expr} {es : List Expr} {t : TG} {u : TGs} (h1 : PG X e t) (h2 : PGs X es u)
    (hs : (assignEach (e :: es) X.env).map (·.2) = assign e X.env :: (assignEach es X.env).map (·.2) := by rfl) : PGs X (e :: es) (gCons t u) := by
  intro pins s σ H vs us Q I r h
  obtain ⟨v, vr, e1, h⟩ := h
  subst e1
  cases r with
  | cons r rr =>
    rw [hs]
    refine assignInOrder_cons (thn (h1 pins s σ H _ _ _ I r h) fun _ s1 ⟨σ1, H1, I1, q1⟩ => ?_)
    exact h2 pins s1 σ1 H1 _ _ Q I1 rr q1
def gTup (K : PySem.W.Frag) (n : Nat) (t : TGs) : TG := fun v σ H Q => ∃ a xs, v = .ref a ∧ SqT K H a xs ∧ xs.length = n ∧ t xs σ H Q
theorem pg_tup {es : List Expr} {k : Nat} {t : TGs} {n : Nat} (hc : X.calm = true) (h : PGs X es t)
    (hn : (assignEach es X.env).length = n := by rfl) (hst : (assignEach es X.env).findIdx? (·.1) = none := by rfl) : PG X (.Tuple es k pos) (gTup X.K n t) := by
  intro pins s σ H v u Q I r hw
  obtain ⟨a, xs, e1, hq, hl, hw⟩ := hw
  subst e1
  cases r
  obtain ⟨its, rv, ht, hz⟩ := I.tuple hq
  refine assign_Tuple_tuple (I.ok.hd hc) ht (by simp [hn, ← hl, rv.length]) hst fun h' hx => ?_
  have I1 : Inv X pins σ H { s with heap := h' } := I.kept (t' := s.toks) fun b o e => hx b o (Nat.ne_of_lt (Heap.lt_size e)) e
  exact h pins _ σ H xs _ Q I1 (by simpa using rv) hw
def gSub (to ti : TE) (t : TSet) : TG := fun v σ H Q => to σ H fun o H1 => ti σ H1 fun i H2 => t o i v H2 fun H3 => Q σ H3
theorem pg_sub {o i : Expr} {to ti : TE} {t : TSet} (ho : PE X o to) (hi : PE X i ti) (hs : PSet X t)
    (ha : ∀ v, assign (.Subscript o i pos) X.env v = (do
      let ov ← holding [v] (eval o X.env)
      let iv ← holding [v, ov] (eval i X.env)
      standAt pos
      holding [v, ov, iv] (setItem ov iv v)
      release [v, ov, iv] []) := by intro _; rfl) : PG X (.Subscript o i pos) (gSub to ti t) := by
  intro pins s σ H v u Q I r h
  rw [ha]
  refine wpAny_bind (wpAny_holding (thn (ho pins s σ H _ I h) fun ov s1 ⟨x, H1, I1, r1, q1⟩ => ?_))
  refine wpAny_bind (wpAny_holding (thn (hi pins s1 σ H1 _ I1 q1) fun iv s2 ⟨y, H2, I2, r2, q2⟩ => ?_))
  refine wpAny_bind (wpAny_standAt (wpAny_bind (wpAny_holding (thn (hs pins s2 σ H2 x y v ov iv u _ I2 r1 r2 r q2) fun _ s3 ⟨H3, I3, q3⟩ => ?_))))
  exact wpAny_release ⟨σ, H3, I3, q3⟩
def tAsg (te : TE) (g : TG) : TS := fun D σ H => te σ H fun x H1 => g x σ H1 D.nx
theorem ps_asg {tg e : Expr} {te : TE} {g : TG} (he : PE X e te) (hg : PG X tg g) (hs : swapsWithSole [tg] e pos.line X.env = pure false := by rfl) (hw : swappedStores [tg] e X.env = pure none := by rfl)
    (h1 : (assignEach [tg] X.env).map (·.2) = [assign tg X.env] := by rfl) : PS X (.Assign [tg] e pos) (tAsg te g) := by
  intro pins s σ H D I h
  refine wpAny_Assign_stores (thn (he pins s σ H _ I h) fun v s1 ⟨x, H1, I1, r1, q1⟩ => ?_) hs hw
  rw [h1]
  exact thn (hg pins s1 σ H1 x v _ I1 r1 q1) fun _ s2 q => q
theorem ps_set {i : Nat} {x : Str} {e : Expr} {te : TE} {pos' : Pos} (hN : X.N.Nodup) (hi : X.N[i]? = some x) (hx : Loc X.env.scope x) (he : PE X e te) (hs : swapsWith e (some (.Name x pos')) pos.line X.env = pure false := by rfl) (hf : X.fn x = true ∨ X.env.scope.names.lookup x = some .local := by first | exact .inl rfl | exact .inr rfl | assumption) :
    PS X (.Assign [.Name x pos'] e pos) (tAsg te (gName i)) := by
  intro pins s σ H D I h
  refine wpAny_Assign_Name (thn (he pins s σ H _ I h) fun v s1 ⟨y, H1, I1, r1, q1⟩ => ?_) hs
  exact store_ok I1 hN hi hx r1 (fun s2 I2 => ⟨_, H1, I2, q1⟩) hf
end
section
variable {X : Cx} {pos : Pos}
def tWhile (c : TT) (tb : TS) : TS := fun D σ H => ∃ W : Nat → St → Hp → Prop, (∃ m, W m σ H) ∧ ∀ m σ H, W m σ H →
  c σ H fun b H1 => if b = true then ∃ N : St → Hp → Prop, (∀ σ' H', N σ' H' → ∃ m', m' < m ∧ W m' σ' H') ∧ tb { D with nx := N, ct := N, bk := D.nx } σ H1 else D.nx σ H1
theorem ps_while {c : Expr} {body : List Stmt} {tc : TT} {tb : TS} (hp : PassesOwn (model X.prog X.w) X.A X.env X.xe) (hc : PT X c tc) (hb : PSs X body tb) : PS X (.While c body [] pos) (tWhile tc tb) := by
  intro pins s σ H D I h
  obtain ⟨W, ⟨m0, w0⟩, turn⟩ := h
  refine wpAny_While (codeAny_whileLoop (fun n s' => ∃ σ' H', Inv X pins σ' H' s' ∧ W n σ' H') ?_ m0 ⟨σ, H, I, w0⟩)
  rintro n s1 ⟨σ1, H1, I1, w1⟩
  refine wpAny_passesOwn hp (thn (hc pins s1 σ1 H1 _ I1 (turn n σ1 H1 w1)) fun b s2 ⟨H2, I2, q2⟩ => ?_)
  cases b with
  | true =>
    obtain ⟨N, hN, q2⟩ := q2
    rw [if_pos rfl]
    refine wpAny_passesOwn hp (thn (hb pins s2 σ1 H2 _ I2 q2) fun f s3 q3 => ?_)
    cases f with
    | next =>
      obtain ⟨σ3, H3, I3, n3⟩ := q3
      obtain ⟨m', hm, w3⟩ := hN σ3 H3 n3
      exact ⟨m', hm, σ3, H3, I3, w3⟩
    | cont =>
      obtain ⟨σ3, H3, I3, n3⟩ := q3
      obtain ⟨m', hm, w3⟩ := hN σ3 H3 n3
      exact ⟨m', hm, σ3, H3, I3, w3⟩
    | brk => exact q3
    | ret v => exact q3
  | false =>
    rw [if_neg Bool.false_ne_true]
    exact wpAny_execs_nil ⟨σ1, H2, I2, q2⟩
end
structure It where
  go : Nat → Hp → Prop
  yld : Nat → Hp → V → Hp → Prop
  stop : Nat → Hp → Prop
def FpOk (X : Cx) (pins : List (Addr × Obj)) (H : Hp) (b : Addr) : Prop :=
  H b = none ∧ b ≠ X.env.locals ∧ b ∉ X.fs ∧ (b ∈ X.ex ∨ X.s₀.heap.objs.size ≤ b) ∧ (∀ x c, X.env.cells.lookup x = some c → c ≠ b) ∧ ∀ p ∈ X.pn ++ pins, p.1 ≠ b
theorem Inv.fpOk {X : Cx} {pins : List (Addr × Obj)} {σ : St} {H H' : Hp} {s : Shared} {b : Addr} (I : Inv X pins σ H s) (hb : s.heap.objs.size ≤ b) (hn : H' b = none) : FpOk X pins H' b := by
  refine ⟨hn, Nat.ne_of_gt (Nat.lt_of_lt_of_le I.lt hb), I.nofs hb, .inr (Nat.le_trans I.sz hb), fun x c e z => ?_, fun p hp z => ?_⟩
  · obtain ⟨v, q⟩ := I.cell x c e
    exact absurd (Nat.lt_of_lt_of_le q.lt (by rw [z]; exact hb)) (Nat.lt_irrefl _)
  · exact absurd (Nat.lt_of_lt_of_le (Heap.lt_size (I.pin p hp).1) (by rw [z]; exact hb)) (Nat.lt_irrefl _)
structure Turn (P : Program) (w : World) (K : PySem.W.Frag) (tg : Expr) (J : It) (fp : List Addr) (it : Addr) (tn : Nat → Heap → Prop) : Prop where
  mem : it ∈ fp
  obj : ∀ i h, tn i h → ∀ b ∈ fp, ∃ o, h.get? b = some o ∧ ∀ v, o.data ≠ .cell v
  keep : ∀ i h h', tn i h → (∀ b ∈ fp, ∀ o, h.get? b = some o → h'.get? b = some o) → tn i h'
  item : ∀ (X : Cx), X.prog = P → X.w = w → X.K = K → X.calm = true → ∀ (i : Nat) (pins : List (Addr × Obj)) (s : Shared) (σ : St) (H : Hp) (E : Value → Shared → Prop), Inv X pins σ H s → (∀ b ∈ fp, FpOk X pins H b) → tn i s.heap → J.go i H →
    wpAny (model P w) X.A (pyNext (.ref it)) (fun r s1 => ∃ u, r = some u ∧
      wpAny (model P w) X.A (letOwnedTupleGo tg (.ref it) u) (fun _ s2 => ∃ x H', Inv X pins σ H' s2 ∧ RelV x u ∧ J.yld i H x H' ∧ tn (i + 1) s2.heap ∧ ∀ b ∈ fp, H' b = none) E s1) E s
  done : ∀ (X : Cx), X.prog = P → X.w = w → X.K = K → X.calm = true → ∀ (i : Nat) (pins : List (Addr × Obj)) (s : Shared) (σ : St) (H : Hp) (E : Value → Shared → Prop), Inv X pins σ H s → (∀ b ∈ fp, FpOk X pins H b) → tn i s.heap → J.stop i H →
    wpAny (model P w) X.A (pyNext (.ref it)) (fun r s1 => r = none ∧ Inv X pins σ H s1) E s
  self : ∀ (A : Around) (i : Nat) (s : Shared) (Q : Value → Shared → Prop) (E : Value → Shared → Prop), tn i s.heap → Q (.ref it) s → wpAny (model P w) A (pyIter (.ref it)) Q E s
abbrev TI := St → Hp → (It → Hp → Prop) → Prop
def PIE (X : Cx) (pins : List (Addr × Obj)) (σ : St) (tg : Expr) (R : It → Hp → Prop) (itv : Value) (s2 : Shared) : Prop :=
  ∃ (it : Addr) (fp : List Addr) (tn : Nat → Heap → Prop) (J : It) (H' : Hp), itv = .ref it ∧ Inv X pins σ H' s2 ∧ Turn X.prog X.w X.K tg J fp it tn ∧ tn 0 s2.heap ∧ (∀ b ∈ fp, FpOk X pins H' b) ∧ R J H'
def PI (X : Cx) (tg iter : Expr) (wi : TI) : Prop :=
  ∀ (pins : List (Addr × Obj)) (s : Shared) (σ : St) (H : Hp) (R : It → Hp → Prop), Inv X pins σ H s → wi σ H R →
    wpAny (model X.prog X.w) X.A (eval iter X.env) (fun v s1 => wpAny (model X.prog X.w) X.A (pyIter v) (PIE X pins σ tg R) X.xe s1) X.xe s
theorem go_of {M : Model} {A : Around} {E : Value → Shared → Prop} {s : Shared} {tg : Expr} {it : Addr} {u : Value} {o : Obj} {n : String} {vs : Array Value} {Q : Unit → Shared → Prop} (ho : s.heap.get? it = some o) (hc : o.cls = .type n) (hd : o.data = .fields vs)
    (hn : ["enumerate", "zip", "dict_itemiterator", "dict_reverseitemiterator", "odict_iterator", "itertools.zip_longest", "itertools.pairwise"].contains n = false) (hQ : Q () s) : wpAny M A (letOwnedTupleGo tg (.ref it) u) Q E s := by
  unfold letOwnedTupleGo
  cases tg <;> first
    | exact wpAny_pure hQ
    | (cases u <;> first
        | exact wpAny_pure hQ
        | (refine wpAny_bind (wpAny_load ho ?_)
           rw [hc, hd]
           show wpAny M A (if (["enumerate", "zip", "dict_itemiterator", "dict_reverseitemiterator", "odict_iterator", "itertools.zip_longest", "itertools.pairwise"].contains n && vs[0]? == some (rawInt _)) = true then _ else _) Q E s
           rw [if_neg (by intro h; rw [hn, Bool.false_and] at h; cases h)]
           exact wpAny_pure hQ))
def Itl (K : PySem.W.Frag) (a : Addr) : It :=
  ⟨fun i H => ∃ xs x, SqL K H a xs ∧ xs[i]? = some x, fun i H x H' => H' = H ∧ ∀ xs, SqL K H a xs → xs[i]? = some x, fun i H => ∃ xs, SqL K H a xs ∧ xs.length ≤ i⟩
def Itt (K : PySem.W.Frag) (a : Addr) : It :=
  ⟨fun i H => ∃ xs x, SqT K H a xs ∧ xs[i]? = some x, fun i H x H' => H' = H ∧ ∀ xs, SqT K H a xs → xs[i]? = some x, fun i H => ∃ xs, SqT K H a xs ∧ xs.length ≤ i⟩
def Itr (lo : Int) (n : Nat) : It := ⟨fun i _ => i < n, fun i H x H' => H' = H ∧ x = .int (lo + i), fun i _ => n ≤ i⟩
theorem turn_list {P : Program} {w : World} {K : PySem.W.Frag} {tg : Expr} (a it : Addr) : Turn P w K tg (Itl K a) [it] it (fun i h => h.IsListIter it a i) where
  mem := by simp
  obj := fun i h st b hb => by
    have e : b = it := by simpa using hb
    subst e
    obtain ⟨o, e, c, d⟩ := st
    exact ⟨o, e, fun v z => by rw [d] at z; cases z⟩
  keep := fun i h h' st k => st.at fun o e => k it (by simp) o e
  item := by
    intro X hP hw hK hc i pins s σ H E I hf st hg
    subst hP hw hK
    obtain ⟨xs, x, hq, hx⟩ := hg
    obtain ⟨its, rv, p, hz⟩ := I.list hq
    obtain ⟨u, hu, ru⟩ := rv.get hx
    obtain ⟨f0, f1, f2, f3, f4, f5⟩ := hf it (by simp)
    refine wpAny_pyNext_list_item st p.isList (x := u) (by simpa using hu) fun h' st' sb => ?_
    have I1 : Inv X pins σ H { s with heap := h' } := I.turned (t' := s.toks) (fun b o hb e => (sb.2 b hb).trans e) f0 f1 f3 f4 f5
    obtain ⟨o, e, c, d⟩ := id st'
    exact ⟨u, rfl, go_of (s := { s with heap := h' }) e c d (by decide) ⟨x, H, I1, ru, ⟨rfl, fun ys hy => by rw [I.list_inj hy hq]; exact hx⟩, st', fun b hb => (hf b hb).1⟩⟩
  done := by
    intro X hP hw hK hc i pins s σ H E I hf st hg
    subst hP hw hK
    obtain ⟨xs, hq, hx⟩ := hg
    obtain ⟨its, rv, p, hz⟩ := I.list hq
    obtain ⟨f0, f1, f2, f3, f4, f5⟩ := hf it (by simp)
    have hl := rv.length
    exact wpAny_pyNext_list_end (I.ok.hd hc) st p.isList (by simp; omega) fun h' eb => ⟨rfl, I.turned (t' := s.toks) (fun b o hb e => eb b o hb e) f0 f1 f3 f4 f5⟩
  self := fun _ _ _ _ _ st h => wpAny_pyIter_listiter st h
theorem turn_tuple {P : Program} {w : World} {K : PySem.W.Frag} {tg : Expr} (a it : Addr) : Turn P w K tg (Itt K a) [it] it (fun i h => h.IsTupleIter it a i) where
  mem := by simp
  obj := fun i h st b hb => by
    have e : b = it := by simpa using hb
    subst e
    obtain ⟨o, e, c, d⟩ := st
    exact ⟨o, e, fun v z => by rw [d] at z; cases z⟩
  keep := fun i h h' st k => st.at fun o e => k it (by simp) o e
  item := by
    intro X hP hw hK hc i pins s σ H E I hf st hg
    subst hP hw hK
    obtain ⟨xs, x, hq, hx⟩ := hg
    obtain ⟨its, rv, p, hz⟩ := I.tuple hq
    obtain ⟨u, hu, ru⟩ := rv.get hx
    obtain ⟨f0, f1, f2, f3, f4, f5⟩ := hf it (by simp)
    refine wpAny_pyNext_tuple_item st (show s.heap.IsTuple a its.toArray from p) (x := u) (by simpa using hu) fun h' st' sb => ?_
    have I1 : Inv X pins σ H { s with heap := h' } := I.turned (t' := s.toks) (fun b o hb e => (sb.2 b hb).trans e) f0 f1 f3 f4 f5
    obtain ⟨o, e, c, d⟩ := id st'
    exact ⟨u, rfl, go_of (s := { s with heap := h' }) e c d (by decide) ⟨x, H, I1, ru, ⟨rfl, fun ys hy => by rw [I.tuple_inj hy hq]; exact hx⟩, st', fun b hb => (hf b hb).1⟩⟩
  done := by
    intro X hP hw hK hc i pins s σ H E I hf st hg
    subst hP hw hK
    obtain ⟨xs, hq, hx⟩ := hg
    obtain ⟨its, rv, p, hz⟩ := I.tuple hq
    obtain ⟨f0, f1, f2, f3, f4, f5⟩ := hf it (by simp)
    have hl := rv.length
    exact wpAny_pyNext_tuple_end (I.ok.hd hc) st (show s.heap.IsTuple a its.toArray from p) (by simp; omega) fun h' eb => ⟨rfl, I.turned (t' := s.toks) (fun b o hb e => eb b o hb e) f0 f1 f3 f4 f5⟩
  self := fun _ _ _ _ _ st h => wpAny_pyIter_tupleiter st h
theorem turn_range {P : Program} {w : World} {K : PySem.W.Frag} {tg : Expr} (it : Addr) (lo : Int) (n : Nat) : Turn P w K tg (Itr lo n) [it] it (fun i h => IsRangeIter h it (lo + (i : Nat) * 1) ((n : Int) - (i : Nat)) 1) where
  mem := by simp
  obj := fun i h st b hb => by
    have e : b = it := by simpa using hb
    subst e
    exact ⟨_, st, fun v z => by
      have z' : Data.fields _ = Data.cell v := z
      cases z'⟩
  keep := fun i h h' st k => k it (by simp) _ st
  item := by
    intro X hP hw hK hc i pins s σ H E I hf st hg
    subst hP hw hK
    obtain ⟨f0, f1, f2, f3, f4, f5⟩ := hf it (by simp)
    have W := Walks.range (prog := X.prog) (w := X.w) (I.ok.hd hc) it lo 1 n
    refine W.item i s _ _ hg st fun v h' tk hv st' kk => ?_
    obtain ⟨t, rfl⟩ := hv
    have I1 : Inv X pins σ H { s with heap := h', toks := tk } := I.turned (fun b o hb e => kk b o (by simpa using hb) e) f0 f1 f3 f4 f5
    refine ⟨_, rfl, go_of (s := { s with heap := h', toks := tk }) (n := "range_iterator") st' rfl rfl (by decide) ⟨.int (lo + i), H, I1, ⟨t, ?_⟩, ⟨rfl, rfl⟩, st', fun b hb => (hf b hb).1⟩⟩
    rw [Int.mul_one]
  done := by
    intro X hP hw hK hc i pins s σ H E I hf st hg
    subst hP hw hK
    obtain ⟨f0, f1, f2, f3, f4, f5⟩ := hf it (by simp)
    exact wpAny_pyNext_range_end (I.ok.hd hc) st (by have : n ≤ i := hg; omega) fun h' eb => ⟨rfl, I.turned (t' := s.toks) (fun b o hb e => eb b o hb e) f0 f1 f3 f4 f5⟩
  self := fun _ _ _ _ _ st h => wpAny_pyIter_rangeiter st h
end L2
namespace L2
open PySem PySem.Spec PyProof.Rows
section
variable {X : Cx} {tg : Expr}
def iList (K : PySem.W.Frag) (tl : TE) : TI := fun σ H R => tl σ H fun x H1 => ∃ a, x = .ref a ∧ (∃ xs, SqL K H1 a xs) ∧ R (Itl K a) H1
def iTup (K : PySem.W.Frag) (tl : TE) : TI := fun σ H R => tl σ H fun x H1 => ∃ a, x = .ref a ∧ (∃ xs, SqT K H1 a xs) ∧ R (Itt K a) H1
theorem pi_list {l : Expr} {tl : TE} (hl : PE X l tl) : PI X tg l (iList X.K tl) := by
  intro pins s σ H R I h
  refine thn (hl pins s σ H _ I h) fun v s1 ⟨x, H1, I1, r1, q1⟩ => ?_
  obtain ⟨a, e, ⟨xs, hq⟩, q⟩ := q1
  subst e
  cases r1
  obtain ⟨its, rv, p, hz⟩ := I1.list hq
  refine wpAny_pyIter_list p.isList ?_
  refine ⟨s1.heap.objs.size, [s1.heap.objs.size], _, _, H1, rfl, I1.kept (t' := s1.toks) fun b o e => Heap.get?_push_of_some _ e, turn_list a _, ⟨_, Heap.get?_push_size _ rfl, rfl, rfl⟩, fun b hb => ?_, q⟩
  have e : b = s1.heap.objs.size := by simpa using hb
  subst e
  exact I1.fpOk (Nat.le_refl _) (I1.hok.fresh (Nat.le_refl _))
theorem pi_tup {l : Expr} {tl : TE} (hl : PE X l tl) : PI X tg l (iTup X.K tl) := by
  intro pins s σ H R I h
  refine thn (hl pins s σ H _ I h) fun v s1 ⟨x, H1, I1, r1, q1⟩ => ?_
  obtain ⟨a, e, ⟨xs, hq⟩, q⟩ := q1
  subst e
  cases r1
  obtain ⟨its, rv, p, hz⟩ := I1.tuple hq
  refine wpAny_pyIter_tuple (show s1.heap.IsTuple a its.toArray from p) ?_
  refine ⟨s1.heap.objs.size, [s1.heap.objs.size], _, _, H1, rfl, I1.kept (t' := s1.toks) fun b o e => Heap.get?_push_of_some _ e, turn_tuple a _, ⟨_, Heap.get?_push_size _ rfl, rfl, rfl⟩, fun b hb => ?_, q⟩
  have e : b = s1.heap.objs.size := by simpa using hb
  subst e
  exact I1.fpOk (Nat.le_refl _) (I1.hok.fresh (Nat.le_refl _))
theorem range_it {pins : List (Addr × Obj)} {σ : St} {H : Hp} {s : Shared} {R : It → Hp → Prop} {E : Value → Shared → Prop} {lo hi : Int} {t u v : Tok} {tk : Nat} (I : Inv X pins σ H s) (h1 : -(2 ^ 62) ≤ lo) (h2 : lo < 2 ^ 62) (h3 : -(2 ^ 62) ≤ hi) (h4 : hi < 2 ^ 62)
    (q : R (Itr lo (hi - lo).toNat) H) : wpAny (model X.prog X.w) X.A (pyIter (.ref s.heap.objs.size)) (PIE X pins σ tg R) E { s with heap := s.heap.push { cls := .type "range", data := .fields #[.int lo t, .int hi u, .int 1 v] }, toks := tk } := by
  refine wpAny_pyIter_range (IsRange.new ..) (small_one h1 h2 h3 h4) ?_
  have I1 : Inv X pins σ H { s with heap := s.heap.push { cls := .type "range", data := .fields #[.int lo t, .int hi u, .int 1 v] }, toks := tk } := I.kept fun b o e => Heap.get?_push_of_some _ e
  refine ⟨(s.heap.push { cls := .type "range", data := .fields #[.int lo t, .int hi u, .int 1 v] }).objs.size, [(s.heap.push { cls := .type "range", data := .fields #[.int lo t, .int hi u, .int 1 v] }).objs.size], _, _, H, rfl,
    I1.kept (t' := tk) fun b o e => Heap.get?_push_of_some _ e, turn_range _ lo (hi - lo).toNat, ?_, fun b hb => ?_, q⟩
  · have e1 : lo + ((0 : Nat) : Int) * 1 = lo := by simp
    have e2 : (((hi - lo).toNat : Nat) : Int) - ((0 : Nat) : Int) = Builtin.Range.rangeSize lo hi 1 := by rw [rangeSize_one]; split <;> omega
    show IsRangeIter _ _ (lo + ((0 : Nat) : Int) * 1) ((((hi - lo).toNat : Nat) : Int) - ((0 : Nat) : Int)) 1
    rw [e1, e2]
    exact Heap.get?_push_size _ rfl
  · have e : b = (s.heap.push { cls := .type "range", data := .fields #[.int lo t, .int hi u, .int 1 v] }).objs.size := by simpa using hb
    subst e
    exact I1.fpOk (Nat.le_refl _) (I1.hok.fresh (Nat.le_refl _))
def iRng1 (ta : TA) : TI := fun σ H R => ta σ H fun vs H1 => ∃ j : Int, vs = [.int j] ∧ -(2 ^ 62) ≤ j ∧ j < 2 ^ 62 ∧ R (Itr 0 j.toNat) H1
def iRng2 (ta : TA) : TI := fun σ H R => ta σ H fun vs H1 => ∃ i j : Int, vs = [.int i, .int j] ∧ (-(2 ^ 62) ≤ i ∧ i < 2 ^ 62 ∧ -(2 ^ 62) ≤ j ∧ j < 2 ^ 62) ∧ R (Itr i (j - i).toNat) H1
theorem pi_range1 {a : Expr} {ta : TA} {p pos : Pos} (hg : Gl X "range") (hm : X.mg "range" = none) (ha : PA X [a] ta) (hs : starEach [a] X.env = [(false, eval a X.env)] := by rfl) : PI X tg (.Call (.Name "range" p) [a] [] pos) (iRng1 ta) := by
  intro pins s σ H R I h
  refine Call_ (ld_blt I hg hm boot_range (PyProof.Rows.callWith_type1 (thn (ha pos pins s σ H _ I h) fun us s1 ⟨vs, H1, I1, r1, q1⟩ => ?_) hs rfl))
  obtain ⟨j, e, q1, q2, q⟩ := q1
  subst e
  cases r1 with
  | cons r rr =>
    cases rr
    obtain ⟨t, rfl⟩ := r
    exact call_range_1 (range_it I1 (by omega) (by omega) q1 q2 (by simpa using q))
theorem pi_range2 {a b : Expr} {ta : TA} {p pos : Pos} (hg : Gl X "range") (hm : X.mg "range" = none) (ha : PA X [a, b] ta) (hs : starEach [a, b] X.env = [(false, eval a X.env), (false, eval b X.env)] := by rfl) (hs2 : starEach [b] X.env = [(false, eval b X.env)] := by rfl) :
    PI X tg (.Call (.Name "range" p) [a, b] [] pos) (iRng2 ta) := by
  intro pins s σ H R I h
  refine Call_ (ld_blt I hg hm boot_range (PyProof.Rows.callWith_type1 (thn (ha pos pins s σ H _ I h) fun us s1 ⟨vs, H1, I1, r1, q1⟩ => ?_) (by rw [hs, hs2]) (by rw [hs2]; rfl)))
  obtain ⟨i, j, e, ⟨q1, q2, q3, q4⟩, q⟩ := q1
  subst e
  cases r1 with
  | cons r rr =>
    cases rr with
    | cons r' rr =>
      cases rr
      obtain ⟨t, rfl⟩ := r
      obtain ⟨t', rfl⟩ := r'
      exact call_range_2 (range_it I1 q1 q2 q3 q4 q)
def tFor (wi : TI) (g : TG) (tb : TS) : TS := fun D σ H => wi σ H fun J H1 => ∃ W : Nat → Nat → St → Hp → Prop, (∃ m, W 0 m σ H1) ∧ ∀ i m σ H, W i m σ H →
  (J.stop i H ∧ D.nx σ H) ∨ (J.go i H ∧ ∃ N : St → Hp → Prop, (∀ σ' H', N σ' H' → ∃ m', m' < m ∧ W (i + 1) m' σ' H') ∧ ∀ x H', J.yld i H x H' → g x σ H' fun σ2 H2 => tb { D with nx := N, ct := N, bk := D.nx } σ2 H2)
def pinsAt (fp : List Addr) (h : Heap) : List (Addr × Obj) := fp.filterMap fun b => (h.get? b).map fun o => (b, o)
theorem mem_pinsAt {fp : List Addr} {h : Heap} {b : Addr} {o : Obj} (hb : b ∈ fp) (e : h.get? b = some o) : (b, o) ∈ pinsAt fp h := List.mem_filterMap.mpr ⟨b, hb, by rw [e]; rfl⟩
theorem of_pinsAt {fp : List Addr} {h : Heap} {p : Addr × Obj} (hp : p ∈ pinsAt fp h) : p.1 ∈ fp ∧ h.get? p.1 = some p.2 := by
  obtain ⟨b, hb, e⟩ := List.mem_filterMap.mp hp
  cases q : h.get? b with
  | none => rw [q] at e; cases e
  | some o =>
    rw [q] at e
    have e' : (b, o) = p := Option.some.inj e
    subst e'
    exact ⟨hb, q⟩
theorem Inv.pinned {pins : List (Addr × Obj)} {σ : St} {H : Hp} {s : Shared} {fp : List Addr} (I : Inv X pins σ H s) (hf : ∀ b ∈ fp, FpOk X pins H b) (ho : ∀ b ∈ fp, ∃ o, s.heap.get? b = some o ∧ ∀ v, o.data ≠ .cell v) : Inv X (pins ++ pinsAt fp s.heap) σ H s :=
  I.pins_of fun p hp => (List.mem_append.mp hp).elim (fun z => I.pin p (List.mem_append_right _ z)) fun z => by
    obtain ⟨hb, e⟩ := of_pinsAt z
    obtain ⟨f0, f1, f2, _⟩ := hf p.1 hb
    obtain ⟨o, e', d⟩ := ho p.1 hb
    rw [e] at e'; cases e'
    exact ⟨e, f0, f1, f2, d⟩
theorem Inv.unpinned {pins pl : List (Addr × Obj)} {σ : St} {H : Hp} {s : Shared} (I : Inv X (pins ++ pl) σ H s) : Inv X pins σ H s := I.pins_of fun p hp => I.pin p (List.mem_append_right _ (List.mem_append_left _ hp))
theorem ps_for {iter : Expr} {body : List Stmt} {wi : TI} {g : TG} {tb : TS} {pos : Pos} (hp : PassesOwn (model X.prog X.w) X.A X.env X.xe) (hc : X.calm = true) (hi : PI X tg iter wi) (hg : PG X tg g) (hb : PSs X body tb)
    (hs : ∀ x, foldedSetIterable iter X.env x = pure x := by intro _; rfl) : PS X (.For tg iter body [] pos) (tFor wi g tb) := by
  intro pins s σ H D I h
  refine wpAny_For (thn (hi pins s σ H _ I h) fun v s1 h1 => thn h1 fun itv s2 h2 => ?_) hs
  obtain ⟨it, fp, tn, J, H2, e, I2, T, st2, f2, W, ⟨m0, w0⟩, turn⟩ := h2
  subst e
  -- what stays true of the iterator's objects through the loop
  have stat : ∀ {H' : Hp}, (∀ b ∈ fp, H' b = none) → ∀ b ∈ fp, FpOk X pins H' b := fun hn b hb => ⟨hn b hb, (f2 b hb).2⟩
  refine codeAny_forLoop_any (fun n s' => ∃ i σ' H', Inv X pins σ' H' s' ∧ tn i s'.heap ∧ (∀ b ∈ fp, H' b = none) ∧ W i n σ' H') ?_ m0 ⟨0, σ, H2, I2, st2, fun b hb => (f2 b hb).1, w0⟩
  rintro n s3 ⟨i, σ3, H3, I3, st3, fr3, w3⟩
  rcases turn i n σ3 H3 w3 with ⟨stop, qn⟩ | ⟨go, N, hN, step⟩
  · refine wpAny_passesOwn hp (thn (T.done X rfl rfl rfl hc i pins s3 σ3 H3 X.xe I3 (stat fr3) st3 stop) fun r s4 ⟨hr, I4⟩ => ?_)
    subst hr
    exact wpAny_execs_nil ⟨σ3, H3, I4, qn⟩
  · refine wpAny_passesOwn hp (thn (T.item X rfl rfl rfl hc i pins s3 σ3 H3 X.xe I3 (stat fr3) st3 go) fun r s4 ⟨u, hr, h4⟩ => ?_)
    subst hr
    refine wpAny_passesOwn hp (thn h4 fun _ s5 ⟨x, H5, I5, r5, y5, st5, fr5⟩ => ?_)
    have I5' := I5.pinned (stat fr5) (T.obj _ _ st5)
    refine wpAny_passesOwn hp (thn (hg _ s5 σ3 H5 x u _ I5' r5 (step x H5 y5)) fun _ s6 ⟨σ6, H6, I6, q6⟩ => ?_)
    refine wpAny_passesOwn hp (thn (hb _ s6 σ6 H6 _ I6 q6) fun f s7 q7 => ?_)
    have again : ∀ {σ7 : St} {H7 : Hp}, Inv X (pins ++ pinsAt fp s5.heap) σ7 H7 s7 → N σ7 H7 → ∃ m, m < n ∧ ∃ i σ' H', Inv X pins σ' H' s7 ∧ tn i s7.heap ∧ (∀ b ∈ fp, H' b = none) ∧ W i m σ' H' := fun {σ7 H7} I7 n7 => by
      obtain ⟨m', hm, w7⟩ := hN σ7 H7 n7
      refine ⟨m', hm, i + 1, σ7, H7, I7.unpinned, T.keep _ _ _ st5 fun b hb o e => (I7.pin (b, o) (List.mem_append_right _ (List.mem_append_right _ (mem_pinsAt hb e)))).1, fun b hb => ?_, w7⟩
      obtain ⟨o, e, d⟩ := T.obj _ _ st5 b hb
      exact (I7.pin (b, o) (List.mem_append_right _ (List.mem_append_right _ (mem_pinsAt hb e)))).2.1
    cases f with
    | next => obtain ⟨σ7, H7, I7, n7⟩ := q7; exact again I7 n7
    | cont => obtain ⟨σ7, H7, I7, n7⟩ := q7; exact again I7 n7
    | brk => obtain ⟨σ7, H7, I7, q7⟩ := q7; exact ⟨σ7, H7, I7.unpinned, q7⟩
    | ret v => obtain ⟨x7, σ7, H7, I7, r7, q7⟩ := q7; exact ⟨x7, σ7, H7, I7.unpinned, r7, q7⟩
end
end L2
namespace L2
open PySem PySem.Spec PyProof.Rows
abbrev R2 := V → V → Hp → VK → Prop
def OpR (X : Cx) (f : Value → Value → Sem Value) (r : R2) : Prop :=
  ∀ (pins : List (Addr × Obj)) (s : Shared) (σ : St) (H : Hp) (x y : V) (v u : Value) (Q : VK), Inv X pins σ H s → RelV x v → RelV y u → r x y H Q →
    wpAny (model X.prog X.w) X.A (f v u) (EP X pins σ Q) X.xe s
def UnR (X : Cx) (f : Value → Sem Value) (r : V → Hp → VK → Prop) : Prop :=
  ∀ (pins : List (Addr × Obj)) (s : Shared) (σ : St) (H : Hp) (x : V) (v : Value) (Q : VK), Inv X pins σ H s → RelV x v → r x H Q →
    wpAny (model X.prog X.w) X.A (f v) (EP X pins σ Q) X.xe s
def CallR (X : Cx) (f : Value) (r : List V → Hp → VK → Prop) : Prop :=
  ∀ (pins : List (Addr × Obj)) (s : Shared) (σ : St) (H : Hp) (xs : List V) (us : List Value) (Q : VK), Inv X pins σ H s → Vals xs us → r xs H Q →
    wpAny (model X.prog X.w) X.A (call f us) (EP X pins σ Q) X.xe s
def TruR (X : Cx) (r : V → Hp → (Bool → Hp → Prop) → Prop) : Prop :=
  ∀ (pins : List (Addr × Obj)) (s : Shared) (σ : St) (H : Hp) (x : V) (v : Value) (Q : Bool → Hp → Prop), Inv X pins σ H s → RelV x v → r x H Q →
    wpAny (model X.prog X.w) X.A (truthy v) (TP X pins σ Q) X.xe s
def tOp (r : R2) (ta tb : TE) : TE := fun σ H Q => ta σ H fun x H1 => tb σ H1 fun y H2 => r x y H2 Q
def tUn (r : V → Hp → VK → Prop) (ta : TE) : TE := fun σ H Q => ta σ H fun x H1 => r x H1 Q
def rI (C : Int → Int → Prop) (g : Int → Int → V) : R2 := fun x y H Q => ∃ i j, x = .int i ∧ y = .int j ∧ C i j ∧ Q (g i j) H
def rI0 (g : Int → Int → V) : R2 := fun x y H Q => ∃ i j, x = .int i ∧ y = .int j ∧ Q (g i j) H
def rU (g : Int → V) : V → Hp → VK → Prop := fun x H Q => ∃ i, x = .int i ∧ Q (g i) H
section
variable {X : Cx} {a b c : Expr} {ta tb tc : TE} {pos : Pos}
theorem binT (ha : PE X a ta) (hb : PE X b tb) {pins : List (Addr × Obj)} {s : Shared} {σ : St} {H : Hp} {R : V → V → Hp → Prop} (I : Inv X pins σ H s)
    (h : ta σ H fun x H1 => tb σ H1 fun y H2 => R x y H2) {Q : Value → Shared → Prop} {f : Value → Value → Sem Value}
    (hf : ∀ v u s2 x y H2, Inv X pins σ H2 s2 → RelV x v → RelV y u → R x y H2 → wpAny (model X.prog X.w) X.A (f v u) Q X.xe s2) :
    wpAny (model X.prog X.w) X.A (eval a X.env) (fun v s₁ => wpAny (model X.prog X.w) X.A (eval b X.env) (fun u s₂ => wpAny (model X.prog X.w) X.A (f v u) Q X.xe s₂) X.xe s₁) X.xe s := by
  refine thn (ha pins s σ H _ I h) fun v s1 ⟨x, H1, I1, r1, q1⟩ => ?_
  refine thn (hb pins s1 σ H1 _ I1 q1) fun u s2 ⟨y, H2, I2, r2, q2⟩ => ?_
  exact hf v u s2 x y H2 I2 r1 r2 q2
theorem pe_op {op : Operator} {r : R2} (ho : OpR X (binaryOp op) r) (ha : PE X a ta) (hb : PE X b tb) : PE X (.BinOp a op b pos) (tOp r ta tb) := by
  intro pins s σ H Q I h
  exact wpAny_BinOp (binT ha hb I h fun v u s2 x y H2 I2 rx ry q => ho pins s2 σ H2 x y v u Q I2 rx ry q)
theorem pe_un {op : UnaryOp} {r : V → Hp → VK → Prop} (ho : UnR X (unaryOp op) r) (ha : PE X a ta) : PE X (.UnaryOp op a pos) (tUn r ta) := by
  intro pins s σ H Q I h
  exact UnaryOp_ (thn (ha pins s σ H _ I h) fun v s1 ⟨x, H1, I1, r1, q1⟩ => ho pins s1 σ H1 x v Q I1 r1 q1)
theorem opI {f : Value → Value → Sem Value} {C : Int → Int → Prop} {g : Int → Int → Int}
    (rule : ∀ (i j : Int) (t u : Tok) (s : Shared) (Q : Value → Shared → Prop) (E : Value → Shared → Prop), C i j → Q (.int (g i j) s.toks) { s with toks := s.toks + 1 } → wpAny (model X.prog X.w) X.A (f (.int i t) (.int j u)) Q E s) :
    OpR X f (rI C fun i j => .int (g i j)) := by
  intro pins s σ H x y v u Q I rx ry h
  obtain ⟨i, j, rfl, rfl, hc, q⟩ := h
  obtain ⟨t, rfl⟩ := rx
  obtain ⟨t', rfl⟩ := ry
  exact rule i j t t' s _ _ hc ⟨.int (g i j), H, I.tok _, ⟨_, rfl⟩, q⟩
theorem opI0 {f : Value → Value → Sem Value} {g : Int → Int → Int}
    (rule : ∀ (i j : Int) (t u : Tok) (s : Shared) (Q : Value → Shared → Prop) (E : Value → Shared → Prop), Q (.int (g i j) s.toks) { s with toks := s.toks + 1 } → wpAny (model X.prog X.w) X.A (f (.int i t) (.int j u)) Q E s) :
    OpR X f (rI0 fun i j => .int (g i j)) := by
  intro pins s σ H x y v u Q I rx ry h
  obtain ⟨i, j, rfl, rfl, q⟩ := h
  obtain ⟨t, rfl⟩ := rx
  obtain ⟨t', rfl⟩ := ry
  exact rule i j t t' s _ _ ⟨.int (g i j), H, I.tok _, ⟨_, rfl⟩, q⟩
theorem opB0 {f : Value → Value → Sem Value} {g : Int → Int → Bool}
    (rule : ∀ (i j : Int) (t u : Tok) (s : Shared) (Q : Value → Shared → Prop) (E : Value → Shared → Prop), Q (.bool (g i j)) s → wpAny (model X.prog X.w) X.A (f (.int i t) (.int j u)) Q E s) :
    OpR X f (rI0 fun i j => .bl (g i j)) := by
  intro pins s σ H x y v u Q I rx ry h
  obtain ⟨i, j, rfl, rfl, q⟩ := h
  obtain ⟨t, rfl⟩ := rx
  obtain ⟨t', rfl⟩ := ry
  exact rule i j t t' s _ _ ⟨.bl (g i j), H, I, rfl, q⟩
def CDiv (i j : Int) : Prop := 0 < j ∧ j < 1073741824
def CPow (i j : Int) : Prop := 0 ≤ j ∧ j ≤ 1000000 ∧ i.natAbs < 2 ^ 64
theorem op_add : OpR X (binaryOp .Add) (rI0 fun i j => .int (i + j)) := opI0 fun _ _ _ _ _ _ _ q => add_int q
theorem op_sub : OpR X (binaryOp .Sub) (rI0 fun i j => .int (i - j)) := opI0 fun _ _ _ _ _ _ _ q => sub_int q
theorem op_fdiv : OpR X (binaryOp .FloorDiv) (rI CDiv fun i j => .int (i / j)) := opI fun i j _ _ _ _ _ hc q => by
  have h1 : (0 : Int) < j := hc.1
  have h2 : j < 1073741824 := hc.2
  exact floordiv_int (by omega) (by rw [Int.fdiv_eq_ediv_of_nonneg i (by omega)]; exact q) (.inl (PyProof.noPylong_small (by omega)))
theorem op_mod : OpR X (binaryOp .Mod) (rI (fun _ j => 0 < j) fun i j => .int (i % j)) := opI fun i j _ _ _ _ _ hc q => by
  have h1 : (0 : Int) < j := hc
  exact mod_int' (by omega) (by rw [Int.fmod_eq_emod_of_nonneg i (by omega)]; exact q)
theorem op_pow : OpR X (binaryOp .Pow) (rI CPow fun i j => .int (i ^ j.toNat)) := opI fun _ _ _ _ _ _ _ hc q => pow_int_small hc.1 hc.2.1 hc.2.2 q
theorem unI {f : Value → Sem Value} {g : Int → Int}
    (rule : ∀ (i : Int) (t : Tok) (s : Shared) (Q : Value → Shared → Prop) (E : Value → Shared → Prop), Q (.int (g i) s.toks) { s with toks := s.toks + 1 } → wpAny (model X.prog X.w) X.A (f (.int i t)) Q E s) :
    UnR X f (rU fun i => .int (g i)) := by
  intro pins s σ H x v Q I rx h
  obtain ⟨i, rfl, q⟩ := h
  obtain ⟨t, rfl⟩ := rx
  exact rule i t s _ _ ⟨.int (g i), H, I.tok _, ⟨_, rfl⟩, q⟩
theorem un_neg : UnR X (unaryOp .USub) (rU fun i => .int (-i)) := unI fun _ _ _ _ _ q => neg_int q
end
def scal : V → V → Bool
  | .non, .non => true | .non, .int _ => true | .int _, .non => true | .non, .bl _ => true | .bl _, .non => true | .non, .str _ => true | .str _, .non => true
  | .int _, .int _ => true | .bl _, .bl _ => true | .str _, .str _ => true | .byt _, .byt _ => true
  | .int _, .str _ => true | .str _, .int _ => true | .bl _, .str _ => true | .str _, .bl _ => true
  | _, _ => false
def rEq : R2 := fun x y H Q => scal x y = true ∧ Q (.bl (decide (x = y))) H
def rNe : R2 := fun x y H Q => scal x y = true ∧ Q (.bl (!decide (x = y))) H
theorem dec_int {i j : Int} : decide (V.int i = V.int j) = (i == j) := by
  rw [Bool.eq_iff_iff]
  simp
theorem dec_bl {i j : Bool} : decide (V.bl i = V.bl j) = (i == j) := by
  rw [Bool.eq_iff_iff]
  simp
theorem dec_str {i j : Str} : decide (V.str i = V.str j) = (i == j) := by
  rw [Bool.eq_iff_iff]
  simp
theorem dec_byt {i j : Array UInt8} : decide (V.byt i = V.byt j) = (i.toList == j.toList) := by
  rw [Bool.eq_iff_iff]
  cases i
  cases j
  simp
section
variable {X : Cx} {a b c : Expr} {ta tb tc : TE} {pos : Pos}
theorem fin_bl {pins : List (Addr × Obj)} {σ : St} {H : Hp} {s : Shared} {Q : VK} {k k' : Bool} (I : Inv X pins σ H s) (q : Q (.bl k) H) (e : k = k') : EP X pins σ Q (.bool k') s := by
  subst e
  exact ⟨.bl k, H, I, rfl, q⟩
theorem op_eq : OpR X (compareOp .Eq) rEq := by
  intro pins s σ H x y v u Q I rx ry h
  obtain ⟨hs, q⟩ := h
  cases x with
  | non =>
    cases rx
    cases y with
    | non => cases ry; exact PySem.EqNone.eq_none_none (fin_bl I q (by simp))
    | bl j => cases ry; exact PySem.EqNone.eq_none_bool (fin_bl I q (by simp))
    | int j => obtain ⟨t', rfl⟩ := ry; exact PySem.EqNone.eq_none_int (fin_bl I q (by simp))
    | str j => obtain ⟨t', rfl⟩ := ry; exact PySem.EqNone.eq_none_str (fin_bl I q (by simp))
    | _ => exact absurd (show false = true from hs) Bool.false_ne_true
  | bl i =>
    cases rx
    cases y with
    | non => cases ry; exact PySem.EqNone.eq_bool_none (fin_bl I q (by simp))
    | bl j => cases ry; exact eq_bool (fin_bl I q dec_bl)
    | str j => obtain ⟨t', rfl⟩ := ry; exact PySem.EqMixed.eq_bool_str (fin_bl I q (by simp))
    | _ => exact absurd (show false = true from hs) Bool.false_ne_true
  | int i =>
    obtain ⟨t, rfl⟩ := rx
    cases y with
    | non => cases ry; exact PySem.EqNone.eq_int_none (fin_bl I q (by simp))
    | int j => obtain ⟨t', rfl⟩ := ry; exact eq_int (fin_bl I q dec_int)
    | str j => obtain ⟨t', rfl⟩ := ry; exact PySem.EqMixed.eq_int_str (fin_bl I q (by simp))
    | _ => exact absurd (show false = true from hs) Bool.false_ne_true
  | str i =>
    obtain ⟨t, rfl⟩ := rx
    cases y with
    | non => cases ry; exact PySem.EqNone.eq_str_none (fin_bl I q (by simp))
    | bl j => cases ry; exact PySem.EqMixed.eq_str_bool (fin_bl I q (by simp))
    | int j => obtain ⟨t', rfl⟩ := ry; exact PySem.EqMixed.eq_str_int (fin_bl I q (by simp))
    | str j => obtain ⟨t', rfl⟩ := ry; exact eq_str (fin_bl I q dec_str)
    | _ => exact absurd (show false = true from hs) Bool.false_ne_true
  | byt i =>
    obtain ⟨t, rfl⟩ := rx
    cases y with
    | byt j => obtain ⟨t', rfl⟩ := ry; exact PySem.W.eq_bytes (fin_bl I q dec_byt)
    | _ => exact absurd (show false = true from hs) Bool.false_ne_true
  | _ => cases y <;> exact absurd (show false = true from hs) Bool.false_ne_true
theorem op_ne : OpR X (compareOp .NotEq) rNe := by
  intro pins s σ H x y v u Q I rx ry h
  obtain ⟨hs, q⟩ := h
  cases x with
  | non =>
    cases rx
    cases y with
    | non => cases ry; exact PySem.EqNone.ne_none_none (fin_bl I q (by simp))
    | bl j => cases ry; exact PySem.EqNone.ne_none_bool (fin_bl I q (by simp))
    | int j => obtain ⟨t', rfl⟩ := ry; exact PySem.EqNone.ne_none_int (fin_bl I q (by simp))
    | str j => obtain ⟨t', rfl⟩ := ry; exact PySem.EqNone.ne_none_str (fin_bl I q (by simp))
    | _ => exact absurd (show false = true from hs) Bool.false_ne_true
  | bl i =>
    cases rx
    cases y with
    | non => cases ry; exact PySem.EqNone.ne_bool_none (fin_bl I q (by simp))
    | bl j => cases ry; exact ne_bool (fin_bl I q (congrArg not dec_bl))
    | str j => obtain ⟨t', rfl⟩ := ry; exact PySem.EqMixed.ne_bool_str (fin_bl I q (by simp))
    | _ => exact absurd (show false = true from hs) Bool.false_ne_true
  | int i =>
    obtain ⟨t, rfl⟩ := rx
    cases y with
    | non => cases ry; exact PySem.EqNone.ne_int_none (fin_bl I q (by simp))
    | int j => obtain ⟨t', rfl⟩ := ry; exact ne_int (fin_bl I q (congrArg not dec_int))
    | str j => obtain ⟨t', rfl⟩ := ry; exact PySem.EqMixed.ne_int_str (fin_bl I q (by simp))
    | _ => exact absurd (show false = true from hs) Bool.false_ne_true
  | str i =>
    obtain ⟨t, rfl⟩ := rx
    cases y with
    | non => cases ry; exact PySem.EqNone.ne_str_none (fin_bl I q (by simp))
    | bl j => cases ry; exact PySem.EqMixed.ne_str_bool (fin_bl I q (by simp))
    | int j => obtain ⟨t', rfl⟩ := ry; exact PySem.EqMixed.ne_str_int (fin_bl I q (by simp))
    | str j => obtain ⟨t', rfl⟩ := ry; exact ne_str (fin_bl I q (congrArg not dec_str))
    | _ => exact absurd (show false = true from hs) Bool.false_ne_true
  | byt i =>
    obtain ⟨t, rfl⟩ := rx
    cases y with
    | byt j => obtain ⟨t', rfl⟩ := ry; exact PySem.W.ne_bytes (fin_bl I q (congrArg not dec_byt))
    | _ => exact absurd (show false = true from hs) Bool.false_ne_true
  | _ => cases y <;> exact absurd (show false = true from hs) Bool.false_ne_true
theorem op_lt : OpR X (compareOp .Lt) (rI0 fun i j => .bl (decide (i < j))) := opB0 fun _ _ _ _ _ _ _ q => lt_int q
theorem op_le : OpR X (compareOp .LtE) (rI0 fun i j => .bl (decide (i ≤ j))) := opB0 fun _ _ _ _ _ _ _ q => le_int q
theorem op_gt : OpR X (compareOp .Gt) (rI0 fun i j => .bl (decide (j < i))) := opB0 fun _ _ _ _ _ _ _ q => gt_int q
theorem op_ge : OpR X (compareOp .GtE) (rI0 fun i j => .bl (decide (j ≤ i))) := opB0 fun _ _ _ _ _ _ _ q => ge_int q
theorem nomark (b : Expr) {op : CmpOp} (h : op ≠ .In := by decide) (h2 : op ≠ .NotIn := by decide) : behindInMarks op b = false := by
  have e1 : (op == CmpOp.In) = false := by cases op <;> first | rfl | exact absurd rfl h
  have e2 : (op == CmpOp.NotIn) = false := by cases op <;> first | rfl | exact absurd rfl h2
  cases b <;> simp [behindInMarks, e1, e2]
theorem pe_cmpR {op : CmpOp} {r : R2} (ho : OpR X (compareOp op) r) (ha : PE X a ta) (hb : PE X b tb) (hm : behindInMarks op b = false) : PE X (.Compare a [op] [b] pos) (tOp r ta tb) := by
  intro pins s σ H Q I h
  exact wpAny_Compare1 (binT ha hb I h fun v u s2 x y H2 I2 rx ry q => ho pins s2 σ H2 x y v u Q I2 rx ry q) hm
def tTest (t : TE) : TT := fun σ H Q => t σ H fun x H' => ∃ k, x = .bl k ∧ Q k H'
theorem pt_cmpR {op : CmpOp} {r : R2} (ho : OpR X (compareOp op) r) (ha : PE X a ta) (hb : PE X b tb) (hm : behindInMarks op b = false) : PT X (.Compare a [op] [b] pos) (tTest (tOp r ta tb)) := by
  intro pins s σ H Q I h
  refine wpAny_isTrue_Compare1 (thn (ha pins s σ H _ I h) fun v s1 ⟨x, H1, I1, r1, q1⟩ => thn (hb pins s1 σ H1 _ I1 q1) fun u s2 ⟨y, H2, I2, r2, q2⟩ =>
    thn (ho pins s2 σ H2 x y v u _ I2 r1 r2 q2) fun c s3 ⟨z, H3, I3, r3, k, e, q3⟩ => ?_) hm
  subst e
  cases r3
  exact wpAny_truthy_bool ⟨H3, I3, q3⟩
def tChain (r r' : R2) (ta tb tc : TE) : TE := fun σ H Q => ta σ H fun x H1 => tb σ H1 fun y H2 => r x y H2 fun z H3 => ∃ k, z = .bl k ∧
  (if k = true then tc σ H3 fun w' H4 => r' y w' H4 Q else Q (.bl false) H3)
theorem pe_chain {op op' : CmpOp} {r r' : R2} (ho : OpR X (compareOp op) r) (ho' : OpR X (compareOp op') r') (ha : PE X a ta) (hb : PE X b tb) (hc : PE X c tc)
    (hm : lastMarks [op, op'] [b, c] = false := by with_unfolding_all rfl) : PE X (.Compare a [op, op'] [b, c] pos) (tChain r r' ta tb tc) := by
  intro pins s σ H Q I h
  refine Compare_chain (thn (ha pins s σ H _ I h) fun v s1 ⟨x, H1, I1, r1, q1⟩ => chain_link (thn (hb pins s1 σ H1 _ I1 q1) fun u s2 ⟨y, H2, I2, r2, q2⟩ =>
    thn (ho pins s2 σ H2 x y v u _ I2 r1 r2 q2) fun d s3 ⟨z, H3, I3, r3, k, e, q3⟩ => ?_)) hm
  subst e
  cases r3
  refine wpAny_truthy_bool ?_
  cases k with
  | false => exact ite_ff ⟨.bl false, H3, I3, rfl, q3⟩
  | true => exact ite_tt (chain_last (thn (hc pins s3 σ H3 _ I3 q3) fun w' s4 ⟨z', H4, I4, r4, q4⟩ => ho' pins s4 σ H4 y z' u w' Q I4 r2 r4 q4))
theorem pt_chain {op op' : CmpOp} {r r' : R2} (ho : OpR X (compareOp op) r) (ho' : OpR X (compareOp op') r') (ha : PE X a ta) (hb : PE X b tb) (hc : PE X c tc)
    (hm : lastMarks [op, op'] [b, c] = false := by with_unfolding_all rfl) : PT X (.Compare a [op, op'] [b, c] pos) (tTest (tChain r r' ta tb tc)) := by
  intro pins s σ H Q I h
  refine isTrue_chain (thn (ha pins s σ H _ I h) fun v s1 ⟨x, H1, I1, r1, q1⟩ => test_link (thn (hb pins s1 σ H1 _ I1 q1) fun u s2 ⟨y, H2, I2, r2, q2⟩ =>
    thn (ho pins s2 σ H2 x y v u _ I2 r1 r2 q2) fun d s3 ⟨z, H3, I3, r3, k, e, q3⟩ => ?_)) hm
  subst e
  cases r3
  refine wpAny_truthy_bool ?_
  cases k with
  | false =>
    obtain ⟨k', e', q'⟩ := q3
    cases e'
    exact ite_ff ⟨H3, I3, q'⟩
  | true =>
    refine ite_tt (test_last (thn (hc pins s3 σ H3 _ I3 q3) fun w' s4 ⟨z', H4, I4, r4, q4⟩ => thn (ho' pins s4 σ H4 y z' u w' _ I4 r2 r4 q4) fun d' s5 ⟨z2, H5, I5, r5, k2, e2, q5⟩ => ?_))
    subst e2
    cases r5
    exact wpAny_truthy_bool ⟨H5, I5, q5⟩
def TruV (K : PySem.W.Frag) (x : V) (H : Hp) (k : Bool) : Prop :=
  match x with
  | .non => k = false
  | .bl b => k = b
  | .int i => k = (i != 0)
  | .str y => y.length ≤ sizeLine ∧ k = ((y.length : Int) != 0)
  | .byt y => y.size ≤ sizeLine ∧ k = ((y.size : Int) != 0)
  | .ref p => (∃ xs, SqL K H p xs ∧ k = !xs.isEmpty) ∨ (∃ xs, SqT K H p xs ∧ k = !xs.isEmpty) ∨ ∃ kvs, H p = some (.dK kvs) ∧ k = !kvs.isEmpty
  | _ => False
theorem isEmpty_kv {κ : Type} {kvs : List (κ × V)} {vs : List (κ × Value)} (r : KV kvs vs) : (!vs.isEmpty) = !kvs.isEmpty := by
  cases r <;> rfl
theorem isEmpty_of {xs : List V} {its : List Value} (r : Vals xs its) : (!its.toArray.isEmpty) = !xs.isEmpty := by
  cases r <;> simp
theorem line63 : (sizeLine : Nat) < 2 ^ 63 := by rw [sizeLine_eq]; decide
theorem tru_ok : TruR X (fun x H Q => ∃ k, TruV X.K x H k ∧ Q k H) := by
  intro pins s σ H x v Q I rx h
  obtain ⟨k, e, q⟩ := h
  have hl := line63
  have hs : sizeLine = 16777216 := sizeLine_eq
  cases x with
  | non =>
    cases rx
    have e' : k = false := e
    subst e'
    exact truthy_none ⟨H, I, q⟩
  | bl b =>
    cases rx
    have e' : k = b := e
    subst e'
    exact wpAny_truthy_bool ⟨H, I, q⟩
  | int i =>
    obtain ⟨t, rfl⟩ := rx
    have e' : k = (i != 0) := e
    subst e'
    exact PySem.P.truthy_int ⟨H, I, q⟩
  | str y =>
    obtain ⟨t, rfl⟩ := rx
    obtain ⟨hy, e'⟩ : y.length ≤ sizeLine ∧ k = ((y.length : Int) != 0) := e
    subst e'
    exact PySem.P.truthy_str (by omega) ⟨H, I.tok _, q⟩
  | byt y =>
    obtain ⟨t, rfl⟩ := rx
    obtain ⟨hy, e'⟩ : y.size ≤ sizeLine ∧ k = ((y.size : Int) != 0) := e
    subst e'
    exact PySem.W.truthy_bytes (by omega) ⟨H, I.tok _, q⟩
  | ref p =>
    cases rx
    have e' : (∃ xs, SqL X.K H p xs ∧ k = !xs.isEmpty) ∨ (∃ xs, SqT X.K H p xs ∧ k = !xs.isEmpty) ∨ ∃ kvs, H p = some (.dK kvs) ∧ k = !kvs.isEmpty := e
    rcases e' with ⟨xs, hx, e'⟩ | ⟨xs, hx, e'⟩ | ⟨kvs, hx, e'⟩
    · subst e'
      obtain ⟨its, r, pl, hz⟩ := I.list hx
      have hlen := r.length
      exact wpAny_truthy_list pl.isList (by simp only [List.size_toArray]; omega) ⟨H, I.tok _, by rw [isEmpty_of r]; exact q⟩
    · subst e'
      obtain ⟨its, r, pl, hz⟩ := I.tuple hx
      have hlen := r.length
      exact truthy_tuple pl (by simp only [List.size_toArray]; omega) ⟨H, I.tok _, by rw [isEmpty_of r]; exact q⟩
    · subst e'
      obtain ⟨hz, hS, vs, r, m⟩ : kvs.length ≤ sizeLine ∧ (p == sysModules) = false ∧ ∃ vs, KV kvs vs ∧ s.heap.DictOf (mixKind X.prog X.w) p vs := I.hok p _ hx
      have hlen : kvs.length = vs.length := Paired.length r
      exact wpAny_truthy_dict hS m (by omega) ⟨H, I.tok _, by rw [isEmpty_kv r]; exact q⟩
  | _ => exact (show False from e).elim
theorem pt_truth (ha : PE X a ta) (he : ∀ whole, isTrue a X.env whole = (do let v ← whole; standAt a.pos; holding [v] (truthy v))) :
    PT X a (fun σ H Q => ta σ H fun x H' => ∃ k, TruV X.K x H' k ∧ Q k H') := by
  intro pins s σ H Q I h
  exact isTrue_plain (thn (ha pins s σ H _ I h) fun v s1 ⟨x, H1, I1, r1, q1⟩ => tru_ok pins s1 σ H1 x v Q I1 r1 q1) (he _)
theorem vals1 {x : V} {us : List Value} (r : Vals [x] us) : ∃ u, us = [u] ∧ RelV x u := by
  cases r with
  | cons r1 r2 => cases r2; exact ⟨_, rfl, r1⟩
theorem vals2 {x y : V} {us : List Value} (r : Vals [x, y] us) : ∃ u w', us = [u, w'] ∧ RelV x u ∧ RelV y w' := by
  cases r with
  | cons r1 r2 =>
    cases r2 with
    | cons r3 r4 => cases r4; exact ⟨_, _, rfl, r1, r3⟩
theorem call_int1 : CallR X (.type "int") (fun xs H Q => (∃ i, xs = [.int i] ∧ Q (.int i) H) ∨ ∃ k, xs = [.bl k] ∧ Q (.int (if k then 1 else 0)) H) := by
  intro pins s σ H xs us Q I r h
  rcases h with ⟨i, rfl, q⟩ | ⟨k, rfl, q⟩
  · obtain ⟨u, rfl, t, rfl⟩ := vals1 r
    exact call_int_int ⟨.int i, H, I, ⟨_, rfl⟩, q⟩
  · obtain ⟨u, rfl, r1⟩ := vals1 r
    cases r1
    exact call_int_bool ⟨.int (if k then 1 else 0), H, I.tok _, ⟨_, rfl⟩, q⟩
end
end L2
namespace L2
open PySem PySem.Spec PyProof.Rows
structure ObjM (h : Heap) (x dx C : Addr) (mA : Str → Option Value) : Prop where
  obj : h.get? x = some (PySem.W.instObj C dx)
  ns : h.Ns1 dx mA
  ne : dx ≠ x
theorem lookIn_ns {h : Heap} {dx : Addr} {mA : Str → Option Value} (n : h.Ns1 dx mA) : ∃ od, h.get? dx = some od ∧ ∀ name, PySem.W.lookIn name od = some (mA name) := by
  obtain ⟨o, es, ep, ho, hd, hk, _, hm⟩ := n
  refine ⟨o, ho, fun name => ?_⟩
  have e := hm name
  unfold nsFind findBy at e
  rw [← Array.find?_toList] at e
  unfold PySem.W.lookIn
  rw [hd]
  dsimp only
  split
  · rename_i y q
    rw [q] at e
    exact congrArg some e
  · rename_i q
    rw [q] at e
    have a : es.toList.any (·.refKey) = false := by
      rw [List.any_eq_false]
      intro y hy
      obtain ⟨z, t, hkey⟩ := hk y (Array.mem_toList_iff.mp hy)
      simp [DictEntry.refKey, hkey]
    have a' : ¬ es.toList.any (·.refKey) = true := by rw [a]; exact Bool.false_ne_true
    rw [if_neg a']
    exact congrArg some e
theorem ObjM.look {h : Heap} {x dx C : Addr} {mA : Str → Option Value} (I : ObjM h x dx C mA) : ∃ od, PySem.W.InstAt h x (PySem.W.instObj C dx) C (some od) ∧ ∀ name, PySem.W.lookIn name od = some (mA name) :=
  let ⟨od, ho, hl⟩ := lookIn_ns I.ns
  ⟨od, ⟨I.obj, rfl, rfl, ho⟩, hl⟩
section
variable {prog : Program} {w : World} {A : Around} {E : Value → Shared → Prop} {s : Shared} {K : PySem.W.Frag} {x dx C f : Addr} {mA : Str → Option Value} {name : Str} {v : Value}
end
section
variable {P : Program} {w : World} {H H' : Hp} {h h' : Heap} {a C dx : Addr} {fs fs' : List (Str × V)}
theorem ins_get (hok : HOk P w H h) (e : H a = some (.ins C dx fs)) : ∃ mA, ObjM h a dx C mA ∧ (∀ f, RelO (fs.lookup f) (mA f)) ∧ PySem.Within mA (fs.map (·.1)) ∧ fs.length ≤ 1000 ∧ H dx = some (.own a) := by
  obtain ⟨d, z, ne, ob, mA, n, r, q⟩ := (show ObjOk P w H h a (.ins C dx fs) from hok a _ e)
  exact ⟨mA, ⟨ob, n, ne⟩, r, q, z, d⟩
end
structure Cls (K : PySem.W.Frag) (C : Addr) : Prop where
  pg : PySem.W.plainGet K C Str.empty = true
  hd : PySem.W.hasDictIn K C = true
  po : PySem.W.plainOver K C = true
  sa : PySem.W.findIn K (.ref C) "__setattr__" = some (some (.builtin "object.__setattr__"))
theorem Cls.get {K : PySem.W.Frag} {C : Addr} (c : Cls K C) (f : Str) : PySem.W.plainGet K C f = true := c.pg
section
variable {X : Cx} {pins : List (Addr × Obj)} {σ : St} {H : Hp} {s : Shared} {a C dx : Addr} {fs : List (Str × V)} {f : Str} {v : V} {A : Around} {E : Value → Shared → Prop}
end
section
variable {X : Cx} {o e value : Expr} {f : Str} {pos pos' tpos : Pos} {ta tv : TE}
end
section
variable {X : Cx} {pins : List (Addr × Obj)} {σ : St} {H : Hp} {s : Shared} {A : Around} {E : Value → Shared → Prop} {Q : Value → Shared → Prop} {c : Value} {b : Bool}
inductive TyOf (K : PySem.W.Frag) (H : Hp) : V → Value → Prop where
  | non : TyOf K H .non (.type "NoneType")
  | bl (x : Bool) : TyOf K H (.bl x) (.type "bool")
  | int (i : Int) : TyOf K H (.int i) (.type "int")
  | str (x : Str) : TyOf K H (.str x) (.type "str")
  | flt (x : UInt64) : TyOf K H (.flt x) (.type "float")
  | lst {a : Addr} {xs : List V} (e : H a = some (.lst xs)) : TyOf K H (.ref a) (.type "list")
  | frz {a : Addr} {o : Obj} {xs : List V} (e : H a = some (.frz o (.lst xs))) : TyOf K H (.ref a) (.type "list")
  | tup {a : Addr} {xs : List V} (e : H a = some (.tup xs)) : TyOf K H (.ref a) (.type "tuple")
  | dK {a : Addr} {kvs : List (Key × V)} (e : H a = some (.dK kvs)) : TyOf K H (.ref a) (.type "dict")
  | dT {a : Addr} {kvs : List (List Key × V)} (e : H a = some (.dT kvs)) : TyOf K H (.ref a) (.type "dict")
  | ins {a C dx : Addr} {fs : List (Str × V)} (e : H a = some (.ins C dx fs)) (cl : Cls K C) (ha : PySem.W.findIn K (.ref C) "__class__" = some (some (.builtin "object.__class__")))
      (hn : PySem.W.specialIn K (.builtin "object.__class__") "__get__" = some (some (.builtin "getset_descriptor.__get__"))) (htk : PySem.W.takesIn K (.builtin "object.__class__") = some true)
      (hm : PySem.W.mroIn K C (.type "object") = some true) : TyOf K H (.ref a) (.ref C)
theorem isinst_ok {x : V} {u t : Value} (I : Inv X pins σ H s) (rx : RelV x u) (ty : TyOf X.K H x t) (e : PySem.W.kitOne X.K t c = some b) (h : ∀ tk, Q (.bool b) { s with toks := tk }) :
    wpAny (model X.prog X.w) A (call (.builtin "isinstance") [u, c]) Q E s := by
  cases ty with
  | non => cases (show u = Value.none from rx); exact PySem.W.kia_one PySem.W.kitx_none I.kIn True.intro e (fun z => nomatch z) h
  | bl y => cases (show u = Value.bool y from rx); exact PySem.W.kia_one PySem.W.kitx_bool I.kIn True.intro e (fun z => nomatch z) h
  | int i => obtain ⟨t, q⟩ := (show ∃ t, u = Value.int i t from rx); cases q; exact PySem.W.kia_one PySem.W.kitx_int I.kIn True.intro e (fun z => nomatch z) h
  | str y => obtain ⟨t, q⟩ := (show ∃ t, u = Value.str y t from rx); cases q; exact PySem.W.kia_one PySem.W.kitx_str I.kIn True.intro e (fun z => nomatch z) h
  | flt y => obtain ⟨t, q⟩ := (show ∃ t, u = Value.float y t from rx); cases q; exact PySem.W.kia_one PySem.W.kitx_float I.kIn True.intro e (fun z => nomatch z) h
  | @lst a xs ea =>
    cases (show u = Value.ref a from rx)
    obtain ⟨_, _, n, _, h1⟩ := (show ObjOk X.prog X.w H s.heap a (.lst xs) from I.hok a _ ea)
    exact PySem.W.kia_one PySem.W.kitx_list I.kIn ⟨_, h1, rfl⟩ e (fun z => nomatch z) h
  | @frz a ob xs ea =>
    cases (show u = Value.ref a from rx)
    obtain ⟨_, _, _, n, _, h1⟩ := (show ObjOk X.prog X.w H s.heap a (.frz ob (.lst xs)) from I.hok a _ ea)
    exact PySem.W.kia_one PySem.W.kitx_list I.kIn ⟨_, h1, rfl⟩ e (fun z => nomatch z) h
  | @tup a xs ea =>
    cases (show u = Value.ref a from rx)
    obtain ⟨_, _, _, p⟩ := (show ObjOk X.prog X.w H s.heap a (.tup xs) from I.hok a _ ea)
    obtain ⟨o, h1, h2, _⟩ := p
    exact PySem.W.kia_one PySem.W.kitx_tuple I.kIn ⟨o, h1, h2⟩ e (fun z => nomatch z) h
  | @dK a kvs ea =>
    cases (show u = Value.ref a from rx)
    obtain ⟨_, _, vs, _, p⟩ := (show ObjOk X.prog X.w H s.heap a (.dK kvs) from I.hok a _ ea)
    obtain ⟨o, es, ep, h1, h2, _⟩ := p
    exact PySem.W.kia_one PySem.W.kitx_dict I.kIn ⟨o, h1, h2.1⟩ e (fun z => nomatch z) h
  | @dT a kvs ea =>
    cases (show u = Value.ref a from rx)
    obtain ⟨_, _, xs, _, o, es, ep, h1, h2, _⟩ := (show ObjOk X.prog X.w H s.heap a (.dT kvs) from I.hok a _ ea)
    exact PySem.W.kia_one PySem.W.kitx_dict I.kIn ⟨o, h1, h2.1⟩ e (fun z => nomatch z) h
  | @ins a C dx fs ea cl ha hn htk hm =>
    cases (show u = Value.ref a from rx)
    obtain ⟨mA, O, _⟩ := ins_get I.hok ea
    obtain ⟨od, J, _⟩ := O.look
    exact PySem.W.kia_one (PySem.W.kitx_own (cl.get _) cl.hd ha hn htk hm) I.kIn J e (fun z => nomatch z) h
end
end L2
namespace L2
open PySem PySem.Spec PyProof.Rows
structure Room (k : Nat) (A : Around) : Prop where
  hd : A.handled = none
  dp : A.depth + 3 * k + 5 < recursionLimit
  un : A.units + 16 * k + 200 < cLine
theorem Room.mono {j k : Nat} {A : Around} (r : Room k A) (h : j ≤ k) : Room j A := ⟨r.hd, by have := r.dp; omega, by have := r.un; omega⟩
theorem Room.deeper {k : Nat} {A : Around} (r : Room (k + 1) A) (env : Env) : Room k (A.deeper env) :=
  ⟨r.hd, by have := r.dp; show A.depth + 1 + 3 * k + 5 < _; omega, by have := r.un; show A.units + 3 + 16 * k + 200 < _; omega⟩
theorem Room.depth {k : Nat} {A : Around} (r : Room k A) : A.depth < recursionLimit := by have := r.dp; omega
theorem Room.units {k : Nat} {A : Around} (r : Room k A) : A.units + 64 < cLine := by have := r.un; omega
def tNil : TA := fun _ H Q => Q [] H
def tCons (ta : TE) (tr : TA) : TA := fun σ H Q => ta σ H fun x H1 => tr σ H1 fun xs H2 => Q (x :: xs) H2
section
variable {X : Cx} {e : Expr} {es : List Expr} {te : TE} {t : TA} {pos : Pos}
theorem pa_nil : PA X [] tNil := fun _ _ _ _ H Q I h => Calls.spliced_nil ⟨[], H, I, .nil, h⟩
theorem pa_cons (ha : PE X e te) (hr : PA X es t) (hs : starEach (e :: es) X.env = (false, eval e X.env) :: starEach es X.env := by rfl) : PA X (e :: es) (tCons te t) := by
  intro pos pins s σ H Q I h
  rw [hs]
  show wpAny _ _ (spliced ((false, eval e X.env) :: backTo pos (starEach es X.env))) _ _ s
  refine Calls.spliced_cons (thn (ha pins s σ H _ I h) fun u s1 ⟨x, H1, I1, r1, q1⟩ => ?_)
  exact thn (hr pos pins s1 σ H1 _ I1 q1) fun us s2 ⟨xs, H2, I2, r2, q2⟩ => ⟨x :: xs, H2, I2, .cons r1 r2, q2⟩
def tTup (t : TA) : TE := fun σ H Q => t σ H fun xs H1 => xs.length ≤ sizeLine ∧ ∀ p, H1 p = none → Q (.ref p) (upd H1 p (.tup xs))
def tLst (t : TA) : TE := fun σ H Q => t σ H fun xs H1 => xs.length ≤ sizeLine ∧ ∀ p, H1 p = none → Q (.ref p) (upd H1 p (.lst xs))
theorem pe_tup {x1} (h : PA X es t) : PE X (.Tuple es x1 pos) (tTup t) := by
  intro pins s σ H Q I hq
  refine wpAny_Tuple_spliced (thn (h pos pins s σ H _ I hq) fun us s1 ⟨xs, H1, I1, r, z, q⟩ => ⟨by rw [← r.length]; exact z, ?_⟩)
  have hf : H1 s1.heap.objs.size = none := I1.hok.fresh (Nat.le_refl _)
  refine ⟨.ref s1.heap.objs.size, upd H1 s1.heap.objs.size (.tup xs), I1.laid (t' := s1.toks) (fun b u e => Heap.get?_push_of_some _ e) (Nat.le_refl _) ?_, rfl, q _ hf⟩
  exact ⟨z, us, r, ⟨_, Heap.get?_push_size _ rfl, rfl, _, rfl⟩⟩
theorem pe_lst (h : PA X es t) : PE X (.List es pos) (tLst t) := by
  intro pins s σ H Q I hq
  refine wpAny_List_spliced (thn (h pos pins s σ H _ I hq) fun us s1 ⟨xs, H1, I1, r, z, q⟩ => ⟨by rw [← r.length]; exact z, ?_⟩)
  have hf : H1 s1.heap.objs.size = none := I1.hok.fresh (Nat.le_refl _)
  refine ⟨.ref s1.heap.objs.size, upd H1 s1.heap.objs.size (.lst xs), I1.laid (t' := s1.toks) (fun b u e => Heap.get?_push_of_some _ e) (Nat.le_refl _) ?_, rfl, q _ hf⟩
  exact ⟨z, us, 0, r, Heap.get?_push_size _ rfl⟩
end
abbrev Sp := List V → Hp → VK → XK → Prop
abbrev CXT := List Env → Hp → Shared → XK → Value → Shared → Prop
structure Env0 (P : Program) (w : World) (K : PySem.W.Frag) (mg : Str → Option Value) (base : Heap) (A : Around) (outer : List Env) (s : Shared) (H : Hp) : Prop where
  frames : A.frames = some outer
  mod : Mod K mg base
  bs : ∀ b o, base.get? b = some o → s.heap.get? b = some o ∧ H b = none
  bsz : base.objs.size ≤ s.heap.objs.size
  funs : s.heap.FunFrames base outer
  frf : ∀ b ∈ frs outer, H b = none
  hok : HOk P w H s.heap
  bare : AllBare s.gens
def CE (outer : List Env) (P : Program) (w : World) (H : Hp) (s : Shared) (Q : VK) (u : Value) (s' : Shared) : Prop :=
  ∃ v H', s'.os = s.os ∧ AllBare s'.gens ∧ Un (frs outer) [] H H' s.heap s'.heap ∧ HOk P w H' s'.heap ∧ RelV v u ∧ Q v H'
def CR (CX : CXT) (outer : List Env) (P : Program) (w : World) (H : Hp) (s : Shared) (Q : VK) (E : XK) (r : Result) (s' : Shared) : Prop :=
  match r with
  | .ok (.ret u) => CE outer P w H s Q u s'
  | .ok _ => False
  | .error e => CX outer H s E e s'
structure FnOk (P : Program) (w : World) (K : PySem.W.Frag) (mg : Str → Option Value) (base : Heap) (CX : CXT) (k : Nat) (f : Addr) (fd : FuncData) (ps : List Str) (sp : Sp) : Prop where
  len : ∀ vs H Q E, sp vs H Q E → vs.length = ps.length
  run : ∀ (A : Around) (outer : List Env) (s : Shared) (H : Hp) (args : Args) (us : List Value) (vs : List V) (Q : VK) (E : XK), Room k A → Env0 P w K mg base A outer s H → BindsTo s fd args (ps.zip us) → Vals vs us → sp vs H Q E →
    codeAny (model P w) A (.call (.ref f) args) (CR CX outer P w H s Q E) s
theorem FnOk.mono {P : Program} {w : World} {K : PySem.W.Frag} {mg : Str → Option Value} {base : Heap} {CX : CXT} {j k : Nat} {f : Addr} {fd : FuncData} {ps : List Str} {sp : Sp} (F : FnOk P w K mg base CX j f fd ps sp) (h : j ≤ k) :
    FnOk P w K mg base CX k f fd ps sp := ⟨F.len, fun A outer s H args us vs Q E hr => F.run A outer s H args us vs Q E (hr.mono h)⟩
section
variable {X : Cx} {pins : List (Addr × Obj)} {σ : St} {H : Hp} {s s' : Shared}
theorem Inv.env0 (I : Inv X pins σ H s) : Env0 X.prog X.w X.K X.mg X.base X.A X.stack s H :=
  ⟨I.ok.frames, I.ok.mod, I.bs, Nat.le_trans I.ok.bsz I.sz, I.stack, I.stkFree, I.hok, I.bare⟩
theorem Inv.after {Q : VK} {u : Value} (I : Inv X pins σ H s) (h : CE X.stack X.prog X.w H s Q u s') : EP X pins σ Q u s' := by
  obtain ⟨v, H', os, bare, un, hok, r, q⟩ := h
  obtain ⟨hh, g, d, t, os'⟩ := s'
  obtain rfl : os' = s.os := os
  exact ⟨v, H', I.call (h' := hh) (g' := g) (d' := d) (t' := t) (ch := []) un hok bare (fun b z => absurd z (by simp)), r, q⟩
end
def tCall (sp : Sp) (dvs : List V) (E : XK) (t : TA) : TE := fun σ H Q => t σ H fun vs H1 => sp (vs ++ dvs) H1 Q E
def Binds (K : PySem.W.Frag) (fd : FuncData) (ps : List Str) (ds : List Value) : Prop :=
  ∀ (s : Shared) (us : List Value), K.In s.heap → (us ++ ds).length = ps.length → BindsTo s fd ⟨us, []⟩ (ps.zip (us ++ ds))
theorem Binds.all {K : PySem.W.Frag} {fd : FuncData} {ps : List Str} (h : ∀ us : List Value, us.length = ps.length → bindArgs fd ⟨us, []⟩ = pure (ps.zip us)) : Binds K fd ps [] := fun s us _ hl => by
  rw [List.append_nil] at hl ⊢
  exact .of_eq (h us hl)
def Passes (CX : CXT) (X : Cx) (E : XK) : Prop := ∀ (pins : List (Addr × Obj)) (σ : St) (H : Hp) (s : Shared) (e : Value) (s' : Shared), Inv X pins σ H s → CX X.stack H s E e s' → X.xe e s'
section
variable {X : Cx} {CX : CXT} {k : Nat} {f C : Addr} {fd : FuncData} {ps : List Str} {sp : Sp} {dvs : List V} {ds : List Value} {E : XK} {x m : Str} {p pos apos : Pos} {e o : Expr} {es : List Expr} {ta : TE} {t : TA}
theorem run_fn {pins : List (Addr × Obj)} {σ : St} {H : Hp} {s : Shared} {Q : VK} {us : List Value} {vs : List V} (F : FnOk X.prog X.w X.K X.mg X.base CX k f fd ps sp) (hr : Room k X.A) (hb : Binds X.K fd ps ds) (hd : Vals dvs ds) (hx : Passes CX X E)
    (I : Inv X pins σ H s) (r : Vals vs us) (h : sp (vs ++ dvs) H Q E) : wpAny (model X.prog X.w) X.A (call (.ref f) us) (EP X pins σ Q) X.xe s := by
  have r2 : Vals (vs ++ dvs) (us ++ ds) := r.append hd
  have hl : (us ++ ds).length = ps.length := by rw [← r2.length]; exact F.len _ _ _ _ h
  refine wpAny_call (codeAny_mono (F.run X.A X.stack s H ⟨us, []⟩ (us ++ ds) (vs ++ dvs) Q E hr I.env0 (hb s us I.kIn hl) r2 h) fun r s' hq => ?_)
  cases r with
  | error e => exact hx pins σ H s e s' I hq
  | ok fl =>
    cases fl with
    | ret u => exact I.after hq
    | next => exact False.elim hq
    | brk => exact False.elim hq
    | cont => exact False.elim hq
theorem pe_call (F : FnOk X.prog X.w X.K X.mg X.base CX k f fd ps sp) (hr : Room k X.A) (hg : Gl X x) (hm : X.mg x = some (.ref f)) (hk : PySem.W.keepIn X.K (.ref f) = true) (hb : Binds X.K fd ps ds) (hd : Vals dvs ds) (hx : Passes CX X E)
    (ha : PA X (e :: es) t) (hdb : (x == ("__debug__" : Str)) = false := by decide) (he : starEach (e :: es) X.env = (false, eval e X.env) :: starEach es X.env := by rfl) (hpl : (backTo pos (starEach es X.env)).any (·.1) = false := by rfl) :
    PE X (.Call (.Name x p) (e :: es) [] pos) (tCall sp dvs E t) := by
  intro pins s σ H Q I h
  refine wpAny_Call_Name_kw (ld_glob I hg hm ?_ hdb)
  refine PySem.W.callWith_K (h₀ := X.base) I.ok.mod.kin hk (thn (ha pos pins s σ H _ I h) fun us s1 ⟨vs, H1, I1, r, q⟩ => ⟨I1.kIn, ?_⟩) he hpl
  exact run_fn F hr hb hd hx I1 r q
end
section
variable {X : Cx} {CX : CXT} {k : Nat} {f C : Addr} {fd : FuncData} {ps ks : List Str} {sp : Sp} {E : XK} {x m : Str} {p pos apos kpos : Pos} {e o : Expr} {es : List Expr} {kws : List Keyword} {te ta : TE} {t tk : TA} {nm : Option Str}
variable {g : List Value → List Value → List Value} {gV : List V → List V → List V}
end
structure FnScope (N P : List Str) (sc : Scope) : Prop where
  kind : sc.kind = .function
  co : sc.isCoroutine = false
  gen : sc.isGenerator = false
  nd : N.Nodup
  pre : N.take P.length = P
  par : ∀ x ∈ P, sc.names.lookup x = some .local ∨ sc.names.lookup x = some .cell
  nofree : ∀ y ∈ sc.names, y.2 ≠ .free
theorem bindL_out {kindOf : Str → Option NameKind} {x : Str} : ∀ {binds : List (Str × Value)} {m : Str → Option Value}, (∀ v, (x, v) ∉ binds) → bindL kindOf binds m x = m x
  | [], _, _ => rfl
  | (n, v) :: r, m, h => by
    unfold bindL
    rw [bindL_out fun w hw => h w (List.mem_cons_of_mem _ hw)]
    split
    · have : x ≠ n := by rintro rfl; exact h v List.mem_cons_self
      simp [this]
    · rfl
theorem bindC_out {kindOf : Str → Option NameKind} {x : Str} : ∀ {binds : List (Str × Value)} {m : Str → Option Value}, (∀ v, (x, v) ∉ binds) → bindC kindOf binds m x = m x
  | [], _, _ => rfl
  | (n, v) :: r, m, h => by
    unfold bindC
    rw [bindC_out fun w hw => h w (List.mem_cons_of_mem _ hw)]
    split
    · rfl
    · have : x ≠ n := by rintro rfl; exact h v List.mem_cons_self
      simp [this]
theorem bindL_get {kindOf : Str → Option NameKind} {x : Str} {v : Value} : ∀ {P : List Str} {vs : List Value} {i : Nat} {m : Str → Option Value}, P.Nodup → P[i]? = some x → vs[i]? = some v → kindOf x = some .local →
    bindL kindOf (P.zip vs) m x = some v
  | [], _, _, _, _, h, _, _ => by simp at h
  | _ :: _, [], _, _, _, _, h, _ => by simp at h
  | p :: P, w :: vs, 0, m, nd, h1, h2, hk => by
    simp at h1 h2; subst h1; subst h2
    show bindL kindOf ((p, w) :: P.zip vs) m p = _
    unfold bindL
    rw [bindL_out fun v hv => (List.nodup_cons.mp nd).1 (List.of_mem_zip hv).1, if_pos hk]
    simp
  | p :: P, w :: vs, i + 1, m, nd, h1, h2, hk => by
    show bindL kindOf ((p, w) :: P.zip vs) m x = _
    unfold bindL
    exact bindL_get (i := i) (List.nodup_cons.mp nd).2 (by simpa using h1) (by simpa using h2) hk
theorem bindC_get {kindOf : Str → Option NameKind} {x : Str} {v : Value} : ∀ {P : List Str} {vs : List Value} {i : Nat} {m : Str → Option Value}, P.Nodup → P[i]? = some x → vs[i]? = some v → kindOf x ≠ some .local →
    bindC kindOf (P.zip vs) m x = some v
  | [], _, _, _, _, h, _, _ => by simp at h
  | _ :: _, [], _, _, _, _, h, _ => by simp at h
  | p :: P, w :: vs, 0, m, nd, h1, h2, hk => by
    simp at h1 h2; subst h1; subst h2
    show bindC kindOf ((p, w) :: P.zip vs) m p = _
    unfold bindC
    rw [bindC_out fun v hv => (List.nodup_cons.mp nd).1 (List.of_mem_zip hv).1, if_neg hk]
    simp
  | p :: P, w :: vs, i + 1, m, nd, h1, h2, hk => by
    show bindC kindOf ((p, w) :: P.zip vs) m x = _
    unfold bindC
    exact bindC_get (i := i) (List.nodup_cons.mp nd).2 (by simpa using h1) (by simpa using h2) hk
def start (N : List Str) (vs : List V) : St := vs.map some ++ List.replicate (N.length - vs.length) none
def cxOf (CX : CXT) (P : Program) (w : World) (K : PySem.W.Frag) (mg : Str → Option Value) (base : Heap) (N : List Str) (qual : Str) (scope : Scope) (f : Addr) (cd : Value) (A : Around) (outer : List Env) (s : Shared) (H : Hp) (E : XK) : Cx where
  prog := P
  w := w
  K := K
  mg := mg
  base := base
  A := A.deeper (envOfC qual scope s.heap.objs.size f cd)
  N := N
  s₀ := s
  H₀ := H
  env := envOfC qual scope s.heap.objs.size f cd
  outer := outer
  stack := envOfC qual scope s.heap.objs.size f cd :: outer
  ex := []
  calm := true
  fn := fun _ => true
  pn := []
  xe := fun e s' => wpAny (model P w) (A.deeper (envOfC qual scope s.heap.objs.size f cd)) (leaving (envOfC qual scope s.heap.objs.size f cd) e) (fun _ s'' => CX outer H s E e s'') (fun e' s'' => CX outer H s E e' s'') s'
theorem cell_has {sc : Scope} {n : Nat} {x : Str} (h : sc.names.lookup x = some .cell) : ∃ c, (cellsFrom n sc.names []).lookup x = some c := by
  have q := PySem.W.cellsFrom_some sc.names n [] (.inl h)
  exact Option.isSome_iff_exists.mp q
theorem inv_start {CX : CXT} {P : Program} {w : World} {K : PySem.W.Frag} {mg : Str → Option Value} {base : Heap} {N ps : List Str} {qual : Str} {scope : Scope} {f : Addr} {cd : Value} {A : Around} {outer : List Env} {s s1 : Shared} {H : Hp} {E : XK} {us : List Value} {vs : List V}
    (S : FnScope N ps scope) (hd : A.handled = none) (e0 : Env0 P w K mg base A outer s H) (hl : vs.length = ps.length) (r : Vals vs us)
    (x : InCallC s s.heap.objs.size (bindL (envOfC qual scope s.heap.objs.size f cd).kindOf (ps.zip us) fun _ => none) (cellsFrom (s.heap.objs.size + 1) scope.names []) (bindC (envOfC qual scope s.heap.objs.size f cd).kindOf (ps.zip us) fun _ => none) s1) :
    Inv (cxOf CX P w K mg base N qual scope f cd A outer s H E) [] (start N vs) H s1 := by
  have hpl : ps.length ≤ N.length := by have := congrArg List.length S.pre; rw [List.length_take] at this; omega
  obtain ⟨h1, tk, rfl, hk⟩ := x.done
  have noA : ∀ b : Addr, b ∉ (cxOf CX P w K mg base N qual scope f cd A outer s H E).ex := fun b z => absurd (show b ∈ ([] : List Addr) from z) (by simp)
  refine ⟨⟨e0.mod, S.kind, rfl, rfl, Nat.le_refl _, fun y z c h1 h2 => ?_, fun y hy => ?_, fun y c _ h => ?_, fun _ => hd, Around.frames_deeper e0.frames, .inr ⟨rfl, rfl⟩, fun b z => absurd z (noA b), e0.bs, e0.bsz, fun b _ _ => noA b, fun b z => absurd z (noA b), e0.funs, e0.frf⟩,
    rfl, e0.bare, Un.kept hk, ⟨_, x.toInCall.ns, fun i y v h1 h2 h3 => ?_⟩, fun y c h => ⟨_, x.cell y c h⟩, e0.hok.fresh (Nat.le_refl _), fun y c h => ?_, fun p hp => absurd (show p ∈ ([] : List (Addr × Obj)) from hp) (by simp), e0.hok.kept hk, ?_⟩
  · exact name_of_addr x.apart (PySem.mem_of_lookup h1) (PySem.mem_of_lookup h2)
  · have hy : scope.names.lookup y = some .cell ∨ scope.names.lookup y = some .free := hy
    rcases hy with hy | hy
    · exact cell_has hy
    · exact absurd rfl (S.nofree _ (PySem.mem_of_lookup hy))
  · exact Nat.le_of_lt (x.above y c (PySem.mem_of_lookup h))
  · have hi : i < vs.length := by
      unfold start at h2
      by_cases hi : i < vs.length
      · exact hi
      · rw [List.getElem?_append_right (by simpa using hi)] at h2
        rw [List.getElem?_replicate] at h2
        split at h2 <;> cases h2
    have ha : vs[i]? = some v := by
      unfold start at h2
      rw [List.getElem?_append_left (by simpa using hi), List.getElem?_map] at h2
      cases e : vs[i]? with
      | none => rw [e] at h2; cases h2
      | some a => rw [e] at h2; cases h2; rfl
    obtain ⟨u, hu, rv⟩ := r.get ha
    have hp : ps[i]? = some y := by
      rw [← S.pre, List.getElem?_take_of_lt (by omega)]; exact h1
    have ndP : ps.Nodup := by rw [← S.pre]; exact S.nd.sublist (List.take_sublist _ _)
    refine ⟨u, rv, ?_⟩
    rcases S.par y (List.mem_of_getElem? hp) with k | k
    · exact .inl ⟨k, bindL_get ndP hp hu k⟩
    · obtain ⟨c, e⟩ := cell_has (n := s.heap.objs.size + 1) k
      refine .inr ⟨.inl k, c, e, ?_⟩
      have q := x.cell y c e
      rw [bindC_get ndP hp hu (by show scope.names.lookup y ≠ _; rw [k]; decide)] at q
      exact q
  · exact e0.hok.fresh (Nat.le_of_lt (x.above y c (PySem.mem_of_lookup h)))
  · unfold start
    show _ = N.length
    rw [List.length_append, List.length_map, List.length_replicate]
    omega
theorem fn_of {CX : CXT} {P : Program} {w : World} {K : PySem.W.Frag} {mg : Str → Option Value} {base : Heap} {k : Nat} {f : Addr} {name qual : Str} {params : Arguments} {body : List Stmt} {scope : Scope} {dV kV doc pm cdv ct oc : Value} {an od : Option Addr}
    {osl : Array (Option Value)} {N ps : List Str} {sp : Sp} (lk : K.lookup f = some ⟨oc, od, .func (PySem.W.fnOf name qual params body scope dV kV doc pm an cdv ct), osl⟩) (hcd : PySem.W.codeIn K cdv qual = true) (S : FnScope N ps scope)
    (len : ∀ vs H Q E, sp vs H Q E → vs.length = ps.length)
    (hbody : ∀ (A : Around) (outer : List Env) (s : Shared) (H : Hp) (vs : List V) (Q : VK) (E : XK), Room k (A.deeper (envOfC qual scope s.heap.objs.size f cdv)) → sp vs H Q E →
      ∃ t, PSs (cxOf CX P w K mg base N qual scope f cdv A outer s H E) body t ∧ t { nx := fun _ H' => Q .non H', rt := Q } (start N vs) H) :
    FnOk P w K mg base CX (k + 1) f (PySem.W.fnOf name qual params body scope dV kV doc pm an cdv ct) ps sp := by
  refine ⟨len, fun A outer s H args us vs Q E hr e0 hb r hsp => ?_⟩
  have hl := len _ _ _ _ hsp
  have KX : K.In s.heap := e0.mod.kin.keeps fun b o e => (e0.bs b o e).1
  have lim : s.heap.NoLimit := e0.mod.nolimit.keeps fun b o e => (e0.bs b o e).1
  have hkind : ∀ y ∈ ps.zip us, scope.names.lookup y.1 = some .local ∨ (scope.names.lookup y.1 = some .cell ∧ ((cellsFrom (s.heap.objs.size + 1) scope.names []).lookup y.1).isSome = true) := fun ⟨n, v⟩ hy => by
    rcases S.par n (List.of_mem_zip hy).1 with q | q
    · exact .inl q
    · exact .inr ⟨q, PySem.W.cellsFrom_some _ _ _ (.inl q)⟩
  refine codeAny_call_function hr.depth (KX _ _ lk) rfl S.co S.gen rfl (PySem.W.codeRec_of KX hcd) (hb _ _ _ _ ?_)
  refine wpAny_newFunctionEnv_cells S.kind hkind fun env he s1 x => ?_
  subst he
  refine ⟨lim.keeps x.toInCall.keep, codeAny_func ?_⟩
  obtain ⟨t, ht, hq⟩ := hbody A outer s H vs Q E (hr.deeper _) hsp
  have I : Inv (cxOf CX P w K mg base N qual scope f cdv A outer s H E) [] (start N vs) H s1 := inv_start S hr.hd e0 hl r x
  refine wpAny_mono (ht [] s1 (start N vs) H _ I hq) (fun fl s' hs => ?_) fun e s' hs => hs
  have fin : ∀ {σ' : St} {H' : Hp} {v : V} {u : Value}, Inv (cxOf CX P w K mg base N qual scope f cdv A outer s H E) [] σ' H' s' → RelV v u → Q v H' → CE outer P w H s Q u s' :=
    fun {σ' H' v u} J rv q => ⟨v, H', J.os, J.bare, J.base, J.hok, rv, q⟩
  cases fl with
  | ret u =>
    obtain ⟨v, σ', H', J, rv, q⟩ := hs
    exact fin J rv q
  | next =>
    obtain ⟨σ', H', J, q⟩ := hs
    exact fin (v := V.non) (u := Value.none) J rfl q
  | brk =>
    obtain ⟨_, _, _, q⟩ := hs
    exact False.elim q
  | cont =>
    obtain ⟨_, _, _, q⟩ := hs
    exact False.elim q
end L2
namespace L2
open PySem PySem.Spec PyProof.Rows
section
variable {X : Cx} {x : Str} {p pos : Pos} {e : Expr} {es : List Expr} {t : TA} {id T : String} {r : List V → Hp → VK → Prop}
def tCB (r : List V → Hp → VK → Prop) (t : TA) : TE := fun σ H Q => t σ H fun vs H1 => r vs H1 Q
theorem pe_callB (hc : CallR X (.builtin id) r) (hg : Gl X x) (hm : X.mg x = none) (hv : bootBuiltins x = some (.builtin id)) (ha : PA X (e :: es) t) (hn : x ≠ "__name__" := by decide) (hdb : (x == ("__debug__" : Str)) = false := by decide)
    (he : starEach (e :: es) X.env = (false, eval e X.env) :: starEach es X.env := by rfl) (hpl : (backTo pos (starEach es X.env)).any (·.1) = false := by rfl) : PE X (.Call (.Name x p) (e :: es) [] pos) (tCB r t) := by
  intro pins s σ H Q I h
  refine wpAny_Call_Name_kw (ld_blt I hg hm hv ?_ hn hdb)
  exact PyProof.Rows.callWith_builtin1 (thn (ha pos pins s σ H _ I h) fun us s1 ⟨vs, H1, I1, r1, q1⟩ => hc pins s1 σ H1 vs us Q I1 r1 q1) he hpl
theorem pe_callTy (hc : CallR X (.type T) r) (hg : Gl X x) (hm : X.mg x = none) (hv : bootBuiltins x = some (.type T)) (ha : PA X (e :: es) t) (hn : x ≠ "__name__" := by decide) (hdb : (x == ("__debug__" : Str)) = false := by decide)
    (he : starEach (e :: es) X.env = (false, eval e X.env) :: starEach es X.env := by rfl) (hpl : (backTo pos (starEach es X.env)).any (·.1) = false := by rfl) : PE X (.Call (.Name x p) (e :: es) [] pos) (tCB r t) := by
  intro pins s σ H Q I h
  refine wpAny_Call_Name_kw (ld_blt I hg hm hv ?_ hn hdb)
  exact PyProof.Rows.callWith_type1 (thn (ha pos pins s σ H _ I h) fun us s1 ⟨vs, H1, I1, r1, q1⟩ => hc pins s1 σ H1 vs us Q I1 r1 q1) he hpl
end
end L2
namespace HT
open PySem PyProof.Rows
section
open PySem.SeqAt
open PySem.AutoSeq1 (wpAny_loadPart')
open PySem.MeetsSeq PySem.MeetsSeq2 PySem.MeetsSeq3
end
section
variable {prog : Program} {w : World} {A : Around} {E : Value → Shared → Prop} {s : Shared}
def sIx (n d : Nat) : Option Int → Nat
  | none => d
  | some v => if v < 0 then (v + (n : Int)).toNat else min v.toNat n
end
end HT
namespace L2
open PySem PySem.Spec PyProof.Rows
abbrev TO := St → Hp → (Option Int → Hp → Prop) → Prop
def PO (X : Cx) (e : Option Expr) (t : TO) : Prop :=
  ∀ (pins : List (Addr × Obj)) (s : Shared) (σ : St) (H : Hp) (Q : Option Int → Hp → Prop), Inv X pins σ H s → t σ H Q →
    wpAny (model X.prog X.w) X.A (evalPart e X.env) (fun u s' => ∃ o H', Inv X pins σ H' s' ∧ IsPart u o ∧ Q o H') X.xe s
def tNoPart : TO := fun _ H Q => Q none H
def tPart (t : TE) : TO := fun σ H Q => t σ H fun x H1 => ∃ i, x = .int i ∧ Q (some i) H1
section
variable {X : Cx} {e : Expr} {te : TE} {lo hi : Option Expr} {tl th : TO} {pos p2 : Pos}
theorem po_none : PO X none tNoPart := by
  intro pins s σ H Q I h
  rw [evalPart_none]
  exact wpAny_pure ⟨none, H, I, .none, h⟩
theorem po_some (h : PE X e te) : PO X (some e) (tPart te) := by
  intro pins s σ H Q I hw
  rw [evalPart_some]
  refine thn (h pins s σ H _ I hw) fun u s1 ⟨x, H1, I1, r1, q1⟩ => ?_
  obtain ⟨i, rfl, q⟩ := q1
  obtain ⟨t, rfl⟩ := r1
  exact ⟨some i, H1, I1, .int i t, q⟩
def SlR (X : Cx) (r : V → Option Int → Option Int → Hp → VK → Prop) : Prop :=
  ∀ (pins : List (Addr × Obj)) (s : Shared) (σ : St) (H : Hp) (x : V) (v vl vu : Value) (lo hi : Option Int) (sl : Addr) (Q : VK), Inv X pins σ H s → RelV x v → s.heap.IsSliceOf sl vl vu .none → IsPart vl lo → IsPart vu hi → r x lo hi H Q →
    ∃ T id, typeLookup (.type T) "__getitem__" = pure (some (.builtin id)) ∧ s.TypeIs v T ∧ wpAny (model X.prog X.w) X.A (getItem v (.ref sl)) (EP X pins σ Q) X.xe s
def tSl (r : V → Option Int → Option Int → Hp → VK → Prop) (te : TE) (tl th : TO) : TE := fun σ H Q => te σ H fun x H1 => tl σ H1 fun l H2 => th σ H2 fun u H3 => r x l u H3 Q
theorem pe_slice {r : V → Option Int → Option Int → Hp → VK → Prop} (hr : SlR X r) (he : PE X e te) (hl : PO X lo tl) (hu : PO X hi th) : PE X (.Subscript e (.Slice lo hi none p2) pos) (tSl r te tl th) := by
  intro pins s σ H Q I h
  refine Subscript_ (thn (he pins s σ H _ I h) fun v s1 ⟨x, H1, I1, r1, q1⟩ => ?_)
  refine wpAny_Slice (thn (hl pins s1 σ H1 _ I1 q1) fun vl s2 ⟨l, H2, I2, pl, q2⟩ => thn (hu pins s2 σ H2 _ I2 q2) fun vu s3 ⟨u, H3, I3, pu, q3⟩ => ?_)
  rw [evalPart_none]
  refine wpAny_pure ?_
  have I4 : Inv X pins σ H3 { s3 with heap := s3.heap.push { cls := .type "slice", data := .fields #[vl, vu, .none] } } := I3.kept (t' := s3.toks) fun b ob q => Heap.get?_push_of_some _ q
  obtain ⟨T, id, hT, ht, hg⟩ := hr pins { s3 with heap := s3.heap.push { cls := .type "slice", data := .fields #[vl, vu, .none] } } σ H3 x v vl vu l u s3.heap.objs.size Q I4 r1 (Heap.IsSliceOf.new ..) pl pu q3
  show wpAny (model X.prog X.w) X.A (subscriptTail e (.Slice lo hi none p2) v (.ref s3.heap.objs.size)) (EP X pins σ Q) X.xe { s3 with heap := s3.heap.push { cls := .type "slice", data := .fields #[vl, vu, .none] } }
  exact tail_any (ops := [.ref s3.heap.objs.size, v]) ht hT hg (by with_unfolding_all rfl)
def cutV (xs : List V) (lo hi : Option Int) : List V := (xs.drop (HT.sIx xs.length 0 lo)).take (HT.sIx xs.length xs.length hi - HT.sIx xs.length 0 lo)
theorem cutV_length (xs : List V) (lo hi : Option Int) : (cutV xs lo hi).length ≤ xs.length := by
  unfold cutV
  rw [List.length_take, List.length_drop]
  omega
end
end L2
namespace L2
open PySem PySem.Spec PyProof.Rows
def ixN (n : Nat) (i : Int) : Option Nat := if 0 ≤ i then (if i < n then some i.toNat else none) else if -(n : Int) ≤ i then some (i + n).toNat else none
def atI {α : Type} (xs : List α) (i : Int) : Option α := (ixN xs.length i).bind fun j => xs[j]?
theorem ixN_seq {n : Nat} {i : Int} {j : Nat} (h : ixN n i = some j) : seqIndex? i n = some j ∧ j < n ∧ -(n : Int) ≤ i ∧ i < n := by
  unfold ixN at h
  by_cases h0 : 0 ≤ i
  · rw [if_pos h0] at h
    by_cases h1 : i < n
    · rw [if_pos h1] at h
      have e : i.toNat = j := Option.some.inj h
      exact ⟨by rw [seqIndex_of h0 h1, e], by omega, by omega, h1⟩
    · rw [if_neg h1] at h; cases h
  · rw [if_neg h0] at h
    by_cases h1 : -(n : Int) ≤ i
    · rw [if_pos h1] at h
      have e : (i + n).toNat = j := Option.some.inj h
      exact ⟨by rw [seqIndex_neg (by omega) h1, e], by omega, h1, by omega⟩
    · rw [if_neg h1] at h; cases h
theorem atI_get {α : Type} {xs : List α} {i : Int} {v : α} (h : atI xs i = some v) : ∃ j, seqIndex? i xs.length = some j ∧ xs[j]? = some v ∧ j < xs.length ∧ -(xs.length : Int) ≤ i ∧ i < xs.length := by
  unfold atI at h
  cases e : ixN xs.length i with
  | none => rw [e] at h; cases h
  | some j =>
    rw [e] at h
    obtain ⟨h1, h2, h3, h4⟩ := ixN_seq e
    exact ⟨j, h1, h, h2, h3, h4⟩
theorem atI_nat {α : Type} {xs : List α} {j : Nat} {v : α} (h : xs[j]? = some v) : atI xs (j : Int) = some v := by
  have hj : j < xs.length := (List.getElem?_eq_some_iff.mp h).1
  have e : ixN xs.length (j : Int) = some j := by
    unfold ixN
    rw [if_pos (by omega), if_pos (by omega)]; simp
  unfold atI; rw [e]; exact h
def PlainIx (b : Expr) : Prop := ∀ o i, subscripted b false o i = operate [o, i] (getItem o i)
def IxR (X : Cx) (r : R2) : Prop :=
  ∀ (value slice : Expr) (pins : List (Addr × Obj)) (s : Shared) (σ : St) (H : Hp) (x y : V) (v u : Value) (Q : VK), Inv X pins σ H s → RelV x v → RelV y u → r x y H Q →
    subscripted slice false v u = operate [v, u] (getItem v u) → wpAny (model X.prog X.w) X.A (subscriptTail value slice v u) (EP X pins σ Q) X.xe s
def MtR (X : Cx) (id : String) (r : V → List V → Hp → VK → Prop) : Prop :=
  ∀ (pins : List (Addr × Obj)) (s : Shared) (σ : St) (H : Hp) (x : V) (xs : List V) (v : Value) (us : List Value) (Q : VK), Inv X pins σ H s → RelV x v → Vals xs us → r x xs H Q →
    wpAny (model X.prog X.w) X.A (call (.builtin id) (v :: us)) (EP X pins σ Q) X.xe s
section
variable {X : Cx} {a b : Expr} {ta tb : TE} {pos : Pos}
theorem pe_ix {r : R2} (hr : IxR X r) (ha : PE X a ta) (hb : PE X b tb) (hs : PlainIx b) : PE X (.Subscript a b pos) (tOp r ta tb) := by
  intro pins s σ H Q I h
  exact Subscript_ (binT ha hb I h fun v u s2 x y H2 I2 rx ry q => hr a b pins s2 σ H2 x y v u Q I2 rx ry q (hs _ _))
def rIxL (K : PySem.W.Frag) : R2 := fun x y H Q => ∃ p xs i v, x = .ref p ∧ y = .int i ∧ SqL K H p xs ∧ atI xs i = some v ∧ Q v H
def rIxT (K : PySem.W.Frag) : R2 := fun x y H Q => ∃ p xs i v, x = .ref p ∧ y = .int i ∧ SqT K H p xs ∧ atI xs i = some v ∧ Q v H
theorem ix_list : IxR X (rIxL X.K) := by
  intro value slice pins s σ H x y v u Q I rx ry h hs
  obtain ⟨p, xs, i, z, rfl, rfl, hq, he, q⟩ := h
  cases rx
  obtain ⟨t, rfl⟩ := ry
  obtain ⟨its, r, pl, hz⟩ := I.list hq
  obtain ⟨j, h1, h2, h3, h4, h5⟩ := atI_get he
  obtain ⟨w, ew, rw'⟩ := r.get h2
  have hl := r.length
  have hn := line63
  have fin : EP X pins σ Q w s := ⟨z, H, I, rw', q⟩
  by_cases h0 : 0 ≤ i
  · have hj : i.toNat = j := by
      rw [seqIndex_of h0 h5] at h1
      exact Option.some.inj h1
    exact item_listR pl.isList h0 (by omega) (by rw [hj]; simpa using ew) fin hs
  · have hj : (i + (its.toArray.size : Int)).toNat = j := by
      rw [seqIndex_neg (by omega) h4] at h1
      rw [List.size_toArray, ← hl]
      exact Option.some.inj h1
    exact subscriptTail_builtinR (x := w) pl.isList.typeIs slot_list_getitem.lookup
      (wpAny_getItem_list_neg (Q := fun r s' => r = w ∧ EP X pins σ Q r s') pl.isList (by omega) (by rw [List.size_toArray] <;> omega) (by omega) (by rw [hj]; simpa using ew) ⟨rfl, fin⟩) hs
theorem ix_tup : IxR X (rIxT X.K) := by
  intro value slice pins s σ H x y v u Q I rx ry h hs
  obtain ⟨p, xs, i, z, rfl, rfl, hq, he, q⟩ := h
  cases rx
  obtain ⟨t, rfl⟩ := ry
  obtain ⟨its, r, pl, hz⟩ := I.tuple hq
  obtain ⟨j, h1, h2, h3, h4, h5⟩ := atI_get he
  obtain ⟨w, ew, rw'⟩ := r.get h2
  have hl := r.length
  have hn := line63
  have fin : EP X pins σ Q w s := ⟨z, H, I, rw', q⟩
  exact subscriptTail_builtinR (x := w) pl.typeIs slot_tuple_getitem.lookup
    (getItem_tuple (j := j) (Q := fun r s' => r = w ∧ EP X pins σ Q r s') pl (by omega) (by omega) (by rw [List.size_toArray, ← hl]; exact h1) (by simpa using ew) ⟨rfl, fin⟩) hs
theorem mapSeq_set (its : List Value) (n j : Nat) (u : Value) : Obj.mapSeq (·.setIfInBounds j u) { cls := .type "list", data := .seq its.toArray n } = { cls := .type "list", data := .seq (its.set j u).toArray n } := by
  simp [Obj.mapSeq]
theorem Inv.lst {pins : List (Addr × Obj)} {σ : St} {H : Hp} {s : Shared} {p : Addr} {xs : List V} (I : Inv X pins σ H s) (h : H p = some (.lst xs)) :
    ∃ (its : List Value) (n : Nat), Vals xs its ∧ s.heap.get? p = some { cls := .type "list", data := .seq its.toArray n } ∧ xs.length ≤ sizeLine := by
  obtain ⟨z, its, n, r, e⟩ := I.hok p _ h
  exact ⟨its, n, r, e, z⟩
theorem Inv.lstUpd {pins : List (Addr × Obj)} {σ : St} {H : Hp} {s : Shared} {p : Addr} {xs ys : List V} {its its' : List Value} {n n' : Nat} {f : Obj → Obj} (I : Inv X pins σ H s) (h : H p = some (.lst xs))
    (ho : s.heap.get? p = some { cls := .type "list", data := .seq its.toArray n }) (hf : f { cls := .type "list", data := .seq its.toArray n } = { cls := .type "list", data := .seq its'.toArray n' }) (r : Vals ys its') (hz : ys.length ≤ sizeLine) (t : Nat) :
    Inv X pins σ (upd H p (.lst ys)) { s with heap := s.heap.update p f, toks := t } := by
  have e : (s.heap.update p f).get? p = some { cls := .type "list", data := .seq its'.toArray n' } := by
    rw [Heap.get?_update_self f ho (by rw [hf] <;> rfl), hf]
  refine I.write (x := p) (e := p) (by rw [h]; trivial) (.inl rfl) (fun b u hb q => (Heap.get?_update_other _ _ (Ne.symm hb)).trans q) ⟨_, e⟩ ?_
  exact ⟨hz, its', n', r, e⟩
def rSetL : V → V → V → Hp → (Hp → Prop) → Prop := fun o i v H Q => ∃ p xs k j, o = .ref p ∧ i = .int k ∧ H p = some (.lst xs) ∧ ixN xs.length k = some j ∧ Q (upd H p (.lst (xs.set j v)))
theorem set_list : PSet X rSetL := by
  intro pins s σ H o i v ov iv u Q I ro ri rv h
  obtain ⟨p, xs, k, j, rfl, rfl, hp, hj, q⟩ := h
  cases ro
  obtain ⟨t, rfl⟩ := ri
  obtain ⟨its, n, r, ho, hz⟩ := I.lst hp
  obtain ⟨h1, h2, h3, h4⟩ := ixN_seq hj
  have hl := r.length
  have hn := line63
  have I' : Inv X pins σ (upd H p (.lst (xs.set j v))) { s with heap := s.heap.update p (Obj.mapSeq (·.setIfInBounds j u)) } :=
    I.lstUpd hp ho (mapSeq_set its n j u) (r.set rv j) (by rw [List.length_set]; exact hz) s.toks
  by_cases h0 : 0 ≤ k
  · have hk : k.toNat = j := by
      rw [seqIndex_of h0 h4] at h1
      exact Option.some.inj h1
    exact PySem.W.ki_setAt ho h0 (by omega) (by rw [List.size_toArray, ← hl]; exact h4) (by rw [hk]; exact ⟨_, I', q⟩)
  · have hk : (k + (its.toArray.size : Int)).toNat = j := by
      rw [seqIndex_neg (by omega) h3] at h1
      rw [List.size_toArray, ← hl]
      exact Option.some.inj h1
    exact PySem.W.ki_setBack ho (by omega) (by rw [List.size_toArray, ← hl]; exact h3) (by omega) (by rw [hk]; exact ⟨_, I', q⟩)
theorem slice_bounds (lo hi : Option Int) (n : Nat) : (sliceBounds lo hi none n).1 = ((HT.sIx n 0 lo : Nat) : Int) ∧ (sliceBounds lo hi none n).2.1 = ((HT.sIx n n hi : Nat) : Int) ∧ (sliceBounds lo hi none n).2.2 = 1 := by
  refine ⟨?_, ?_, rfl⟩
  · cases lo with
    | none => simp [sliceBounds, HT.sIx]
    | some i =>
      simp only [sliceBounds, HT.sIx, Option.getD_none, show (1 : Int) > 0 by decide, if_true]
      by_cases h : i < 0
      · simp only [h, if_true] <;> omega
      · simp only [h, if_false] <;> omega
  · cases hi with
    | none => simp [sliceBounds, HT.sIx]
    | some i =>
      simp only [sliceBounds, HT.sIx, Option.getD_none, show (1 : Int) > 0 by decide, if_true]
      by_cases h : i < 0
      · simp only [h, if_true] <;> omega
      · simp only [h, if_false] <;> omega
theorem slicePick_cut (its : List Value) (lo hi : Option Int) : slicePick its.toArray lo hi none = ((its.drop (HT.sIx its.length 0 lo)).take (HT.sIx its.length its.length hi - HT.sIx its.length 0 lo)).toArray := by
  obtain ⟨h1, h2, h3⟩ := slice_bounds lo hi its.toArray.size
  unfold slicePick
  rw [h1, h2, h3]
  simp only [sliceRange_one, pick_run, List.size_toArray] <;> rfl
def rSlL (K : PySem.W.Frag) : V → Option Int → Option Int → Hp → VK → Prop := fun x lo hi H Q => ∃ a xs, x = .ref a ∧ SqL K H a xs ∧ ∀ p, H p = none → Q (.ref p) (upd H p (.lst (cutV xs lo hi)))
theorem sl_list : SlR X (rSlL X.K) := by
  intro pins s σ H x v vl vu lo hi sl Q I rx hs pl pu h
  obtain ⟨a, xs, rfl, hx, q⟩ := h
  cases rx
  obtain ⟨its, r, ht, hz⟩ := I.list hx
  have hlen := r.length
  refine ⟨"list", _, slot_list_getitem.lookup, ht.isList.typeIs, ?_⟩
  refine wpAny_getItem_list_slice ht.isList hs pl pu .none (by simp) ?_ (by rw [List.size_toArray] <;> omega)
  rw [slicePick_cut, ← hlen]
  refine ⟨.ref s.heap.objs.size, _, I.laid (t' := s.toks) (o := .lst (cutV xs lo hi)) (fun b ob q => Heap.get?_push_of_some _ q) (Nat.le_refl _) ?_, rfl, q _ (I.hok.fresh (Nat.le_refl _))⟩
  exact ⟨Nat.le_trans (cutV_length xs lo hi) hz, _, 0, (r.drop (HT.sIx xs.length 0 lo)).take (HT.sIx xs.length xs.length hi - HT.sIx xs.length 0 lo), Heap.get?_push_size _ rfl⟩
theorem call_len_seq : CallR X (.builtin "len") (fun xs H Q => ∃ p ys, xs = [.ref p] ∧ (SqL X.K H p ys ∨ SqT X.K H p ys) ∧ Q (.int ys.length) H) := by
  intro pins s σ H xs us Q I r h
  obtain ⟨p, ys, rfl, hq, q⟩ := h
  obtain ⟨u, rfl, rx⟩ := vals1 r
  cases rx
  have hn := line63
  rcases hq with hq | hq
  · obtain ⟨its, r', pl, hz⟩ := I.list hq
    have hlen := r'.length
    exact Calls.call_len_list pl.isList (by simp only [List.size_toArray] <;> omega) ⟨.int ys.length, H, I.tok _, ⟨s.toks + 1, by rw [List.size_toArray, hlen]⟩, q⟩
  · obtain ⟨its, r', pl, hz⟩ := I.tuple hq
    have hlen := r'.length
    exact len_tuple pl (by simp only [List.size_toArray] <;> omega) ⟨.int ys.length, H, I.tok _, ⟨s.toks + 1, by rw [List.size_toArray, hlen]⟩, q⟩
theorem call_list_of : CallR X (.type "list") (fun xs H Q => ∃ p ys, xs = [.ref p] ∧ (SqL X.K H p ys ∨ SqT X.K H p ys) ∧ ∀ l, H l = none → Q (.ref l) (upd H l (.lst ys))) := by
  intro pins s σ H xs us Q I r h
  obtain ⟨p, ys, rfl, hq, q⟩ := h
  obtain ⟨u, rfl, rx⟩ := vals1 r
  cases rx
  have fin : ∀ (its : List Value), Vals ys its → ys.length ≤ sizeLine → ∀ (h' : Heap) (c' : Nat), (∀ b o', s.heap.get? b = some o' → h'.get? b = some o') →
      h'.get? s.heap.objs.size = some { cls := .type "list", dict := none, data := .seq its.toArray c', slots := #[] } → EP X pins σ Q (.ref s.heap.objs.size) { s with heap := h' } := fun its r' hz h' c' kp e =>
    ⟨.ref s.heap.objs.size, _, I.laid (t' := s.toks) kp (Nat.le_refl _) (show ObjOk X.prog X.w _ h' _ (.lst ys) from ⟨hz, its, c', r', e⟩), rfl, q _ (I.hok.fresh (Nat.le_refl _))⟩
  rcases hq with hq | hq
  · obtain ⟨its, r', pl, hz⟩ := I.list hq
    have hlen := r'.length
    obtain ⟨o, ho, hc, n, hd⟩ := pl.isList
    exact call_list_seq p (.inl rfl) ho hc hd (fun h' c' kp e => fin its r' hz h' c' kp e) (by simp only [List.size_toArray] <;> omega)
  · obtain ⟨its, r', pl, hz⟩ := I.tuple hq
    have hlen := r'.length
    obtain ⟨o, ho, hc, n, hd⟩ := pl
    exact call_list_seq p (.inr rfl) ho hc hd (fun h' c' kp e => fin its r' hz h' c' kp e) (by simp only [List.size_toArray] <;> omega)
theorem call_tuple_of : CallR X (.type "tuple") (fun xs H Q => ∃ p ys, xs = [.ref p] ∧ ((SqL X.K H p ys ∧ ∀ l, H l = none → Q (.ref l) (upd H l (.tup ys))) ∨ (SqT X.K H p ys ∧ Q (.ref p) H))) := by
  intro pins s σ H xs us Q I r h
  obtain ⟨p, ys, rfl, h⟩ := h
  obtain ⟨u, rfl, rx⟩ := vals1 r
  cases rx
  rcases h with ⟨hq, q⟩ | ⟨hq, q⟩
  · obtain ⟨its, r', pl, hz⟩ := I.list hq
    have hlen := r'.length
    refine call_tuple_list pl.isList (fun h' kp => ?_) (by simp only [List.size_toArray] <;> omega)
    have I1 : Inv X pins σ H { s with heap := h' } := I.kept (t' := s.toks) kp
    have I2 : Inv X pins σ (upd H h'.objs.size (.tup ys)) { s with heap := h'.push { cls := .type "tuple", data := .seq its.toArray } } :=
      I1.laid (t' := s.toks) (fun b o e => Heap.get?_push_of_some _ e) (Nat.le_refl _) (show ObjOk X.prog X.w _ _ _ (.tup ys) from ⟨hz, its, r', IsTup.new _ _⟩)
    exact ⟨.ref h'.objs.size, _, I2, rfl, q _ (I1.hok.fresh (Nat.le_refl _))⟩
  · obtain ⟨its, r', pl, hz⟩ := I.tuple hq
    exact call_tuple_same pl ⟨.ref p, H, I, rfl, q⟩
def tyV (K : PySem.W.Frag) (T : String) (x : V) (H : Hp) : Prop := match x with
  | .str _ => T = "str"
  | .int _ => T = "int"
  | .ref p => (T = "list" ∧ ∃ xs, SqL K H p xs) ∨ (T = "tuple" ∧ ∃ o, K.lookup p = some o ∧ o.cls = .type "tuple" ∧ o.dict = none) ∨
      (T = "dict" ∧ ((∃ kvs, H p = some (.dK kvs)) ∨ ∃ kvs, H p = some (.dT kvs))) ∨ (T = "set" ∧ ∃ S n, H p = some (.set S n))
  | _ => False
theorem tyV_is {pins : List (Addr × Obj)} {σ : St} {H : Hp} {s : Shared} {T : String} {x : V} {v : Value} (I : Inv X pins σ H s) (r : RelV x v) (ty : tyV X.K T x H) :
    s.TypeIs v T ∧ ∀ a, v = .ref a → ∃ ob, s.heap.get? a = some ob ∧ ob.dict = none := by
  cases x with
  | str z =>
    obtain ⟨t, rfl⟩ := r
    cases (show T = "str" from ty)
    exact ⟨typeIs_str s z t, fun _ e => nomatch e⟩
  | int i =>
    obtain ⟨t, rfl⟩ := r
    cases (show T = "int" from ty)
    exact ⟨typeIs_int s i t, fun _ e => nomatch e⟩
  | ref p =>
    cases r
    rcases ty with ⟨rfl, xs, hq⟩ | ⟨rfl, o, hk, hc, hd⟩ | ⟨rfl, hk⟩ | ⟨rfl, S, n, hk⟩
    · obtain ⟨its, _, pl, _⟩ := I.list hq
      refine ⟨pl.isList.typeIs, fun a e => ?_⟩
      cases e
      obtain ⟨o, n, e, c, hd, _⟩ := pl
      exact ⟨o, e, hd⟩
    · refine ⟨⟨o, I.kIn p o hk, hc⟩, fun a e => ?_⟩
      cases e
      exact ⟨o, I.kIn _ o hk, hd⟩
    · have z : ∃ o, s.heap.get? p = some o ∧ o.ExactDict := by
        rcases hk with ⟨kvs, hk⟩ | ⟨kvs, hk⟩
        · obtain ⟨_, _, _, _, o, _, _, e, ex, _⟩ := I.hok p _ hk
          exact ⟨o, e, ex⟩
        · obtain ⟨_, _, _, _, o, _, _, e, ex, _⟩ := I.hok p _ hk
          exact ⟨o, e, ex⟩
      obtain ⟨o, e, ex⟩ := z
      refine ⟨⟨o, e, ex.1⟩, fun a e2 => ?_⟩
      cases e2
      exact ⟨o, e, ex.2.1⟩
    · obtain ⟨o, _, _, _, e, ex, _⟩ := I.hok p _ hk
      refine ⟨⟨o, e, ex.1⟩, fun a e2 => ?_⟩
      cases e2
      exact ⟨o, e, ex.2.1⟩
  | _ => exact False.elim ty
def tBM0 (K : PySem.W.Frag) (T : String) (r : V → List V → Hp → VK → Prop) (to : TE) : TE := fun σ H Q => to σ H fun x H1 => tyV K T x H1 ∧ r x [] H1 Q
def tBM (K : PySem.W.Frag) (T : String) (r : V → List V → Hp → VK → Prop) (to : TE) (t : TA) : TE := fun σ H Q => to σ H fun x H1 => tyV K T x H1 ∧ t σ H1 fun xs H2 => r x xs H2 Q
variable {o e : Expr} {es : List Expr} {to : TE} {t : TA} {name : Str} {apos cpos : Pos} {T id : String} {r : V → List V → Hp → VK → Prop}
theorem pe_bm0 (pa : PlainAttrs T) (slot : Slot T name id) (hty : typeOf (.builtin id) = pure (.type "method_descriptor")) (hm : MtR X id r) (ho : PE X o to)
    (hbase : attributeBase o name X.env (eval o X.env) = eval o X.env := by rfl) (hline : (apos.endLine == cpos.line) = true := by rfl) : PE X (.Call (.Attribute o name apos) [] [] cpos) (tBM0 X.K T r to) := by
  intro pins s σ H Q I h
  refine wpAny_Call_method0_late hbase hline (thn (ho pins s σ H _ I h) fun v s1 ⟨x, H1, I1, r1, ty, q1⟩ => ?_)
  obtain ⟨h1, h2⟩ := tyV_is I1 r1 ty
  exact ⟨T, id, pa, slot, hty, h1, h2, Calls.callWith_builtin rfl (PySem.evalArgs_none (hm pins s1 σ H1 x [] v [] Q I1 r1 .nil q1))⟩
theorem pe_bm (pa : PlainAttrs T) (slot : Slot T name id) (hty : typeOf (.builtin id) = pure (.type "method_descriptor")) (hm : MtR X id r) (ho : PE X o to) (ha : PA X (e :: es) t)
    (hbase : attributeBase o name X.env (eval o X.env) = eval o X.env := by rfl)
    (hfew : ((backTo cpos (starEach (e :: es) X.env)).all (fun x => !x.1) && (backToKw cpos (keywordEach [] X.env)).all (fun x => x.1.isSome)
      && decide ((e :: es).length + ([] : List Keyword).length + (if ([] : List Keyword).isEmpty then 0 else 1) < 30)) = true := by rfl)
    (hline : (apos.endLine == cpos.line) = true := by rfl) (hs : starEach (e :: es) X.env = (false, eval e X.env) :: starEach es X.env := by rfl) (hplain : (backTo cpos (starEach es X.env)).any (·.1) = false := by rfl) :
    PE X (.Call (.Attribute o name apos) (e :: es) [] cpos) (tBM X.K T r to t) := by
  intro pins s σ H Q I h
  refine wpAny_Call_method_late hbase hfew hline rfl (thn (ho pins s σ H _ I h) fun v s1 ⟨x, H1, I1, r1, ty, q1⟩ => ?_)
  obtain ⟨h1, h2⟩ := tyV_is I1 r1 ty
  refine ⟨T, id, pa, slot, hty, h1, h2, ?_⟩
  have hA := ha cpos pins s1 σ H1 _ I1 q1
  rw [hs] at hA ⊢
  refine Calls.callWith_builtin (by show (false || (backTo cpos (starEach es X.env)).any (·.1)) = false; rw [hplain] <;> rfl) (Calls.evalArgs_plain ?_)
  exact thn hA fun us s2 ⟨vs, H2, I2, r2, q2⟩ => hm pins s2 σ H2 x vs v us Q I2 r1 r2 q2
end
end L2
namespace L2
open PySem PySem.Spec PyProof.Rows
def MtM (X : Cx) (id : String) (r : V → List V → Hp → VK → Prop) : Prop :=
  ∀ (pins : List (Addr × Obj)) (s : Shared) (σ : St) (H : Hp) (x : V) (xs : List V) (v : Value) (us : List Value) (Q : VK), Inv X pins σ H s → RelV x v → Vals xs us → r x xs H Q →
    wpAny (model X.prog X.w) X.A (call (.builtin id) (v :: us)) (EP X pins σ Q) X.xe s
theorem Vals.one : ∀ {x : V} {us : List Value}, Vals [x] us → ∃ u, us = [u] ∧ RelV x u
  | _, _, .cons r .nil => ⟨_, rfl, r⟩
theorem Vals.zero : ∀ {us : List Value}, Vals [] us → us = []
  | _, .nil => rfl
theorem Vals.dropLast {xs : List V} {us : List Value} (h : Vals xs us) : Vals xs.dropLast us.dropLast := by
  induction h with
  | nil => exact .nil
  | cons r t ih =>
    cases t with
    | nil => exact .nil
    | cons q t' => exact .cons r ih
theorem erase_last {α : Type} (l : List α) : l.eraseIdx (l.length - 1) = l.dropLast := by
  induction l with
  | nil => rfl
  | cons a r ih =>
    cases r with
    | nil => rfl
    | cons b r =>
      have e : (a :: b :: r).length - 1 = ((b :: r).length - 1) + 1 := by
        have h1 : (a :: b :: r).length = r.length + 2 := rfl
        have h2 : (b :: r).length = r.length + 1 := rfl
        omega
      rw [e, List.eraseIdx_cons_succ, ih]
      all_goals rfl
section
variable {X : Cx} {pins : List (Addr × Obj)} {σ : St} {H : Hp} {s : Shared} {l b : Addr} {xs ys zs : List V}
theorem Inv.lset {its its' : List Value} {n : Nat} {f : Array Value → Array Value} {t' : Nat} (I : Inv X pins σ H s) (hH : H l = some (.lst xs))
    (e : s.heap.get? l = some { cls := .type "list", data := .seq its.toArray n }) (hf : f its.toArray = its'.toArray) (hv : Vals ys its') (hz : ys.length ≤ sizeLine) :
    Inv X pins σ (upd H l (.lst ys)) { s with heap := s.heap.update l (Obj.mapSeq f), toks := t' } := by
  have q := PySem.IsL.update e f
  rw [hf] at q
  refine I.write (x := l) (e := l) (by rw [hH]; exact trivial) (.inl rfl) (fun b' u hb hu => (Heap.get?_update_other s.heap (Obj.mapSeq f) (Ne.symm hb)).trans hu) ⟨_, q⟩ ?_
  exact ⟨hz, its', _, hv, q⟩
theorem Inv.lnew {its : List Value} {t' : Nat} (I : Inv X pins σ H s) (hv : Vals ys its) (hz : ys.length ≤ sizeLine) :
    Inv X pins σ (upd H s.heap.objs.size (.lst ys)) { s with heap := s.heap.push { cls := .type "list", data := .seq its.toArray }, toks := t' } :=
  I.laid (fun _ _ q => Heap.get?_push_of_some _ q) (Nat.le_refl _) ⟨hz, its, 0, hv, Heap.get?_push_size _ rfl⟩
theorem Inv.fresh (I : Inv X pins σ H s) : H s.heap.objs.size = none := I.hok.fresh (Nat.le_refl _)
theorem Inv.lstM (I : Inv X pins σ H s) (hH : H l = some (.lst xs)) : xs.length ≤ sizeLine ∧ ∃ (its : List Value) (n : Nat), Vals xs its ∧ xs.length = its.length ∧ s.heap.get? l = some { cls := .type "list", data := .seq its.toArray n } := by
  obtain ⟨z, its, n, r, e⟩ := I.hok l _ hH
  exact ⟨z, its, n, r, r.length, e⟩
end
section
variable {X : Cx}
def rAppend : V → List V → Hp → VK → Prop := fun x vs H Q => ∃ l xs y, x = .ref l ∧ vs = [y] ∧ H l = some (.lst xs) ∧ xs.length < sizeLine ∧ Q .non (upd H l (.lst (xs ++ [y])))
theorem mt_append : MtM X "list.append" rAppend := by
  intro pins s σ H x vs v us Q I rx rv h
  obtain ⟨l, xs, y, rfl, rfl, hH, hz, q⟩ := h
  cases rx
  obtain ⟨u, rfl, ru⟩ := rv.one
  obtain ⟨z, its, n, r, hl, e⟩ := I.lstM hH
  refine call_meets F.slot_list_append ⟨_, e, rfl⟩ F.entry_list_append (F.args_list_append_2 _ _) (PySem.list_append l its.toArray n u (by rw [List.size_toArray]; omega)) ⟨e, ?_⟩
  refine ⟨.non, _, I.lset (its' := its ++ [u]) hH e (by simp) (r.append (.cons ru .nil)) ?_, rfl, q⟩
  rw [List.length_append, List.length_singleton]
  omega
def rPop : V → List V → Hp → VK → Prop := fun x vs H Q => ∃ l xs y, x = .ref l ∧ vs = [] ∧ H l = some (.lst xs) ∧ xs[xs.length - 1]? = some y ∧ Q y (upd H l (.lst xs.dropLast))
theorem mt_pop : MtM X "list.pop" rPop := by
  intro pins s σ H x vs v us Q I rx rv h
  obtain ⟨l, xs, y, rfl, rfl, hH, hy, q⟩ := h
  cases rx
  have hus := rv.zero
  subst hus
  obtain ⟨z, its, n, r, hl, e⟩ := I.lstM hH
  obtain ⟨u, hu, ru⟩ := r.get hy
  have hy' : its.toArray[its.toArray.size - 1]? = some u := by
    show its.toArray[its.length - 1]? = some u
    rw [← Array.getElem?_toList, ← hl]
    exact hu
  refine call_meets F.slot_list_pop ⟨_, e, rfl⟩ F.entry_list_pop (F.args_list_pop_1 _) (MeetsSeq.list_pop_last l its.toArray n u hy' (by rw [List.size_toArray]; omega)) ⟨e, ?_⟩
  refine ⟨y, _, I.lset (its' := its.dropLast) hH e ?_ r.dropLast ?_, ru, q⟩
  · show its.toArray.eraseIdxIfInBounds (its.toArray.size - 1) = its.dropLast.toArray
    rw [List.size_toArray, List.eraseIdxIfInBounds_toArray, erase_last]
  · rw [List.length_dropLast]
    omega
def rCat : R2 := fun x y H Q => ∃ l b xs zs, x = .ref l ∧ y = .ref b ∧ H l = some (.lst xs) ∧ H b = some (.lst zs) ∧ xs.length + zs.length ≤ sizeLine ∧ ∀ p, H p = none → Q (.ref p) (upd H p (.lst (xs ++ zs)))
theorem op_cat : OpR X (binaryOp .Add) rCat := by
  intro pins s σ H x y v u Q I rx ry h
  obtain ⟨l, b, xs, zs, rfl, rfl, hH, hB, hz, q⟩ := h
  cases rx
  cases ry
  obtain ⟨z, its, n, r, hl, e⟩ := I.lstM hH
  obtain ⟨z2, its2, n2, r2, hl2, e2⟩ := I.lstM hB
  refine PySem.P.add_list e e2 ?_ (by rw [List.size_toArray, List.size_toArray]; omega)
  have ea : its.toArray ++ its2.toArray = (its ++ its2).toArray := by simp
  rw [ea]
  exact ⟨.ref _, _, I.lnew (t' := s.toks) (r.append r2) (by rw [List.length_append]; omega), rfl, q _ I.fresh⟩
end
section
variable {prog : Program} {w : World} {A : Around} {E : Value → Shared → Prop} {s : Shared}
end
section
variable {X : Cx}
end
end L2
namespace L2
open PySem PySem.Spec PyProof.Rows
section
variable {κ : Type} [DecidableEq κ]
def valV (kvs : List (κ × V)) (k : κ) : Option V := (kvs.find? fun kv => decide (kv.1 = k)).map (·.2)
def putK (kvs : List (κ × V)) (k : κ) (v : V) : List (κ × V) :=
  if (kvs.any fun kv => decide (kv.1 = k)) = true then kvs.map (fun kv => if kv.1 = k then (kv.1, v) else kv) else kvs ++ [(k, v)]
theorem valV_pos {p : κ × V} {r : List (κ × V)} {k : κ} (e : p.1 = k) : valV (p :: r) k = some p.2 := by simp [valV, List.find?_cons, e]
theorem valV_neg {p : κ × V} {r : List (κ × V)} {k : κ} (e : ¬ p.1 = k) : valV (p :: r) k = valV r k := by simp [valV, List.find?_cons, e]
theorem valV_any (k : κ) : ∀ kvs : List (κ × V), (kvs.any fun kv => decide (kv.1 = k)) = (valV kvs k).isSome
  | [] => rfl
  | p :: r => by
    rw [List.any_cons]
    by_cases e : p.1 = k
    · simp only [valV_pos e, decide_eq_true e, Bool.true_or, Option.isSome_some]
    · rw [valV_neg e, decide_eq_false e, Bool.false_or]; exact valV_any k r
theorem length_putK (kvs : List (κ × V)) (k : κ) (v : V) : (putK kvs k v).length ≤ kvs.length + 1 := by
  unfold putK
  split
  · rw [List.length_map]; omega
  · rw [List.length_append, List.length_cons, List.length_nil]; omega
theorem putK_new {kvs : List (κ × V)} {k : κ} (v : V) (h : valV kvs k = none) : putK kvs k v = kvs ++ [(k, v)] := by
  unfold putK
  rw [valV_any, h]
  exact if_neg (by decide)
theorem RelO.isSome_eq {o : Option V} {u : Option Value} (r : RelO o u) : o.isSome = u.isSome := by
  cases o with
  | none => cases u with
    | none => rfl
    | some _ => exact (show False from r).elim
  | some _ => cases u with
    | none => exact (show False from r).elim
    | some _ => rfl
theorem KV.val {kvs : List (κ × V)} {vs : List (κ × Value)} (r : KV kvs vs) (k : κ) : RelO (valV kvs k) (valueAt vs k) := by
  unfold KV at r
  induction r with
  | nil => exact True.intro
  | @cons p q ps qs h t ih =>
    obtain ⟨h1, h2⟩ := h
    by_cases e : p.1 = k
    · have e' : q.1 = k := h1.symm.trans e
      have b : valueAt (q :: qs) k = some q.2 := by simp [valueAt, List.find?_cons, e']
      rw [valV_pos e, b]; exact h2
    · have e' : ¬ q.1 = k := fun z => e (h1.trans z)
      have b : valueAt (q :: qs) k = valueAt qs k := by simp [valueAt, List.find?_cons, e']
      rw [valV_neg e, b]; exact ih
theorem KV.any {kvs : List (κ × V)} {vs : List (κ × Value)} (r : KV kvs vs) (k : κ) : (kvs.any fun kv => decide (kv.1 = k)) = vs.any fun kv => decide (kv.1 = k) := by
  unfold KV at r
  induction r with
  | nil => rfl
  | cons h t ih => rw [List.any_cons, List.any_cons, ih, h.1]
theorem KV.repl {kvs : List (κ × V)} {vs : List (κ × Value)} (r : KV kvs vs) (k : κ) {y : V} {u : Value} (ry : RelV y u) :
    KV (kvs.map fun kv => if kv.1 = k then (kv.1, y) else kv) (vs.map fun kv => if kv.1 = k then (kv.1, u) else kv) := by
  unfold KV at r ⊢
  induction r with
  | nil => exact .nil
  | @cons p q ps qs h t ih =>
    rw [List.map_cons, List.map_cons]
    refine .cons ?_ ih
    obtain ⟨h1, h2⟩ := h
    by_cases e : p.1 = k
    · rw [if_pos e, if_pos (h1.symm.trans e)]; exact ⟨h1, ry⟩
    · rw [if_neg e, if_neg (fun z => e (h1.trans z))]; exact ⟨h1, h2⟩
theorem KV.put {kvs : List (κ × V)} {vs : List (κ × Value)} (r : KV kvs vs) (k : κ) {y : V} {u : Value} (ry : RelV y u) : KV (putK kvs k y) (stored vs k u) := by
  unfold putK stored
  rw [r.any k]
  by_cases e : (vs.any fun kv => decide (kv.1 = k)) = true
  · rw [if_pos e, if_pos e]; exact r.repl k ry
  · rw [if_neg e, if_neg e]; exact Paired.snoc r ⟨rfl, ry⟩
theorem KV.length {kvs : List (κ × V)} {vs : List (κ × Value)} (r : KV kvs vs) : kvs.length = vs.length := Paired.length r
end
theorem kV_is {P : Program} {w : World} {k : Key} {u : Value} (r : RelV (kV k) u) : (mixKind P w).is k u = true := by
  cases k with
  | inl i => obtain ⟨t, e⟩ := (show ∃ t, u = Value.int i t from r); subst e; exact mixKind_int P w i t
  | inr x => obtain ⟨t, e⟩ := (show ∃ t, u = Value.str x t from r); subst e; exact mixKind_str P w x t
theorem items_are {P : Program} {w : World} : ∀ {ks : List Key} {us : List Value}, Vals (ks.map kV) us → ItemsAre (mixKind P w) ks us
  | [], _, r => by rw [List.map_nil] at r; cases r; exact .nil
  | k :: ks, _, r => by
    rw [List.map_cons] at r
    cases r with
    | cons h t => exact .cons (kV_is h) (items_are t)
abbrev KT (H : Hp) : List (List Key × V) → List (List Key × Addr × Value) → Prop := Paired fun p q => p.1 = q.1 ∧ H q.2.1 = some (.tup (p.1.map kV)) ∧ RelV p.2 q.2.2
theorem KT.val {H : Hp} {kvs : List (List Key × V)} {xs : List (List Key × Addr × Value)} (r : KT H kvs xs) (k : List Key) : RelO (valV kvs k) ((atKey xs k).map (·.2)) := by
  induction r with
  | nil => exact True.intro
  | @cons p q ps qs h t ih =>
    obtain ⟨h1, _, h2⟩ := h
    by_cases e : p.1 = k
    · have e' : q.1 = k := h1.symm.trans e
      have b : atKey (q :: qs) k = some q.2 := by simp [atKey, List.find?_cons, e']
      rw [valV_pos e, b]; exact h2
    · have e' : ¬ q.1 = k := fun z => e (h1.trans z)
      have b : atKey (q :: qs) k = atKey qs k := by simp [atKey, List.find?_cons, e']
      rw [valV_neg e, b]; exact ih
theorem KT.repl {H : Hp} {kvs : List (List Key × V)} {xs : List (List Key × Addr × Value)} (r : KT H kvs xs) (k : List Key) {y : V} {u : Value} (ry : RelV y u) :
    KT H (kvs.map fun kv => if kv.1 = k then (kv.1, y) else kv) (xs.map (putAt k u)) := by
  induction r with
  | nil => exact .nil
  | @cons p q ps qs h t ih =>
    rw [List.map_cons, List.map_cons]
    refine .cons ?_ ih
    obtain ⟨h1, h2, h3⟩ := h
    unfold putAt
    by_cases e : p.1 = k
    · rw [if_pos e, if_pos (h1.symm.trans e)]; exact ⟨h1, h2, ry⟩
    · rw [if_neg e, if_neg (fun z => e (h1.trans z))]; exact ⟨h1, h2, h3⟩
theorem KT.put {H : Hp} {kvs : List (List Key × V)} {xs : List (List Key × Addr × Value)} (r : KT H kvs xs) (k : List Key) {b : Addr} {y : V} {u : Value} (hb : H b = some (.tup (k.map kV))) (ry : RelV y u) :
    KT H (putK kvs k y) (storedH xs k b u) := by
  have e : (kvs.any fun kv => decide (kv.1 = k)) = (atKey xs k).isSome := by
    rw [valV_any, (r.val k).isSome_eq, Option.isSome_map]
  unfold putK storedH
  rw [e]
  by_cases q : (atKey xs k).isSome = true
  · rw [if_pos q, if_pos q]; exact r.repl k ry
  · rw [if_neg q, if_neg q]; exact Paired.snoc r ⟨rfl, hb, ry⟩
theorem KT.keeps {H H' : Hp} {kvs : List (List Key × V)} {xs : List (List Key × Addr × Value)} (r : KT H kvs xs) (ht : ∀ b ys, H b = some (.tup ys) → H' b = some (.tup ys)) : KT H' kvs xs :=
  Paired.mapP r fun _ _ z => ⟨z.1, ht _ _ z.2.1, z.2.2⟩
section
variable {P : Program} {w : World} {H : Hp} {h : Heap} {a : Addr}
theorem rd_of {u : HO} (ok : HOk P w H h) (e : Rd H a u) : ObjOk P w H h a u := e.ok ok
theorem dk_rd {kvs : List (Key × V)} (ok : HOk P w H h) (e : Rd H a (.dK kvs)) : kvs.length ≤ sizeLine ∧ (a == sysModules) = false ∧ ∃ vs, KV kvs vs ∧ h.DictOf (mixKind P w) a vs :=
  show ObjOk P w H h a (.dK kvs) from rd_of ok e
theorem dk_of {kvs : List (Key × V)} (ok : HOk P w H h) (e : H a = some (.dK kvs)) : kvs.length ≤ sizeLine ∧ (a == sysModules) = false ∧ ∃ vs, KV kvs vs ∧ h.DictOf (mixKind P w) a vs := dk_rd ok (.inl e)
theorem key_of {ks : List Key} (ok : HOk P w H h) (e : H a = some (.tup (ks.map kV))) : (tupleKind (mixKind P w)).is h ks a := by
  obtain ⟨_, its, r, o, h1, h2, n, h3⟩ := (show ObjOk P w H h a (.tup (ks.map kV)) from ok a _ e)
  exact ⟨o, its.toArray, n, h1, h2, h3, by simpa using items_are r⟩
theorem dt_rd {kvs : List (List Key × V)} (ok : HOk P w H h) (e : Rd H a (.dT kvs)) : kvs.length ≤ sizeLine ∧ (a == sysModules) = false ∧
    ∃ xs, KT H kvs xs ∧ h.DictOfH (tupleKind (mixKind P w)) a xs := by
  obtain ⟨z, y, xs, r, o, es, ep, h1, h2, h3, h4, h5⟩ := (show ObjOk P w H h a (.dT kvs) from rd_of ok e)
  refine ⟨z, y, xs, r, o, es, ep, h1, h2, h3, h4, fun x hx => ?_, h5⟩
  have all : ∀ {l : List (List Key × V)} {m : List (List Key × Addr × Value)}, KT H l m → ∀ x ∈ m, (tupleKind (mixKind P w)).is h x.1 x.2.1 := by
    intro l m q
    induction q with
    | nil => intro x hx; exact nomatch hx
    | @cons p q ps qs hq t ih =>
      intro x hx
      rcases List.mem_cons.mp hx with e | hx
      · subst e
        exact key_of ok (by rw [← hq.1]; exact hq.2.1)
      · exact ih x hx
  exact all r x hx
theorem dt_of {kvs : List (List Key × V)} (ok : HOk P w H h) (e : H a = some (.dT kvs)) : kvs.length ≤ sizeLine ∧ (a == sysModules) = false ∧
    ∃ xs, KT H kvs xs ∧ h.DictOfH (tupleKind (mixKind P w)) a xs := dt_rd ok (.inl e)
end
def DGet (H : Hp) (a : Addr) (y : V) (r : Option V) : Prop :=
  (∃ kvs k, Rd H a (.dK kvs) ∧ y = kV k ∧ r = valV kvs k) ∨ ∃ kvs k b, Rd H a (.dT kvs) ∧ y = .ref b ∧ H b = some (.tup (k.map kV)) ∧ r = valV kvs k
def DPut (H : Hp) (a : Addr) (y v : V) (H' : Hp) : Prop :=
  (∃ kvs k, H a = some (.dK kvs) ∧ y = kV k ∧ kvs.length < sizeLine ∧ H' = upd H a (.dK (putK kvs k v))) ∨
  ∃ kvs k b, H a = some (.dT kvs) ∧ y = .ref b ∧ H b = some (.tup (k.map kV)) ∧ kvs.length < sizeLine ∧ H' = upd H a (.dT (putK kvs k v))
theorem DGet.k {H : Hp} {a : Addr} {kvs : List (Key × V)} {k : Key} (e : H a = some (.dK kvs)) : DGet H a (kV k) (valV kvs k) := .inl ⟨kvs, k, .inl e, rfl, rfl⟩
theorem DPut.k {H : Hp} {a : Addr} {kvs : List (Key × V)} {k : Key} {v : V} (e : H a = some (.dK kvs)) (hl : kvs.length < sizeLine) : DPut H a (kV k) v (upd H a (.dK (putK kvs k v))) := .inl ⟨kvs, k, e, rfl, hl, rfl⟩
section
variable {X : Cx} {pins : List (Addr × Obj)} {σ : St} {H : Hp} {s : Shared} {a : Addr} {y v : V} {u r : Value} {o : Option V} {A : Around} {E : Value → Shared → Prop}
theorem Inv.big (I : Inv X pins σ H s) : sysModules < s.heap.objs.size := by
  have h : mainGlobals < s.heap.objs.size := (I.mod.glob.keeps I.bk).lt
  exact Nat.lt_trans (by decide) h
theorem d_in {Q : Value → Shared → Prop} (hu : A.units + 1 < cLine) (I : Inv X pins σ H s) (g : DGet H a y o) (ry : RelV y u) (h : ∀ s', Inv X pins σ H s' → Q (.bool o.isSome) s') :
    wpAny (model X.prog X.w) A (compareOp .In u (.ref a)) Q E s := by
  rcases g with ⟨kvs, k, e, ey, l⟩ | ⟨kvs, k, b, e, ey, eb, l⟩
  · subst ey
    obtain ⟨z, hd, vs, rel, dd⟩ := dk_rd I.hok e
    refine wpAny_in_of (kV_is ry) hd dd.mapOf ?_
    rw [← (rel.val k).isSome_eq, ← l]
    exact h _ (I.tok _)
  · subst ey
    cases (show u = Value.ref b from ry)
    obtain ⟨z, hd, xs, rel, dd⟩ := dt_rd I.hok e
    refine wpAny_in_heap (tupleKind_room_in1 hu) (key_of I.hok eb) hd dd ?_
    have q := (rel.val k).isSome_eq
    rw [Option.isSome_map] at q
    rw [← q, ← l]
    exact h _ (I.tok _)
theorem d_notIn {Q : Value → Shared → Prop} (hu : A.units + 1 < cLine) (I : Inv X pins σ H s) (g : DGet H a y o) (ry : RelV y u) (h : ∀ s', Inv X pins σ H s' → Q (.bool (!o.isSome)) s') :
    wpAny (model X.prog X.w) A (compareOp .NotIn u (.ref a)) Q E s := by
  rcases g with ⟨kvs, k, e, ey, l⟩ | ⟨kvs, k, b, e, ey, eb, l⟩
  · subst ey
    obtain ⟨z, hd, vs, rel, dd⟩ := dk_rd I.hok e
    refine wpAny_notIn_of (kV_is ry) hd dd.mapOf ?_
    rw [← (rel.val k).isSome_eq, ← l]
    exact h _ (I.tok _)
  · subst ey
    cases (show u = Value.ref b from ry)
    obtain ⟨z, hd, xs, rel, dd⟩ := dt_rd I.hok e
    refine wpAny_notIn_heap (tupleKind_room_in1 hu) (key_of I.hok eb) hd dd ?_
    have q := (rel.val k).isSome_eq
    rw [Option.isSome_map] at q
    rw [← q, ← l]
    exact h _ (I.tok _)
theorem d_write {h' : Heap} {t' : Nat} {ob : HO} (I : Inv X pins σ H s) (mu : Mut (H a)) (hs : Heap.SameBut a s.heap h') (he : ∃ q, h'.get? a = some q) (new : ObjOk X.prog X.w (upd H a ob) h' a ob) :
    Inv X pins σ (upd H a ob) { s with heap := h', toks := t' } :=
  I.write (x := a) (e := a) mu (.inl rfl) (fun b q hb z => (hs.2 b hb).trans z) he new
theorem dk_new {P : Program} {w : World} {H' : Hp} {h' : Heap} {kvs : List (Key × V)} {vs : List (Key × Value)} (z : kvs.length ≤ sizeLine) (hd : (a == sysModules) = false) (rel : KV kvs vs) (dd : h'.DictOf (mixKind P w) a vs) :
    ObjOk P w H' h' a (.dK kvs) := ⟨z, hd, vs, rel, dd⟩
theorem d_setItem {H' : Hp} {Q : Unit → Shared → Prop} (hu : A.units + 1 < cLine) (I : Inv X pins σ H s) (g : DPut H a y v H') (ry : RelV y u) (rv : RelV v r) (h : ∀ s', Inv X pins σ H' s' → Q () s') :
    wpAny (model X.prog X.w) A (setItem (.ref a) u r) Q E s := by
  rcases g with ⟨kvs, k, e, ey, l, eH⟩ | ⟨kvs, k, b, e, ey, eb, l, eH⟩
  · subst ey eH
    obtain ⟨z, hd, vs, rel, dd⟩ := dk_of I.hok e
    have hz : vs.length ≤ sizeLine := by rw [← rel.length]; exact z
    have hl : (putK kvs k v).length ≤ sizeLine := by have := length_putK kvs k v; omega
    refine wpAny_setItem_pairs (hsz := hz) (kV_is ry) dd fun h' dd' hs => h _ ?_
    have he : ∃ q, h'.get? a = some q := let ⟨q, _, _, hq, _⟩ := dd'; ⟨q, hq⟩
    exact d_write I (by rw [e]; exact True.intro) hs he (dk_new hl hd (rel.put k rv) dd')
  · subst ey eH
    cases (show u = Value.ref b from ry)
    obtain ⟨z, hd, xs, rel, dd⟩ := dt_of I.hok e
    have hz : xs.length ≤ sizeLine := by rw [← Paired.length rel]; exact z
    have hl : (putK kvs k v).length ≤ sizeLine := by have := length_putK kvs k v; omega
    refine wpAny_setItem_heap (hsz := hz) (tupleKind_room_in1 hu) (key_of I.hok eb) dd fun h' dd' hs => h _ ?_
    obtain ⟨q, es, ep, hq, h2, h3, h4, _, h5⟩ := dd'
    refine d_write I (by rw [e]; exact True.intro) hs ⟨q, hq⟩ ⟨hl, hd, _, (rel.put k eb rv).keeps fun c ys ec => ?_, q, es, ep, hq, h2, h3, h4, h5⟩
    rw [upd_ne (ne_of ec e (fun z => nomatch z))]
    exact ec
end
section
variable {X : Cx} {pins : List (Addr × Obj)} {σ : St} {H : Hp} {s : Shared} {a : Addr} {kvs : List (Key × V)} {k : Key} {u : Value} {A : Around} {E : Value → Shared → Prop}
theorem d_len {Q : Value → Shared → Prop} (I : Inv X pins σ H s) (e : Rd H a (.dK kvs)) (h : ∀ t s', Inv X pins σ H s' → Q (.int kvs.length t) s') : wpAny (model X.prog X.w) A (call (.builtin "len") [.ref a]) Q E s := by
  obtain ⟨z, hd, vs, rel, dd⟩ := dk_rd I.hok e
  refine call_len_dict hd dd (by rw [← rel.length]; rw [sizeLine_eq] at z; omega) ?_
  rw [← rel.length]
  exact h _ _ (I.tok _)
end
def tDIn (ty td : TE) : TE := fun σ H Q => ty σ H fun y H1 => td σ H1 fun x H2 => ∃ a o, x = .ref a ∧ DGet H2 a y o ∧ Q (.bl o.isSome) H2
def tDNotIn (ty td : TE) : TE := fun σ H Q => ty σ H fun y H1 => td σ H1 fun x H2 => ∃ a o, x = .ref a ∧ DGet H2 a y o ∧ Q (.bl (!o.isSome)) H2
def sDPut (td ty tv : TE) : TS := fun D σ H => tv σ H fun v H1 => td σ H1 fun x H2 => ty σ H2 fun y H3 => ∃ a H4, x = .ref a ∧ DPut H3 a y v H4 ∧ D.nx σ H4
section
variable {X : Cx} {o i e value : Expr} {pos pos' tpos : Pos} {td ty tv : TE}
theorem pc_din (hu : X.A.units + 1 < cLine) (hi : PE X i ty) (ho : PE X o td) : PC X .In i o (tDIn ty td) := by
  intro pins s σ H Q I h
  refine thn (hi pins s σ H _ I h) fun iv s1 ⟨y, H1, I1, ry, q1⟩ => thn (ho pins s1 σ H1 _ I1 q1) fun u s2 ⟨x, H2, I2, rx, a, ov, ex, g, q2⟩ => ?_
  subst ex
  obtain rfl : u = Value.ref a := rx
  exact d_in hu I2 g ry fun s3 I3 => ⟨.bl ov.isSome, H2, I3, rfl, q2⟩
theorem pc_dnotin (hu : X.A.units + 1 < cLine) (hi : PE X i ty) (ho : PE X o td) : PC X .NotIn i o (tDNotIn ty td) := by
  intro pins s σ H Q I h
  refine thn (hi pins s σ H _ I h) fun iv s1 ⟨y, H1, I1, ry, q1⟩ => thn (ho pins s1 σ H1 _ I1 q1) fun u s2 ⟨x, H2, I2, rx, a, ov, ex, g, q2⟩ => ?_
  subst ex
  obtain rfl : u = Value.ref a := rx
  exact d_notIn hu I2 g ry fun s3 I3 => ⟨.bl (!ov.isSome), H2, I3, rfl, q2⟩
theorem ps_dput (hu : X.A.units + 1 < cLine) (ho : PE X o td) (hi : PE X i ty) (hv : PE X value tv) (hs : swapsWith value (some (.Subscript o i pos')) pos.line X.env = pure false) :
    PS X (.Assign [.Subscript o i pos'] value pos) (sDPut td ty tv) := by
  intro pins s σ H D I h
  refine wpAny_Assign_Subscript (thn (hv pins s σ H _ I h) fun r s1 ⟨v, H1, I1, rv, q1⟩ => thn (ho pins s1 σ H1 _ I1 q1) fun u s2 ⟨x, H2, I2, rx, q2⟩ => thn (hi pins s2 σ H2 _ I2 q2) fun iv s3 ⟨y, H3, I3, ry, a, H4, ex, g, q3⟩ => ?_) hs
  subst ex
  obtain rfl : u = Value.ref a := rx
  exact d_setItem hu I3 g ry rv fun s4 I4 => ⟨σ, H4, I4, q3⟩
end
theorem dk_empty {P : Program} {w : World} {H : Hp} (h : Heap) (hb : sysModules < h.objs.size) : ObjOk P w H (h.push { cls := .type "dict", data := .dict #[] }) h.objs.size (.dK []) :=
  ⟨Nat.zero_le _, beq_eq_false_iff_ne.mpr (Ne.symm (Nat.ne_of_lt hb)), [], .nil, Heap.DictOf.new h⟩
section
variable {X : Cx} {pos : Pos}
end
def tPairs : List (TE × TE) → St → Hp → (List (V × V) → Hp → Prop) → Prop
  | [], _, H, Q => Q [] H
  | (tk, tv) :: r, σ, H, Q => tk σ H fun x H1 => tv σ H1 fun y H2 => tPairs r σ H2 fun ps H3 => Q ((x, y) :: ps) H3
abbrev VV : List (V × V) → List (Value × Value) → Prop := Paired fun p q => RelV p.1 q.1 ∧ RelV p.2 q.2
def PPs (X : Cx) (pos : Pos) (keys : List (Option Expr)) (values : List Expr) (trs : List (TE × TE)) : Prop :=
  ∀ (pins : List (Addr × Obj)) (s : Shared) (σ : St) (H : Hp) (Q : List (V × V) → Hp → Prop), Inv X pins σ H s → tPairs trs σ H Q →
    wpAny (model X.prog X.w) X.A (evalPairs (pairTrees keys values X.env pos)) (fun vs s' => ∃ ps H', Inv X pins σ H' s' ∧ VV ps vs ∧ Q ps H') X.xe s
theorem pps_nil {X : Cx} {pos : Pos} : PPs X pos [] [] [] := fun pins s σ H Q I h => pairTrees_nil_walk ⟨[], H, I, .nil, h⟩
theorem pps_cons {X : Cx} {pos : Pos} {k v : Expr} {ks : List (Option Expr)} {vs : List Expr} {tk tv : TE} {trs : List (TE × TE)} (hk : PE X k tk) (hv : PE X v tv) (hr : PPs X pos ks vs trs) :
    PPs X pos (some k :: ks) (v :: vs) ((tk, tv) :: trs) := fun pins s σ H Q I h =>
  pairTrees_cons_walk (thn (hk pins s σ H _ I h) fun u s1 ⟨x, H1, I1, rx, q1⟩ => thn (hv pins s1 σ H1 _ I1 q1) fun w2 s2 ⟨y, H2, I2, ry, q2⟩ =>
    thn (hr pins s2 σ H2 _ I2 q2) fun ws s3 ⟨ps, H3, I3, rel, q3⟩ => ⟨(x, y) :: ps, H3, I3, .cons ⟨rx, ry⟩ rel, q3⟩)
def mergeK (kvs more : List (Key × V)) : List (Key × V) := more.foldl (fun acc kv => putK acc kv.1 kv.2) kvs
theorem KV.merge : ∀ {more : List (Key × V)} {rs : List (Key × Value)} {kvs : List (Key × V)} {vs : List (Key × Value)}, KV more rs → KV kvs vs → KV (mergeK kvs more) (merged vs rs) := by
  intro more rs kvs vs r
  unfold KV at r
  induction r generalizing kvs vs with
  | nil => intro q; exact q
  | @cons p q ps qs h t ih =>
    intro r0
    have e : KV (putK kvs p.1 p.2) (stored vs q.1 q.2) := by
      have := r0.put p.1 h.2
      rw [← h.1]; exact this
    exact ih e
theorem length_mergeK : ∀ (more kvs : List (Key × V)), (mergeK kvs more).length ≤ kvs.length + more.length
  | [], kvs => by show kvs.length ≤ kvs.length + 0; omega
  | p :: r, kvs => by
    have h1 := length_mergeK r (putK kvs p.1 p.2)
    have h2 := length_putK kvs p.1 p.2
    show (mergeK (putK kvs p.1 p.2) r).length ≤ _
    rw [List.length_cons]; omega
theorem carries_of {P : Program} {w : World} : ∀ {kvs : List (Key × V)} {ws : List (Value × Value)}, VV (kvs.map fun kv => (kV kv.1, kv.2)) ws → ∃ rs, Carries (mixKind P w) ws rs ∧ KV kvs rs
  | [], _, r => by rw [List.map_nil] at r; cases r; exact ⟨[], True.intro, .nil⟩
  | p :: kvs, _, r => by
    rw [List.map_cons] at r
    cases r with
    | @cons a b as bs h t =>
      obtain ⟨rs, c, q⟩ := carries_of (P := P) (w := w) t
      obtain ⟨b1, b2⟩ := b
      exact ⟨(p.1, b2) :: rs, ⟨kV_is h.1, rfl, c⟩, .cons ⟨rfl, h.2⟩ q⟩
def tDisp (trs : List (TE × TE)) : TE := fun σ H Q => ∀ p, H p = none → tPairs trs σ (upd H p (.dK [])) fun ps H2 => H2 p = some (.dK []) ∧ ∃ kvs : List (Key × V), ps = kvs.map (fun kv => (kV kv.1, kv.2)) ∧ kvs.length ≤ 15 ∧ Q (.ref p) (upd H2 p (.dK (mergeK [] kvs)))
theorem pe_disp {X : Cx} {pos : Pos} {keys : List (Option Expr)} {values : List Expr} {trs : List (TE × TE)} (h : PPs X pos keys values trs) (hall : keys.all (·.isSome) = true) (hl : keys.length = values.length) (h0 : keys ≠ [])
    (h15 : keys.length ≤ 15) : PE X (.Dict keys values pos) (tDisp trs) := by
  intro pins s σ H Q I q
  have hn := I.hok.fresh (Nat.le_refl s.heap.objs.size)
  have I1 := I.laid (a := s.heap.objs.size) (o := .dK []) (h' := s.heap.push { cls := .type "dict", data := .dict #[] }) (t' := s.toks) (fun _ _ q => Heap.get?_push_of_some _ q) (Nat.le_refl _) (dk_empty s.heap I.big)
  refine wpAny_Dict_walk (knd := mixKind X.prog X.w) hall hl h0 h15 (thn (h pins _ σ _ _ I1 (q _ hn)) fun ws s2 ⟨ps, H2, I2, rel, e, kvs, ep, lk, q2⟩ => ?_)
  subst ep
  obtain ⟨rs, c, rk⟩ := carries_of (P := X.prog) (w := X.w) rel
  obtain ⟨z, hd, vs0, r0, dd⟩ := dk_of I2.hok e
  cases r0
  refine ⟨rs, c, dd, fun h' dd' hs => ⟨.ref s.heap.objs.size, _, ?_, rfl, q2⟩⟩
  have hz : (mergeK [] kvs).length ≤ sizeLine := by
    have h1 := length_mergeK kvs []
    rw [List.length_nil] at h1
    rw [sizeLine_eq]; omega
  have he : ∃ q, h'.get? s.heap.objs.size = some q := let ⟨q, _, _, hq, _⟩ := dd'; ⟨q, hq⟩
  exact d_write I2 (by rw [e]; exact True.intro) hs he (dk_new hz hd (rk.merge .nil) dd')
section
variable {X : Cx} {pins : List (Addr × Obj)} {σ : St} {H : Hp} {s : Shared} {a : Addr} {y d : V} {u r : Value} {o : Option V} {A : Around} {E : Value → Shared → Prop}
end
section
variable {X : Cx} {o e f : Expr} {apos cpos : Pos} {td ty tx : TE}
end
section
variable {X : Cx} {pins : List (Addr × Obj)} {σ : St} {H : Hp} {s : Shared} {a : Addr} {kvs : List (Key × V)} {A : Around} {E : Value → Shared → Prop}
end
section
variable {X : Cx} {pins : List (Addr × Obj)} {σ : St} {H : Hp} {s : Shared} {a : Addr} {y : V} {u : Value} {A : Around} {E : Value → Shared → Prop}
end
end L2
namespace Att
open PySem PySem.W PySem.Calls PyProof.Rows
theorem ints_of_wellAll {P : Params} {h : Heap} : ∀ (ns : List Int) (vs : List Value), WellAll P h vs (ns.map WData.int) → IntsAre vs ns := by
  intro ns
  induction ns with
  | nil =>
    intro vs w
    rw [List.map_nil] at w
    cases w
    exact .nil
  | cons n ns ih =>
    intro vs w
    rw [List.map_cons] at w
    cases w with
    | cons a b =>
      cases a
      exact .cons _ _ (ih _ b)
theorem script_of {l : OpenLaw} {n : Nat} (hn : l.most = some n) {P : Params} {h : Heap} {args : List WData} {vals : List Value}
    (hpre : l.row.toRowW.claim.pre args = true) (hwl : WellAll P h vals args) :
    ∃ a vs ns, vals = [Value.ref a] ∧ args = [WData.list (ns.map WData.int)] ∧ h.get? a = some { cls := .type "list", data := .seq vs.toArray } ∧ IntsAre vs ns ∧ ns.length ≤ n := by
  have hsh : WShape.hasAll [] args [.list .int] = true := (pre_splitW hpre).1
  have hc : l.pre.holds [] { args := args } = true := (pre_splitW hpre).2
  obtain ⟨d, r, rfl, h1, h2⟩ := hasAllW_cons hsh
  obtain rfl := hasAllW_nil h2
  obtain ⟨xs, rfl, h3⟩ := hasW_list h1
  obtain ⟨ns, rfl⟩ := items_int h3
  have hlen : ns.length ≤ n := by
    unfold OpenLaw.pre at hc
    have h4 : (WTm.not (.lt (.lit (.int (n : Int))) (.len (.arg 0)))).holds [] { args := [.list (ns.map .int)] } = true := by
      have h4 := (holds_andW hc).1
      rw [hn] at h4
      exact h4
    have h5 := condW_of h4 (w_not (w_lt w_lit (w_len_list (w_arg rfl))))
    rw [List.length_map] at h5
    refine Nat.le_of_not_lt fun q => ?_
    have q' : (n : Int) < ((ns.length : Nat) : Int) := by omega
    first
      | (rw [decide_eq_true q'] at h5; exact absurd h5 (by decide))
      | (simp at h5; omega)
  cases hwl with
  | cons w1 w2 =>
    cases w2
    cases w1 with
    | list ho hall => exact ⟨_, _, ns, rfl, rfl, ho, ints_of_wellAll ns _ hall, hlen⟩
theorem post_true (l : OpenLaw) (args : List WData) : l.row.toRowW.claim.post args (.bool true) args = true :=
  postW_of (r := l.row.toRowW) (X := (true == true))
    (show WShape.has [] (.bool true) .bool = true by first | rfl | decide | simp [WShape.has, WShape.arms, WShape.armsAll])
    (show (WTm.eq .res (.lit (.bool true))).value [] { args := args, res := some (.bool true), after := args } = some (.bool (true == true)) from w_eq_bool (w_res rfl) w_lit) rfl
section
variable {prog : Program} {w : World} {A : Around} {E : Value → Shared → Prop} {s : Shared} {K : Frag}
end
end Att
namespace L2
open PySem PySem.Spec PyProof.Rows
theorem vals_ints : ∀ {vs : List Value} {ns : List Int}, IntsAre vs ns → Vals (ns.map V.int) vs
  | _, _, .nil => .nil
  | _, _, .cons n t h => .cons ⟨t, rfl⟩ (vals_ints h)
def Only (H : Hp) : Prop := ∀ b, H b = none ∨ ∃ o xs, H b = some (.frz o (.lst xs))
theorem law_call {P : Program} {w : World} {K : PySem.W.Frag} {mg mb : Str → Option Value} {CX : CXT} {k : Nat} {fa a : Addr} {fd : FuncData} {x : Str} {sp : Sp} {s₁ : Shared} {vs : List Value} {ns : List Int}
    (KX : K.In s₁.heap) (hns : s₁.heap.Ns mainGlobals mg) (hb : s₁.heap.Ns builtinsNs mb) (hbb : ∀ x : Str, x ≠ "__name__" → mb x = bootBuiltins x) (hlim : s₁.heap.NoLimit) (hg : s₁.gens = #[])
    (ha : s₁.heap.get? a = some { cls := .type "list", data := .seq vs.toArray }) (hi : IntsAre vs ns) (hl : ns.length ≤ sizeLine) (hr : Room k callerA)
    (F : ∀ base : Heap, K.In base → base.Ns mainGlobals mg → FnOk P w K mg base CX k fa fd [x] sp) (hbind : ∀ (s : Shared) (u : Value), BindsTo s fd ⟨[u], []⟩ [(x, u)])
    (hsp : ∀ H : Hp, Only H → SqL K H a (ns.map V.int) → sp [.ref a] H (fun v _ => v = .bl true) fun _ _ _ => False)
    (hCX : ∀ H e s', CX [] H s₁ (fun _ _ _ => False) e s' → False) :
    codeAny (model P w) callerA (.call (.ref fa) ⟨[.ref a], []⟩) (fun r s' => r = .ok (.ret (.bool true)) ∧ OldK s₁.heap s'.heap ∧ s'.os = s₁.os ∧ AllBare s'.gens) s₁ := by
  have rv := vals_ints hi
  have lenV := hi.length
  -- from an abstract heap in which nothing but the script may be tracked
  have core : ∀ H : Hp, Only H → SqL K H a (ns.map V.int) → HOk P w H s₁.heap → (∀ b, H b ≠ none → b = a) → (H a ≠ none → K.lookup a = none) →
      codeAny (model P w) callerA (.call (.ref fa) ⟨[.ref a], []⟩) (fun r s' => r = .ok (.ret (.bool true)) ∧ OldK s₁.heap s'.heap ∧ s'.os = s₁.os ∧ AllBare s'.gens) s₁ := by
    intro H hO hS hok hA hK
    have base_of : ∀ {b : Addr} {o : Obj}, s₁.heap.get? b = some o → H b = none → (hidT s₁.heap H).get? b = some o := fun e n => hidT_get e n
    have noA : ∀ {b : Addr} {o : Obj} {es : Array DictEntry} {ep : Nat}, s₁.heap.get? b = some o → o.data = .dict es ep → H b = none := fun {b o es ep} e d => by
      cases q : H b with
      | none => rfl
      | some u =>
        have e' : b = a := hA b (by rw [q]; simp)
        subst e'
        rw [ha] at e; cases e
        have d' : Data.seq vs.toArray _ = Data.dict es ep := d
        cases d'
    have nsK : ∀ {b : Addr} {m : Str → Option Value}, s₁.heap.Ns b m → (hidT s₁.heap H).Ns b m := fun {b m} ⟨o, es, ep, e, d, r⟩ => ⟨o, es, ep, base_of e (noA e d), d, r⟩
    have hKb : K.In (hidT s₁.heap H) := fun b o e => base_of (KX b o e) (by
      cases q : H b with
      | none => rfl
      | some u =>
        have e' : b = a := hA b (by rw [q]; simp)
        subst e'
        rw [hK (by rw [q]; simp)] at e; cases e)
    have hM : Mod K mg (hidT s₁.heap H) := ⟨hKb, nsK hns, ⟨mb, nsK hb, hbb⟩, let ⟨mc, h1, h2⟩ := hlim; ⟨mc, nsK h1, h2⟩⟩
    have e0 : Env0 P w K mg (hidT s₁.heap H) callerA [] s₁ H := ⟨rfl, hM, fun b o e => of_hidT e, Nat.le_of_eq (hidT_size _ _), trivial, fun b hb => absurd (show b ∈ ([] : List Addr) from hb) (by simp), hok, .of_eq hg⟩
    refine codeAny_mono ((F _ hKb (nsK hns)).run callerA [] s₁ H ⟨[.ref a], []⟩ [.ref a] [.ref a] _ _ hr e0 (hbind s₁ (.ref a)) (.cons rfl .nil) (hsp H hO hS)) fun r s' h => ?_
    cases r with
    | error e => exact (hCX H e s' h).elim
    | ok fl =>
      cases fl with
      | next => exact False.elim h
      | brk => exact False.elim h
      | cont => exact False.elim h
      | ret u =>
        obtain ⟨v, H', os, bare, un, hok', r', q⟩ := h
        have q' : v = .bl true := q
        subst q'
        obtain rfl : u = Value.bool true := r'
        refine ⟨rfl, OldK.of_keep fun b o e => ?_, os, bare⟩
        cases q : H b with
        | none => exact un.keep b o e q (by intro z; exact absurd (show b ∈ ([] : List Addr) from z) (by simp)) (by simp)
        | some u =>
          rcases hO b with z | ⟨ob, xs, z⟩
          · rw [q] at z; cases z
          · have z2 := un.frzs b ob _ z
            obtain ⟨e1, _⟩ := hok b _ z
            obtain ⟨e2, _⟩ := hok' b _ z2
            rw [e] at e1; cases e1
            exact e2
  cases hk : K.lookup a with
  | some o =>
    -- the script is one of the module's own objects
    have e := KX a o hk
    rw [ha] at e
    cases e
    refine core (fun _ => none) (fun _ => .inl rfl) (.inr ⟨_, vs.toArray, _, hk, rfl, rfl, rfl, by rw [List.size_toArray, lenV]; exact hl, by simpa using rv⟩) (fun b u z => by have z' : (none : Option HO) = some u := z; cases z') (fun b z => absurd rfl z) fun z => absurd rfl z
  | none =>
    refine core (fun b => if b = a then some (.frz { cls := .type "list", data := .seq vs.toArray } (.lst (ns.map V.int))) else none) (fun b => ?_) (.inl (.inr ⟨{ cls := .type "list", data := .seq vs.toArray }, if_pos rfl⟩)) (fun b u z => ?_) (fun b z => ?_) fun _ => hk
    · by_cases hb : b = a
      · exact .inr ⟨_, _, if_pos hb⟩
      · exact .inl (if_neg hb)
    · by_cases hb : b = a
      · have z' := (if_pos hb).symm.trans z
        cases z'
        subst hb
        exact ⟨ha, by rw [List.length_map]; exact hl, vs, _, rv, ha⟩
      · have z' := (if_neg hb).symm.trans z
        cases z'
    · by_cases hb : b = a
      · exact hb
      · exact absurd (if_neg hb) z
end L2
namespace L2
open PySem PySem.Spec PyProof.Rows
abbrev KOf {K : PySem.W.Frag} {h : Heap} (_ : K.In h) : PySem.W.Frag := K
end L2
namespace L2
open PySem PySem.Spec PyProof.Rows
def defArgs (s : Stmt) : Arguments := match s with
  | .FunctionDef _ a _ _ _ _ _ _ _ _ => a
  | _ => { posonlyargs := [], args := [], vararg := none, kwonlyargs := [], kw_defaults := [], kwarg := none, defaults := [] }
def defBody (s : Stmt) : List Stmt := match s with
  | .FunctionDef _ _ b _ _ _ _ _ _ _ => b
  | _ => []
def defScope (s : Stmt) : Scope := match s with
  | .FunctionDef _ _ _ _ _ _ sc _ _ _ => sc
  | _ => { kind := .function, names := [], isGenerator := false, isCoroutine := false }
abbrev CX0 : CXT := fun _ _ _ _ _ _ => False
abbrev E0 : XK := fun _ _ _ => False
theorem pass0 {X : Cx} : Passes CX0 X E0 := fun _ _ _ _ _ _ _ h => h.elim
structure Fun (K : PySem.W.Frag) (x qual : Str) (st : Stmt) (f : Addr) (fd : FuncData) : Prop where
  ex : ∃ (oc : Value) (od : Option Addr) (kV doc pm : Value) (an : Option Addr) (cdv ct : Value) (osl : Array (Option Value)),
    fd = PySem.W.fnOf x qual (defArgs st) (defBody st) (defScope st) .none kV doc pm an cdv ct ∧ K.lookup f = some ⟨oc, od, .func fd, osl⟩ ∧ PySem.W.codeIn K cdv qual = true
  kp : PySem.W.keepIn K (.ref f) = true
section
variable {P : Program} {w : World} {K : PySem.W.Frag} {mg : Str → Option Value} {base : Heap}
theorem Fun.ok {x qual : Str} {st : Stmt} {f : Addr} {fd : FuncData} {N ps : List Str} {k : Nat} {sp : Sp} (F : Fun K x qual st f fd) (S : FnScope N ps (defScope st)) (len : ∀ vs H Q E, sp vs H Q E → vs.length = ps.length)
    (hbody : ∀ (cdv : Value) (A : Around) (outer : List Env) (s : Shared) (H : Hp) (vs : List V) (Q : VK) (E : XK), Room k (A.deeper (envOfC qual (defScope st) s.heap.objs.size f cdv)) → sp vs H Q E →
      ∃ t, PSs (cxOf CX0 P w K mg base N qual (defScope st) f cdv A outer s H E).nox (defBody st) t ∧ t { nx := fun _ H' => Q .non H', rt := Q } (start N vs) H) : FnOk P w K mg base CX0 (k + 1) f fd ps sp := by
  obtain ⟨oc, od, kV, doc, pm, an, cdv, ct, osl, rfl, lk, hcd⟩ := F.ex
  refine fn_of lk hcd S len fun A outer s H vs Q E hr hsp => ?_
  obtain ⟨t, h, q⟩ := hbody cdv A outer s H vs Q E hr hsp
  exact ⟨t, h.nox, q⟩
theorem Fun.binds {x qual : Str} {st : Stmt} {f : Addr} {fd : FuncData} {ps : List Str} (F : Fun K x qual st f fd)
    (h : ∀ (kV doc pm : Value) (an : Option Addr) (cdv ct : Value) (us : List Value), us.length = ps.length → bindArgs (PySem.W.fnOf x qual (defArgs st) (defBody st) (defScope st) .none kV doc pm an cdv ct) ⟨us, []⟩ = pure (ps.zip us)) : Binds K fd ps [] := by
  obtain ⟨oc, od, kV, doc, pm, an, cdv, ct, osl, rfl, lk, hcd⟩ := F.ex
  exact .all (h kV doc pm an cdv ct)
theorem fun_mk {x qual : Str} {st : Stmt} {f : Addr} {oc : Value} {od an : Option Addr} {osl : Array (Option Value)} {kV doc pm cdv ct : Value} (l : K.lookup f = some ⟨oc, od, .func (PySem.W.fnOf x qual (defArgs st) (defBody st) (defScope st) .none kV doc pm an cdv ct), osl⟩)
    (c : PySem.W.codeIn K cdv qual = true) (k : PySem.W.keepIn K (.ref f) = true) : Fun K x qual st f (PySem.W.fnOf x qual (defArgs st) (defBody st) (defScope st) .none kV doc pm an cdv ct) := ⟨⟨oc, od, kV, doc, pm, an, cdv, ct, osl, rfl, l, c⟩, k⟩
end
theorem hu_of {A : Around} {k : Nat} (hr : Room k A) : A.units + 1 < cLine := Nat.lt_of_le_of_lt (Nat.add_le_add_left (by decide : 1 ≤ 64) _) hr.units
section
variable {X : Cx}
end
theorem iteF {A B : Prop} (h : B) : if false = true then A else B := by
  rw [if_neg Bool.false_ne_true]
  exact h
theorem iteT {A B : Prop} (h : A) : if true = true then A else B := by
  rw [if_pos rfl]
  exact h
def Same (H H' : Hp) : Prop := ∀ b o, H b = some o → H' b = some o
theorem Same.refl (H : Hp) : Same H H := fun _ _ h => h
theorem Same.trans {H H1 H2 : Hp} (a : Same H H1) (b : Same H1 H2) : Same H H2 := fun c o h => b c o (a c o h)
theorem Same.free {H H' : Hp} (e : Same H H') {l : Addr} (h : H' l = Option.none) : H l = Option.none := by
  cases q : H l with
  | none => rfl
  | some o =>
    rw [e l o q] at h
    cases h
theorem Same.seq {K : PySem.W.Frag} {H H' : Hp} {a : Addr} {xs : List V} (e : Same H H') (h : SqL K H a xs) : SqL K H' a xs := by
  rcases h with (h | ⟨o, h⟩) | h
  · exact .inl (.inl (e _ _ h))
  · exact .inl (.inr ⟨o, e _ _ h⟩)
  · exact .inr h
end L2
namespace L2
open PySem PySem.Spec PyProof.Rows
section
variable {X : Cx}
theorem call_lenD : CallR X (.builtin "len") (fun xs H Q => ∃ a kvs, xs = [V.ref a] ∧ H a = some (.dK kvs) ∧ Q (.int kvs.length) H) := by
  intro pins s σ H xs us Q I r h
  obtain ⟨a, kvs, rfl, ha, q⟩ := h
  obtain ⟨u, rfl, ru⟩ := vals1 r
  cases ru
  exact d_len I (.inl ha) fun t s' I' => ⟨.int kvs.length, H, I', ⟨t, rfl⟩, q⟩
end
section
variable {κ : Type} [DecidableEq κ]
theorem nd_snoc : ∀ {l : List κ} {k : κ}, l.Nodup → ¬ k ∈ l → (l ++ [k]).Nodup
  | [], k, _, _ => by simp
  | a :: r, k, h, hk => by
    obtain ⟨h1, h2⟩ := List.nodup_cons.mp h
    show (a :: (r ++ [k])).Nodup
    refine List.nodup_cons.mpr ⟨fun m => ?_, nd_snoc h2 fun m => hk (List.mem_cons.mpr (Or.inr m))⟩
    rcases List.mem_append.mp m with q | q
    · exact h1 q
    · exact hk (List.mem_cons.mpr (Or.inl (List.mem_singleton.mp q).symm))
end
end L2

set_option Elab.async false
set_option linter.all false
set_option maxRecDepth 100000
set_option maxHeartbeats 4000000
namespace L2
open PySem PySem.Spec PyProof.Rows
section
variable {X : Cx}
def cxComp (X : Cx) (scope : Scope) (cl : List (Str × Addr)) (C : Addr) (N' : List Str) (s : Shared) (H : Hp) (ex : List Addr) : Cx :=
  { X with N := N', s₀ := s, H₀ := H, env := compEnvC scope cl C X.env, outer := X.stack, stack := X.stack, ex := ex, fn := fun _ => false, pn := [], xe := fun _ _ => False }
def PF (X : Cx) (ifs : List Expr) (t : TT) : Prop :=
  ∀ (pins : List (Addr × Obj)) (s : Shared) (σ : St) (H : Hp) (Q : Bool → Hp → Prop), Inv X pins σ H s → t σ H Q →
    wpAny (model X.prog X.w) X.A (forIn ifs true fun c r => if r = true then do let ok ← isTrue c X.env (eval c X.env); pure (ForInStep.yield ok) else pure (ForInStep.yield r)) (TP X pins σ Q) X.xe s
def tYes : TT := fun _ H Q => Q true H
theorem pf_nil : PF X [] tYes := by
  intro pins s σ H Q I h
  exact wpAny_pure ⟨H, I, h⟩
theorem pf_one {c : Expr} {t : TT} (hc : PT X c t) : PF X [c] t := by
  intro pins s σ H Q I h
  show wpAny _ _ (forIn [c] true fun c r => _) _ _ s
  rw [List.forIn_cons]
  simp only [if_true, List.forIn_nil]
  refine wpAny_bind (wpAny_bind (wpAny_mono (hc pins s σ H Q I h) (fun b s1 h1 => ?_) fun _ _ e => e))
  exact wpAny_pure (wpAny_pure h1)
theorem compLoop_any {prog : Program} {w : World} {A : Around} {R : Result → Shared → Prop} {s : Shared} {elt target iter : Expr} {ifs : List Expr} {scope : Scope} {pos : Pos} {it acc : Value} {env : Env} (I : Nat → Shared → Prop)
    (turn : ∀ n s, I n s → wpAny (model prog w) A (pyNext it) (fun r s₁ => match r with
      | none => R (.ok .next) s₁
      | some v => wpAny (model prog w) A (letOwnedTupleGo target it v) (fun _ s₁' => wpAny (model prog w) A (assign target env v) (fun _ s₂ =>
          wpAny (model prog w) A (forIn ifs true fun c r => if r = true then do let ok ← isTrue c env (eval c env); pure (ForInStep.yield ok) else pure (ForInStep.yield r)) (fun ok s₃ =>
            if ok = true then wpAny (model prog w) A (eval elt env) (fun x s₄ =>
              wpAny (model prog w) A (call (.builtin "list.append") [acc, x]) (fun _ s₅ => ∃ m, m < n ∧ I m s₅) (fun _ _ => False) s₄) (fun _ _ => False) s₃
            else ∃ m, m < n ∧ I m s₃) (fun _ _ => False) s₂) (fun _ _ => False) s₁') (fun _ _ => False) s₁) (fun _ _ => False) s)
    (n : Nat) (h : I n s) :
    codeAny (model prog w) A (.compLoop (.ListComp elt [⟨target, iter, ifs, 0⟩] scope pos) 0 it acc env) R s := by
  have no : ∀ {α : Type} {t : Sem α} {Q : α → Shared → Prop} {E : Value → Shared → Prop} {s : Shared}, wpAny (model prog w) A t Q (fun _ _ => False) s → wpAny (model prog w) A t Q E s := fun h => wpAny_mono h (fun _ _ q => q) fun _ _ f => f.elim
  refine codeAny_loop rfl I (fun n s hI => ?_) n h
  show wpAny _ A ((compTurn (.ListComp elt [⟨target, iter, ifs, 0⟩] scope pos) 0 it acc env).onRaise (fun x => do noteFrame x env; theTreesLotGoes x)) _ _ s
  refine wpAny_noted ?_
  rw [compTurn_list]
  refine wpAny_bind (wpAny_standAt (wpAny_bind (wpAny_mono (no (turn n s hI)) (fun r s₁ h₁ => ?_) fun _ _ h' => h')))
  cases r with
  | none => exact wpAny_pure h₁
  | some v =>
    refine wpAny_bind (wpAny_mono (no h₁) (fun _ s₁' h₁' => ?_) fun _ _ h' => h')
    refine wpAny_bind (wpAny_mono (no h₁') (fun _ s₂ h₂ => wpAny_bind (wpAny_mono (no h₂) (fun ok s₃ h₃ => ?_) fun _ _ h' => h')) fun _ _ h' => h')
    cases ok with
    | false => exact wpAny_pure ⟨rfl, h₃⟩
    | true =>
      exact wpAny_bind (wpAny_bind (wpAny_mono (no h₃) (fun x s₄ h₄ => wpAny_bind (wpAny_mono (no h₄) (fun _ s₅ h₅ => wpAny_pure (wpAny_pure ⟨rfl, h₅⟩)) fun _ _ h' => h')) fun _ _ h' => h'))
def tComp (wi : TI) (g : TG) (tc : TT) (te : TE) (z : St → St) : TE := fun σ H Q => wi σ H fun J H1 =>
  ∃ W : Nat → Nat → List V → St → Hp → Prop, (∃ m, W 0 m [] (z σ) H1) ∧ ∀ i m ys σ' H', W i m ys σ' H' →
    ys.length ≤ sizeLine ∧ ((J.stop i H' ∧ ∀ p, H' p = none → Q (.ref p) (upd H' p (.lst ys))) ∨
    (J.go i H' ∧ ∀ x H2, J.yld i H' x H2 → g x σ' H2 fun σ2 H3 => tc σ2 H3 fun b H4 =>
      if b = true then te σ2 H4 fun v H5 => ∃ m', m' < m ∧ W (i + 1) m' (ys ++ [v]) σ2 H5 else ∃ m', m' < m ∧ W (i + 1) m' ys σ2 H4))
structure CompScope (X : Cx) (scope : Scope) (cl : List (Str × Addr)) (own fr : List Str) (ix : List Nat) : Prop where
  clos : closureFor scope X.env = pure cl
  cells : ∀ x c, cl.lookup x = some c → X.env.cells.lookup x = some c
  kind : scope.kind = .function
  ncell : ∀ y ∈ scope.names, y.2 ≠ .cell
  names : ∀ y ∈ scope.names, y.2 = .local → scope.names.lookup y.1 = some .local
  has : ∀ x, scope.names.lookup x = some .free → ∃ c, cl.lookup x = some c
  frees : ∀ x ∈ fr, scope.names.lookup x = some .free
  len : fr.length = ix.length
  at_ : ∀ (k : Nat) (i : Nat) (x : Str), ix[k]? = some i → fr[k]? = some x → X.N[i]? = some x ∧ X.env.kindOf x = some .cell
theorem relabel_lookup {env : Env} : ∀ {names : List (Str × NameKind)} {x : Str} {k : NameKind},
    (names.map fun (n, k) => if (k == NameKind.free && env.scope.kind == .function && env.kindOf n == some .cell) then (n, NameKind.cell) else (n, k)).lookup x = some k →
    ∃ k', names.lookup x = some k' ∧ (k = k' ∨ (k' = .free ∧ k = .cell))
  | [], _, _, h => by simp at h
  | (n, k) :: r, x, kk, h => by
    have ih := @relabel_lookup env r x kk
    replace h : List.lookup x ((if (k == NameKind.free && env.scope.kind == .function && env.kindOf n == some .cell) = true then (n, NameKind.cell) else (n, k)) :: _) = some kk := h
    by_cases hc : (k == NameKind.free && env.scope.kind == .function && env.kindOf n == some .cell) = true
    · rw [if_pos hc] at h
      cases hx : x == n with
      | true =>
        simp only [List.lookup_cons, hx, Option.some.injEq] at h ⊢
        have hk : k = .free := by
          simp only [Bool.and_eq_true] at hc
          exact eq_of_beq hc.1.1
        exact ⟨k, rfl, .inr ⟨hk, h.symm⟩⟩
      | false =>
        simp only [List.lookup_cons, hx] at h ⊢
        exact ih h
    · rw [if_neg hc] at h
      cases hx : x == n with
      | true =>
        simp only [List.lookup_cons, hx, Option.some.injEq] at h ⊢
        exact ⟨k, rfl, .inl h.symm⟩
      | false =>
        simp only [List.lookup_cons, hx] at h ⊢
        exact ih h
theorem relabel_free {env : Env} (hf : env.scope.kind = .function) : ∀ {names : List (Str × NameKind)} {x : Str}, names.lookup x = some .free → env.kindOf x = some .cell →
    (names.map fun (n, k) => if (k == NameKind.free && env.scope.kind == .function && env.kindOf n == some .cell) then (n, NameKind.cell) else (n, k)).lookup x = some .cell
  | [], _, h, _ => by simp at h
  | (n, k) :: r, x, h, hk => by
    have ih := @relabel_free env hf r x
    show List.lookup x ((if (k == NameKind.free && env.scope.kind == .function && env.kindOf n == some .cell) = true then (n, NameKind.cell) else (n, k)) :: _) = _
    cases hx : x == n with
    | true =>
      simp only [List.lookup_cons, hx, Option.some.injEq] at h
      have e : x = n := eq_of_beq hx
      subst e
      subst h
      rw [if_pos (by rw [hf, hk]; rfl)]
      simp [List.lookup_cons]
    | false =>
      simp only [List.lookup_cons, hx] at h
      split
      · simp only [List.lookup_cons, hx]; exact ih h hk
      · simp only [List.lookup_cons, hx]; exact ih h hk
def zComp (own : List Str) (ix : List Nat) (σ : St) : St := List.replicate own.length none ++ ix.map fun i => (σ[i]?).join
structure Off (X : Cx) (pins : List (Addr × Obj)) (H : Hp) (s : Shared) (C : Addr) : Prop where
  ns : ∃ m, s.heap.Ns C m
  free : H C = none
  ne : C ≠ X.env.locals
  young : X.s₀.heap.objs.size ≤ C
  cell : ∀ x c, X.env.cells.lookup x = some c → c ≠ C
  pin : ∀ p ∈ X.pn ++ pins, p.1 ≠ C
theorem comp_core {elt target iter : Expr} {ifs : List Expr} {scope : Scope} {pos : Pos} {cl : List (Str × Addr)} {own fr : List Str} {ix : List Nat} {wi : TI} {g : TG} {tc : TT} {te : TE}
    {use : Option (Value → Sem Unit)} {Qf : Value → Shared → Prop} {pins : List (Addr × Obj)} {s : Shared} {σ : St} {H : Hp} {Q : VK}
    (hc : X.calm = true) (S : CompScope X scope cl own fr ix) (hi : PI X target iter wi)
    (hb : ∀ (C : Addr) (s : Shared) (H : Hp) (ex : List Addr), PG (cxComp X scope cl C (own ++ fr) s H ex) target g ∧ PF (cxComp X scope cl C (own ++ fr) s H ex) ifs tc ∧ PE (cxComp X scope cl C (own ++ fr) s H ex) elt te)
    (hs : ∀ x, foldedSetIterable iter X.env x = pure x) (I : Inv X pins σ H s) (h : tComp wi g tc te (zComp own ix) σ H Q)
    (hfin : ∀ (D C : Addr) (H6 : Hp) (s6 : Shared), Inv X pins σ H6 s6 → Off X pins H6 s6 C → Q (.ref D) H6 → compPost (model X.prog X.w) X.A X.xe use Qf (.ref D) C (.ok .next) s6) :
    wpAny (model X.prog X.w) X.A (comprehension (.ListComp elt [⟨target, iter, ifs, 0⟩] scope pos) scope X.env (firstIterPos [⟨target, iter, ifs, 0⟩] pos) (newList []) false (eval iter X.env) use) Qf X.xe s := by
  refine wpAny_comprehension_free (use := use) rfl hs S.clos S.kind S.names ?_
  refine thn (hi pins s σ H _ I h) fun v s1 h1 => thn h1 fun itv s2 h2 => ?_
  obtain ⟨it, fp, tn, J, H2, rfl, I2, T, st2, f2, W, ⟨m0, w0⟩, turn⟩ := h2
  refine wpAny_newObj_type (wpAny_newFunctionEnv S.ncell (by intro y hy; simp at hy) (fun h₁ hns₁ hsb₁ => ?_) S.kind)
  dsimp only at hns₁ hsb₁ ⊢
  generalize hH3 : s2.heap.push { cls := .type "list", dict := none, data := .seq ([] : List Value).toArray } = h3 at hns₁ hsb₁ ⊢
  have hC : h3.objs.size = s2.heap.objs.size + 1 := by rw [← hH3, Heap.size_push]
  have to3 : ∀ b o, s2.heap.get? b = some o → h3.get? b = some o := fun b o e => by rw [← hH3]; exact Heap.get?_push_of_some _ e
  have getD3 : h3.get? s2.heap.objs.size = some { cls := .type "list", data := .seq ([] : List Value).toArray } := by rw [← hH3]; exact Heap.get?_push_size _ rfl
  have to1 : ∀ b o, h3.get? b = some o → h₁.get? b = some o := fun b o e => hsb₁.extBut b o (Nat.ne_of_lt (Heap.lt_size e)) (Heap.get?_push_of_some _ e)
  have frD : ∀ {b : Addr}, b ∈ fp → b ≠ s2.heap.objs.size := fun {b} hb z => by
    obtain ⟨o, e, _⟩ := T.obj 0 _ st2 b hb
    exact absurd (Heap.lt_size e) (by rw [z]; exact Nat.lt_irrefl _)
  have frC : ∀ {b : Addr}, b ∈ fp → b ≠ h3.objs.size := fun {b} hb z => by
    obtain ⟨o, e, _⟩ := T.obj 0 _ st2 b hb
    exact absurd (Heap.lt_size e) (by rw [z, hC]; exact Nat.not_lt.mpr (Nat.le_succ _))
  have HD2 : H2 s2.heap.objs.size = none := I2.hok.fresh (Nat.le_refl _)
  -- the block's context
  let X' : Cx := cxComp X scope cl h3.objs.size (own ++ fr) { s2 with heap := h3 } H2 (s2.heap.objs.size :: fp)
  have ok' : X'.Ok := by
    refine ⟨I2.ok.mod, S.kind, I2.ok.glob, I2.ok.blt, Nat.le_refl _, fun x y c e1 e2 => I2.ok.inj x y c (S.cells x c e1) (S.cells y c e2), fun x hx => ?_, fun x c z => ?_, I2.ok.hd, I2.ok.frames, .inl rfl, fun b hb => ?_, fun b o e => ?_, ?_, fun b o e hb => ?_, fun b hb z => ?_, ?_, I2.stkFree⟩
    · have key : scope.names.lookup x = some .free := by
        have hx : (relabel scope X.env).names.lookup x = some .cell ∨ (relabel scope X.env).names.lookup x = some .free := hx
        rcases hx with hx | hx
        · obtain ⟨k', e, z⟩ := relabel_lookup hx
          rcases z with z | z
          · subst z; exact absurd rfl (S.ncell _ (PySem.mem_of_lookup e))
          · rw [e, z.1]
        · obtain ⟨k', e, z⟩ := relabel_lookup hx
          rcases z with z | z
          · subst z; exact e
          · cases z.2
      exact S.has x key
    · cases z
    · rcases List.mem_cons.mp hb with rfl | hb
      · refine ⟨by rw [show X'.env.locals = h3.objs.size from rfl, hC]; exact Nat.ne_of_lt (Nat.lt_succ_self _), fun x c e z => ?_⟩
        obtain ⟨v', q⟩ := I2.cell x c (S.cells x c e)
        exact absurd q.lt (by rw [z]; exact Nat.lt_irrefl _)
      · exact ⟨frC hb, fun x c e => (f2 b hb).2.2.2.2.1 x c (S.cells x c e)⟩
    · obtain ⟨e1, e2⟩ := I2.bs b o e
      exact ⟨to3 b o e1, e2⟩
    · show X.base.objs.size ≤ h3.objs.size
      have := I2.ok.bsz; have := I2.sz
      omega
    · rcases List.mem_cons.mp hb with rfl | hb
      · exact absurd (Heap.lt_size (I2.bs _ o e).1) (Nat.lt_irrefl _)
      · rcases (f2 b hb).2.2.2.1 with z | z
        · exact I2.ok.noex b o e z
        · exact absurd (Nat.lt_of_lt_of_le (Nat.lt_of_lt_of_le (Heap.lt_size e) I2.ok.bsz) z) (Nat.lt_irrefl _)
    · replace z : b ∈ frs X.stack := z
      rcases List.mem_cons.mp hb with rfl | hb
      · obtain ⟨_, o, ho, _⟩ := I2.stack.mem z
        exact absurd (Heap.lt_size ho) (Nat.lt_irrefl _)
      · rcases List.mem_cons.mp (I2.stkSub b z) with q | q
        · exact (f2 b hb).2.1 q
        · exact (f2 b hb).2.2.1 q
    · exact I2.stack.of_keeps fun b o e _ => ⟨o, to3 b o e, rfl⟩
  have I4 : Inv X' [] (zComp own ix σ) H2 { s2 with heap := h₁, toks := s2.toks + ([] : List (Str × Value)).length } := by
    refine ⟨ok', rfl, I2.bare, Un.kept to1, ⟨_, hns₁, fun i x v e1 e2 e3 => ?_⟩, fun x c e => ?_, I2.hok.fresh (by show s2.heap.objs.size ≤ h3.objs.size; rw [hC]; exact Nat.le_succ _), fun x c e => I2.freeC x c (S.cells x c e), fun p hp => absurd (show p ∈ ([] : List (Addr × Obj)) from hp) (by simp), I2.hok.kept fun b o e => to1 b o (to3 b o e), ?_⟩
    · replace e1 : (own ++ fr)[i]? = some x := e1
      unfold zComp at e2
      by_cases hlt : i < own.length
      · rw [List.getElem?_append_left (by simpa using hlt), List.getElem?_replicate] at e2
        split at e2 <;> cases e2
      · rw [List.getElem?_append_right (by simpa using hlt)] at e1 e2
        rw [List.length_replicate, List.getElem?_map] at e2
        cases ek : ix[i - own.length]? with
        | none => rw [ek] at e2; cases e2
        | some j =>
          rw [ek] at e2
          obtain ⟨n1, n2⟩ := S.at_ _ j x ek e1
          have e2' : σ[j]? = some (some v) := by
            have q : (σ[j]?).join = some v := Option.some.inj e2
            cases es : σ[j]? with
            | none => rw [es] at q; cases q
            | some o => rw [es] at q; exact congrArg some q
          obtain ⟨m, hn, hl⟩ := I2.loc
          obtain ⟨u, r, l⟩ := hl j x v n1 e2' (.inr (.inl n2))
          refine ⟨u, r, ?_⟩
          have hfr : scope.names.lookup x = some .free := S.frees x (List.mem_of_getElem? e1)
          rcases l with ⟨k, _⟩ | ⟨_, c, hcl, z⟩
          · rw [n2] at k; cases k
          · obtain ⟨c', hc'⟩ := S.has x hfr
            have q := S.cells x c' hc'
            rw [hcl] at q
            cases q
            obtain ⟨oc, ho, hd⟩ := z
            exact .inr ⟨.inl (relabel_free I2.ok.kind hfr n2), c, hc', oc, to1 _ _ (to3 _ _ ho), hd⟩
    · obtain ⟨v', oc, ho, hd⟩ := I2.cell x c (S.cells x c e)
      exact ⟨v', oc, to1 _ _ (to3 _ _ ho), hd⟩
    · show (zComp own ix σ).length = (own ++ fr).length
      unfold zComp
      rw [List.length_append, List.length_append, List.length_replicate, List.length_map, S.len]
  obtain ⟨hg, hf, he⟩ := hb h3.objs.size { s2 with heap := h3 } H2 (s2.heap.objs.size :: fp)
  have hg : PG X' target g := hg
  have hf : PF X' ifs tc := hf
  have he : PE X' elt te := he
  have locX : X'.env.locals = h3.objs.size := rfl
  -- D's place
  have Dne : s2.heap.objs.size ≠ X'.env.locals := by rw [locX, hC]; exact Nat.ne_of_lt (Nat.lt_succ_self _)
  have Dfs : s2.heap.objs.size ∉ X'.fs := ok'.exfs _ (List.mem_cons_self ..)
  have Dcl : ∀ x c, X'.env.cells.lookup x = some c → c ≠ s2.heap.objs.size := fun x c e => (ok'.exf _ (List.mem_cons_self ..)).2 x c e
  have fpX : ∀ {pl : List (Addr × Obj)} {H' : Hp}, (∀ p ∈ pl, p.1 = s2.heap.objs.size) → (∀ b ∈ fp, H' b = none) → ∀ b ∈ fp, FpOk X' pl H' b := fun hp hn b hb =>
    ⟨hn b hb, frC hb, ok'.exfs b (List.mem_cons_of_mem _ hb), .inl (List.mem_cons_of_mem _ hb), (ok'.exf b (List.mem_cons_of_mem _ hb)).2, fun p q => by
      rw [hp p (by simpa [show X'.pn = [] from rfl] using q)]; exact Ne.symm (frD hb)⟩
  have pinD : ∀ {σ' : St} {H' : Hp} {s' : Shared} {o : Obj}, Inv X' [] σ' H' s' → s'.heap.get? s2.heap.objs.size = some o → H' s2.heap.objs.size = none → (∀ v, o.data ≠ .cell v) → Inv X' [(s2.heap.objs.size, o)] σ' H' s' := fun I e n d =>
    I.pins_of fun p hp => by
      obtain rfl := List.mem_singleton.mp hp
      exact ⟨e, n, Dne, Dfs, d⟩
  have loop : codeAny (model X.prog X.w) X.A (.compLoop (.ListComp elt [⟨target, iter, ifs, 0⟩] scope pos) 0 (.ref it) (.ref s2.heap.objs.size) X'.env)
      (compPost (model X.prog X.w) X.A X.xe use Qf (.ref s2.heap.objs.size) h3.objs.size) { s2 with heap := h₁, toks := s2.toks + ([] : List (Str × Value)).length } := by
    refine compLoop_any (fun n s' => ∃ i ys its k σ' H', Inv X' [] σ' H' s' ∧ tn i s'.heap ∧ (∀ b ∈ fp, H' b = none) ∧ H' s2.heap.objs.size = none ∧ Vals ys its ∧ s'.heap.get? s2.heap.objs.size = some { cls := .type "list", data := .seq its.toArray k } ∧ W i n ys σ' H')
      ?_ m0 ⟨0, [], [], 0, _, H2, I4, T.keep 0 _ _ st2 fun b _ o e => to1 b o (to3 b o e), fun b hb' => (f2 b hb').1, HD2, .nil, to1 _ _ getD3, w0⟩
    rintro n s5 ⟨i, ys, its, k, σ5, H5, I5, st5, fr5, hD5, vs5, get5, w5⟩
    obtain ⟨hlen, alt⟩ := turn i n ys σ5 H5 w5
    have P5 := pinD I5 get5 hD5 (fun v z => by cases z)
    have okp : ∀ p ∈ [(s2.heap.objs.size, ({ cls := .type "list", data := .seq its.toArray k } : Obj))], p.1 = s2.heap.objs.size := fun p hp => by
      rw [List.mem_singleton.mp hp]
    rcases alt with ⟨stop, q⟩ | ⟨go, step⟩
    · refine thn (T.done X' rfl rfl rfl hc i _ s5 σ5 H5 _ P5 (fpX okp fr5) st5 stop) fun r s6 ⟨hr, I6⟩ => ?_
      subst hr
      obtain ⟨m6, hn6, _⟩ := I6.loc
      obtain ⟨get6, _, _, _, _⟩ := I6.pin (s2.heap.objs.size, ({ cls := .type "list", data := .seq its.toArray k } : Obj)) (List.mem_append_right _ (List.mem_singleton.mpr rfl))
      have toh : ∀ b o, b ≠ h3.objs.size → s6.heap.get? b = some o → s6.heap.get? b = some o := fun b o hb e => e
      have exn : ∀ {b : Addr} {o : Obj}, s2.heap.get? b = some o → b ∉ fp → b ∉ X'.ex := fun {b o} e hb z => by
        rcases List.mem_cons.mp z with z | z
        · exact absurd (Heap.lt_size e) (by rw [z]; exact Nat.lt_irrefl _)
        · exact hb z
      have neC : ∀ {b : Addr} {o : Obj}, s2.heap.get? b = some o → b ≠ h3.objs.size := fun {b o} e z => by
        have q1 := Heap.lt_size e
        rw [z, hC] at q1
        exact absurd q1 (Nat.not_lt.mpr (Nat.le_succ _))
      have neD : ∀ {b : Addr} {o : Obj}, s2.heap.get? b = some o → b ≠ s2.heap.objs.size := fun {b o} e => Nat.ne_of_lt (Heap.lt_size e)
      have neD' : ∀ {b : Addr} {o : HO}, H2 b = some o → b ≠ s2.heap.objs.size := fun {b o} e => ne_of_none e HD2
      have U : Un (frs X.stack) fp H2 (upd H5 s2.heap.objs.size (.lst ys)) s2.heap s6.heap := by
        refine ⟨fun b o e n hb hx => ?_, fun b o e n hb hx => ?_, fun b o e n hx => ?_, fun b o e hx => ?_, fun b xs e => ?_, fun b o u e => ?_, fun b ps e => ?_⟩
        · exact toh b o (neC e) (I6.base.keep b o (to3 b o e) n hb (exn e hx))
        · obtain ⟨sl, q1⟩ := I6.base.slot b o (to3 b o e) n hb (exn e hx)
          exact ⟨sl, toh b _ (neC e) q1⟩
        · rw [upd_ne (neD e)]
          exact I6.base.free b o (to3 b o e) n (exn e hx)
        · obtain ⟨o', q1⟩ := I6.base.there b o (to3 b o e) (exn e hx)
          exact ⟨o', toh b _ (neC e) q1⟩
        · rw [upd_ne (neD' e)]; exact I6.base.tups b xs e
        · rw [upd_ne (neD' e)]; exact I6.base.frzs b o u e
        · rw [upd_ne (neD' e)]; exact I6.base.tbls b ps e
      have HC : H5 h3.objs.size = none := I6.free
      have hok : HOk X.prog X.w (upd H5 s2.heap.objs.size (.lst ys)) s6.heap := fun b u e => by
        by_cases hbD : b = s2.heap.objs.size
        · subst hbD
          rw [upd_same] at e
          cases e
          exact ⟨hlen, its, k, vs5, toh _ _ (by rw [hC]; exact Nat.ne_of_lt (Nat.lt_succ_self _)) get6⟩
        · rw [upd_ne hbD] at e
          refine (I6.hok b u e).stay (fun c o hco q1 => toh c o (fun z => ?_) q1) (fun c q1 => by rw [upd_ne (ne_of_none q1 hD5)]; exact q1) fun c xs q1 => by rw [upd_ne (ne_of_none q1 hD5)]; exact q1
          rcases hco with hco | hco
          · rw [← hco, z, HC] at e; cases e
          · rw [z, HC] at hco; cases hco
      have fin := I2.call' (s' := s6) (ch := fp) I6.os U hok I6.bare fun b hb' => ⟨(f2 b hb').2.2.2.1, (f2 b hb').2.1, (f2 b hb').2.2.2.2.1, (f2 b hb').2.2.2.2.2⟩
      refine hfin _ h3.objs.size _ s6 fin ⟨⟨m6, hn6⟩, ?_, ?_, ?_, fun x c e z => ?_, fun p hp z => ?_⟩ (q _ hD5)
      · rw [upd_ne (by rw [hC]; exact Nat.ne_of_gt (Nat.lt_succ_self _))]; exact HC
      · intro z
        have := I2.lt
        rw [← z, hC] at this
        exact absurd this (Nat.not_lt.mpr (Nat.le_succ _))
      · rw [hC]; exact Nat.le_trans I2.sz (Nat.le_succ _)
      · obtain ⟨v', q1⟩ := I2.cell x c e
        have := q1.lt
        rw [z, hC] at this
        exact absurd this (Nat.not_lt.mpr (Nat.le_succ _))
      · have := Heap.lt_size (I2.pin p hp).1
        rw [z, hC] at this
        exact absurd this (Nat.not_lt.mpr (Nat.le_succ _))
    · refine thn (T.item X' rfl rfl rfl hc i _ s5 σ5 H5 _ P5 (fpX okp fr5) st5 go) fun r s6 ⟨u, hr, h6⟩ => ?_
      subst hr
      refine thn h6 fun _ s7 ⟨x, H7, I7, r7, y7, st7, fr7⟩ => ?_
      have I7' := I7.pinned (fpX okp fr7) (T.obj _ _ st7)
      refine thn (hg _ s7 σ5 H7 x u _ I7' r7 (step x H7 y7)) fun _ s8 ⟨σ8, H8, I8, q8⟩ => ?_
      refine thn (hf _ s8 σ8 H8 _ I8 q8) fun b s9 ⟨H9, I9, q9⟩ => ?_
      have out : ∀ {σ' : St} {H' : Hp} {s' : Shared}, Inv X' ([(s2.heap.objs.size, ({ cls := .type "list", data := .seq its.toArray k } : Obj))] ++ pinsAt fp s7.heap) σ' H' s' →
          tn (i + 1) s'.heap ∧ (∀ b ∈ fp, H' b = none) ∧ H' s2.heap.objs.size = none ∧ s'.heap.get? s2.heap.objs.size = some { cls := .type "list", data := .seq its.toArray k } := fun I' => by
        refine ⟨T.keep _ _ _ st7 fun b hb' o e => (I'.pin (b, o) (List.mem_append_right _ (List.mem_append_right _ (mem_pinsAt hb' e)))).1, fun b hb' => ?_, (I'.pin (s2.heap.objs.size, ({ cls := .type "list", data := .seq its.toArray k } : Obj)) (List.mem_append_right _ (List.mem_append_left _ (List.mem_singleton.mpr rfl)))).2.1, (I'.pin (s2.heap.objs.size, ({ cls := .type "list", data := .seq its.toArray k } : Obj)) (List.mem_append_right _ (List.mem_append_left _ (List.mem_singleton.mpr rfl)))).1⟩
        obtain ⟨o, e, d⟩ := T.obj _ _ st7 b hb'
        exact (I'.pin (b, o) (List.mem_append_right _ (List.mem_append_right _ (mem_pinsAt hb' e)))).2.1
      cases b with
      | false =>
        rw [if_neg Bool.false_ne_true] at q9 ⊢
        obtain ⟨m', hm, w'⟩ := q9
        obtain ⟨o1, o2, o3, o4⟩ := out I9
        exact ⟨m', hm, i + 1, ys, its, k, σ8, H9, I9.pins_of (fun _ z => nomatch z), o1, o2, o3, vs5, o4, w'⟩
      | true =>
        rw [if_pos rfl] at q9 ⊢
        refine thn (he _ s9 σ8 H9 _ I9 q9) fun uv s10 ⟨v10, H10, I10, r10, q10⟩ => ?_
        obtain ⟨m', hm, w'⟩ := q10
        obtain ⟨o1, o2, o3, o4⟩ := out I10
        refine wpAny_list_append_plain ⟨k, o4⟩ (fun h' hpl hsb => ?_) (by
          have := vs5.length
          rw [List.size_toArray, ← this]; exact hlen)
        obtain ⟨k', hk'⟩ := hpl
        have I11 : Inv X' (pinsAt fp s7.heap) σ8 H10 s10 := I10.pins_of fun p hp => I10.pin p (List.mem_append_right _ (List.mem_append_right _ hp))
        have I12 : Inv X' [] σ8 H10 { s10 with heap := h' } := (I10.pins_of (fun _ z => nomatch z) : Inv X' [] σ8 H10 s10).turned (t' := s10.toks) (fun b o hb' e => hsb.extBut b o hb' e) o3 Dne (.inl (List.mem_cons_self ..)) Dcl (fun p hp => absurd (show p ∈ ([] : List (Addr × Obj)) from hp) (by simp))
        refine ⟨m', hm, i + 1, ys ++ [v10], its ++ [uv], k', σ8, H10, I12, T.keep _ _ _ o1 fun b hb' o e => hsb.extBut b o (frD hb') e, o2, o3, vs5.append (.cons r10 .nil), ?_, w'⟩
        show h'.get? _ = _
        rw [hk']
        simp
  exact codeAny_compStart_list loop (T.self X.A 0 _ _ _ (T.keep 0 _ _ st2 fun b _ o e => to1 b o (to3 b o e)) loop)
theorem Off.gone {pins : List (Addr × Obj)} {σ : St} {H : Hp} {s : Shared} {C : Addr} {h' : Heap} (o : Off X pins H s C) (I : Inv X pins σ H s) (hsb : Heap.SameBut C s.heap h') : Inv X pins σ H { s with heap := h' } :=
  I.turned (t' := s.toks) (fun b u hb e => hsb.extBut b u hb e) o.free o.ne (.inr o.young) o.cell o.pin
theorem pe_comp {elt target iter : Expr} {ifs : List Expr} {scope : Scope} {pos : Pos} {cl : List (Str × Addr)} {own fr : List Str} {ix : List Nat} {wi : TI} {g : TG} {tc : TT} {te : TE}
    (hc : X.calm = true) (S : CompScope X scope cl own fr ix) (hi : PI X target iter wi)
    (hb : ∀ (C : Addr) (s : Shared) (H : Hp) (ex : List Addr), PG (cxComp X scope cl C (own ++ fr) s H ex) target g ∧ PF (cxComp X scope cl C (own ++ fr) s H ex) ifs tc ∧ PE (cxComp X scope cl C (own ++ fr) s H ex) elt te)
    (hs : ∀ x, foldedSetIterable iter X.env x = pure x := by intro _; rfl) :
    PE X (.ListComp elt [⟨target, iter, ifs, 0⟩] scope pos) (tComp wi g tc te (zComp own ix)) := by
  intro pins s σ H Q I h
  rw [eval_ListComp]
  refine comp_core (use := none) hc S hi hb hs I h fun D C H6 s6 I6 o6 q => ?_
  obtain ⟨m, hn⟩ := o6.ns
  exact ⟨m, hn, fun h' hsb => ⟨.ref D, H6, o6.gone I6 hsb, rfl, q⟩⟩
theorem ps_setcomp {i : Nat} {y : Str} {py spos : Pos} {elt target iter : Expr} {ifs : List Expr} {scope : Scope} {pos : Pos} {cl : List (Str × Addr)} {own fr : List Str} {ix : List Nat} {wi : TI} {g : TG} {tc : TT} {te : TE}
    (hsw : swapsWith (.ListComp elt [⟨target, iter, ifs, 0⟩] scope pos) (some (.Name y py)) spos.line X.env = pure true)
    (hN : X.N.Nodup) (hi' : X.N[i]? = some y) (hx : Loc X.env.scope y)
    (hc : X.calm = true) (S : CompScope X scope cl own fr ix) (hi : PI X target iter wi)
    (hb : ∀ (C : Addr) (s : Shared) (H : Hp) (ex : List Addr), PG (cxComp X scope cl C (own ++ fr) s H ex) target g ∧ PF (cxComp X scope cl C (own ++ fr) s H ex) ifs tc ∧ PE (cxComp X scope cl C (own ++ fr) s H ex) elt te)
    (hs : ∀ x, foldedSetIterable iter X.env x = pure x := by intro _; rfl)
    (hf : X.fn y = true ∨ X.env.scope.names.lookup y = some .local := by first | exact .inl rfl | exact .inr rfl | assumption) :
    PS X (.Assign [.Name y py] (.ListComp elt [⟨target, iter, ifs, 0⟩] scope pos) spos) (tAsg (tComp wi g tc te (zComp own ix)) (gName i)) := by
  intro pins s σ H D I h
  rw [exec_Assign_Name_used _ _ _ _ hsw]
  refine wpAny_bind (wpAny_standAt (wpAny_bind ?_))
  show wpAny _ _ (do let _ ← comprehension (.ListComp elt [⟨target, iter, ifs, 0⟩] scope pos) scope X.env _ (newList []) false (eval iter X.env) (some (assign (.Name y py) X.env))) _ _ s
  refine wpAny_bind (wpAny_mono (comp_core (use := some (assign (.Name y py) X.env)) (Qf := fun _ s' => SP X pins D .next s') hc S hi hb hs I h fun A C H6 s6 I6 o6 q => ?_) (fun _ s' hq => wpAny_pure (wpAny_pure hq)) fun _ _ e => e)
  show wpAny _ _ (assign (.Name y py) X.env (.ref A)) _ _ _
  refine wpAny_assign_Name (store_ok2 I6 hN hi' hx (v := .ref A) rfl (fun s7 I7 hw => ?_) hf)
  obtain ⟨c, hsb7, hcc⟩ := hw
  have neC : C ≠ c := by
    rcases hcc with rfl | hcc
    · exact o6.ne
    · exact Ne.symm (o6.cell y c hcc)
  obtain ⟨m, hn⟩ := o6.ns
  have o7 : Off X pins H6 s7 C := ⟨⟨m, hn.sameBut hsb7 neC⟩, o6.free, o6.ne, o6.young, o6.cell, o6.pin⟩
  exact ⟨m, hn.sameBut hsb7 neC, fun h' hsb => ⟨_, H6, o7.gone I7 hsb, q⟩⟩
end
end L2

set_option Elab.async false
set_option linter.all false
set_option maxRecDepth 100000
set_option maxHeartbeats 4000000
namespace Fc
open PySem PySem.Spec L2
open PyProof.Rows hiding St
section
variable {X : Cx}
def semE (X : Cx) (e : Expr) : TE := fun σ H Q => ∀ (pins : List (Addr × Obj)) (s : Shared), Inv X pins σ H s → wpAny (model X.prog X.w) X.A (eval e X.env) (EP X pins σ Q) X.xe s
def semT (X : Cx) (e : Expr) : TT := fun σ H Q => ∀ (pins : List (Addr × Obj)) (s : Shared), Inv X pins σ H s → wpAny (model X.prog X.w) X.A (isTrue e X.env (eval e X.env)) (TP X pins σ Q) X.xe s
def semW (X : Cx) (e : Expr) : TT := fun σ H Q => ∀ (whole : Sem Value) (pins : List (Addr × Obj)) (s : Shared), Inv X pins σ H s → wpAny (model X.prog X.w) X.A (isTrue e X.env whole) (TP X pins σ Q) X.xe s
def semG (X : Cx) (e : Expr) : TG := fun v σ H Q => ∀ (pins : List (Addr × Obj)) (s : Shared) (u : Value), Inv X pins σ H s → RelV v u → wpAny (model X.prog X.w) X.A (assign e X.env u) (fun _ s' => ∃ σ' H', Inv X pins σ' H' s' ∧ Q σ' H') X.xe s
def semS (X : Cx) (st : Stmt) : TS := fun D σ H => ∀ (pins : List (Addr × Obj)) (s : Shared), Inv X pins σ H s → wpAny (model X.prog X.w) X.A (exec st X.env) (SP X pins D) X.xe s
def semSs (X : Cx) (st : List Stmt) : TS := fun D σ H => ∀ (pins : List (Addr × Obj)) (s : Shared), Inv X pins σ H s → wpAny (model X.prog X.w) X.A (execs st X.env) (SP X pins D) X.xe s
def semA (X : Cx) (es : List Expr) : TA := fun σ H Q => ∀ (pos : Pos) (pins : List (Addr × Obj)) (s : Shared), Inv X pins σ H s → wpAny (model X.prog X.w) X.A (spliced (backTo pos (starEach es X.env))) (AP X pins σ Q) X.xe s
def semF (X : Cx) (ifs : List Expr) : TT := fun σ H Q => ∀ (pins : List (Addr × Obj)) (s : Shared), Inv X pins σ H s →
  wpAny (model X.prog X.w) X.A (forIn ifs true fun c r => if r = true then do let ok ← isTrue c X.env (eval c X.env); pure (ForInStep.yield ok) else pure (ForInStep.yield r)) (TP X pins σ Q) X.xe s
theorem peS {e : Expr} : PE X e (semE X e) := fun pins s _ _ _ I h => h pins s I
theorem ptS {e : Expr} : PT X e (semT X e) := fun pins s _ _ _ I h => h pins s I
theorem pwS {e : Expr} : PW X e (semW X e) := fun wh pins s _ _ _ I h => h wh pins s I
theorem pgS {e : Expr} : PG X e (semG X e) := fun pins s _ _ _ u _ I r h => h pins s u I r
theorem psS {e : Stmt} : PS X e (semS X e) := fun pins s _ _ _ I h => h pins s I
theorem pssS {e : List Stmt} : PSs X e (semSs X e) := fun pins s _ _ _ I h => h pins s I
theorem paS {e : List Expr} : PA X e (semA X e) := fun pos pins s _ _ _ I h => h pos pins s I
theorem eS {e : Expr} {t : TE} (h : PE X e t) {σ : St} {H : Hp} {Q : VK} (q : t σ H Q) : semE X e σ H Q := fun pins s I => h pins s σ H Q I q
theorem tS {e : Expr} {t : TT} (h : PT X e t) {σ : St} {H : Hp} {Q : Bool → Hp → Prop} (q : t σ H Q) : semT X e σ H Q := fun pins s I => h pins s σ H Q I q
theorem wS {e : Expr} {t : TT} (h : PW X e t) {σ : St} {H : Hp} {Q : Bool → Hp → Prop} (q : t σ H Q) : semW X e σ H Q := fun wh pins s I => h wh pins s σ H Q I q
theorem gS {e : Expr} {t : TG} (h : PG X e t) {v : V} {σ : St} {H : Hp} {Q : St → Hp → Prop} (q : t v σ H Q) : semG X e v σ H Q := fun pins s u I r => h pins s σ H v u Q I r q
theorem sS {e : Stmt} {t : TS} (h : PS X e t) {σ : St} {H : Hp} {D : Ends} (q : t D σ H) : semS X e D σ H := fun pins s I => h pins s σ H D I q
theorem ssS {e : List Stmt} {t : TS} (h : PSs X e t) {σ : St} {H : Hp} {D : Ends} (q : t D σ H) : semSs X e D σ H := fun pins s I => h pins s σ H D I q
theorem aS {e : List Expr} {t : TA} (h : PA X e t) {σ : St} {H : Hp} {Q : List V → Hp → Prop} (q : t σ H Q) : semA X e σ H Q := fun pos pins s I => h pos pins s σ H Q I q
theorem fS {e : List Expr} {t : TT} (h : PF X e t) {σ : St} {H : Hp} {Q : Bool → Hp → Prop} (q : t σ H Q) : semF X e σ H Q := fun pins s I => h pins s σ H Q I q
end
theorem Same.fresh {H : Hp} {p : Addr} (h : H p = none) (o : HO) : Same H (upd H p o) := fun b u q => by rw [upd_ne (ne_of_none q h)]; exact q
structure Rep (α : Type) where
  R : PySem.W.Frag → Hp → V → α → Prop
  mono : ∀ {K : PySem.W.Frag} {H H' : Hp} {v : V} {x : α}, Same H H' → R K H v x → R K H' v x
def rInt : Rep Int := ⟨fun _ _ v x => v = .int x, fun _ h => h⟩
def rBool : Rep Bool := ⟨fun _ _ v x => v = .bl x, fun _ h => h⟩
theorem Paired.map {α β : Type} {F G : α → β → Prop} (f : ∀ a b, F a b → G a b) : ∀ {l : List α} {m : List β}, PySem.Paired F l m → PySem.Paired G l m
  | _, _, .nil => .nil
  | _, _, .cons h t => .cons (f _ _ h) (Paired.map f t)
def rList {α : Type} (r : Rep α) : Rep (List α) := ⟨fun K H v xs => ∃ a vs, v = .ref a ∧ H a = some (.lst vs) ∧ PySem.Paired (r.R K H) vs xs ∧ xs.length ≤ sizeLine,
  fun s ⟨a, vs, e, q, p, z⟩ => ⟨a, vs, e, s _ _ q, Paired.map (fun _ _ => r.mono s) p, z⟩⟩
def rScr : Rep (List Int) := ⟨fun K H v xs => ∃ a, v = .ref a ∧ SqL K H a (xs.map V.int) ∧ xs.length ≤ 63, fun s ⟨a, e, q, z⟩ => ⟨a, e, s.seq q, z⟩⟩
def rPair {α β : Type} (r : Rep α) (r' : Rep β) : Rep (α × β) := ⟨fun K H v x => ∃ a v1 v2, v = .ref a ∧ H a = some (.tup [v1, v2]) ∧ r.R K H v1 x.1 ∧ r'.R K H v2 x.2,
  fun s ⟨a, v1, v2, e, q, h1, h2⟩ => ⟨a, v1, v2, e, s _ _ q, r.mono s h1, r'.mono s h2⟩⟩
abbrev Row := Int × Int × Int × Int
def rRow : Rep Row := ⟨fun K H v x => ∃ a, v = .ref a ∧ H a = some (.tup [.int x.1, .int x.2.1, .int x.2.2.1, .int x.2.2.2]), fun s ⟨a, e, q⟩ => ⟨a, e, s _ _ q⟩⟩
abbrev Web := List Int × List Row
def rWeb : Rep Web := rPair (rList rInt) (rList rRow)
structure Ext (H R H' R' : Hp) : Prop where
  h : Same H H'
  r : Same R R'
  s : Same R' H'
  old : ∀ b, H b ≠ none → R' b = R b
theorem Ext.refl {H R : Hp} (s : Same R H) : Ext H R H R := ⟨Same.refl _, Same.refl _, s, fun _ _ => rfl⟩
theorem Same.some {H H' : Hp} (s : Same H H') {b : Addr} (h : H b ≠ none) : H' b ≠ none := by
  cases q : H b with
  | none => exact absurd q h
  | some o => rw [s b o q]; exact Option.some_ne_none o
theorem Ext.trans {H R H1 R1 H2 R2 : Hp} (a : Ext H R H1 R1) (b : Ext H1 R1 H2 R2) : Ext H R H2 R2 :=
  ⟨a.h.trans b.h, a.r.trans b.r, b.s, fun c hc => (b.old c (Same.some a.h hc)).trans (a.old c hc)⟩
theorem Ext.fresh {H R : Hp} (s : Same R H) {p : Addr} (h : H p = none) (o : HO) : Ext H R (upd H p o) (upd R p o) :=
  ⟨Same.fresh h o, Same.fresh (s.free h) o, fun b u q => by
    by_cases e : b = p
    · subst e; rw [upd_same] at q ⊢; exact q
    · rw [upd_ne e] at q ⊢; exact s b u q, fun b hb => upd_ne fun e => hb (e ▸ h)⟩
theorem Ext.freshM {H R : Hp} (s : Same R H) {p : Addr} (h : H p = none) (o : HO) : Ext H R (upd H p o) R :=
  ⟨Same.fresh h o, Same.refl _, s.trans (Same.fresh h o), fun _ _ => rfl⟩
structure Box : Type 1 where
  fp : List Addr
  R : PySem.W.Frag → Hp → Hp → V → Prop
  loc : ∀ {K : PySem.W.Frag} {H R0 H' R' : Hp} {v : V}, (∀ a ∈ fp, H' a = H a) → Same R0 R' → R K H R0 v → R K H' R' v
  has : ∀ {K : PySem.W.Frag} {H R0 : Hp} {v : V}, R K H R0 v → ∀ a ∈ fp, H a ≠ none
inductive Ent : Type 1
  | no
  | im {α : Type} (r : Rep α) (x : α)
  | mu {α : Type} (r : Rep α) (xs : List α)
  | di (kvs : List (Int × V))
  | ob (B : Box)
def dkOf (kvs : List (Int × V)) : List (Key × V) := kvs.map fun p => (Sum.inl p.1, p.2)
def Ent.ok (K : PySem.W.Frag) (H R : Hp) : Ent → Option V → Prop
  | .no, _ => True
  | .im r x, o => ∃ v, o = some v ∧ r.R K R v x
  | .mu r xs, o => ∃ a vs, o = some (.ref a) ∧ H a = some (.lst vs) ∧ R a = none ∧ PySem.Paired (r.R K R) vs xs
  | .di kvs, o => ∃ a, o = some (.ref a) ∧ H a = some (.dK (dkOf kvs)) ∧ R a = none
  | .ob B, o => (∃ v, o = some v ∧ B.R K H R v) ∧ ∀ a ∈ B.fp, R a = none
def Ent.own : Ent → Bool
  | .mu .. => true
  | .di .. => true
  | _ => false
def refOf : Option V → List Addr
  | some (.ref a) => [a]
  | _ => []
def Ent.fp : Ent → Option V → List Addr
  | .mu .., o => refOf o
  | .di .., o => refOf o
  | .ob B, _ => B.fp
  | _, _ => []
abbrev Ga := List Ent
structure EnvOk (K : PySem.W.Frag) (σ : St) (H0 R0 H R : Hp) (Γ : Ga) : Prop where
  ext : Ext H0 R0 H R
  ent : ∀ (i : Nat) (e : Ent), Γ[i]? = some e → e.ok K H R (σ[i]?).join
  nw : ∀ (i : Nat) (e : Ent) (a : Addr), Γ[i]? = some e → a ∈ e.fp (σ[i]?).join → H0 a = none
  ds : ∀ (i j : Nat) (e e' : Ent) (a : Addr), Γ[i]? = some e → Γ[j]? = some e' → a ∈ e.fp (σ[i]?).join → a ∈ e'.fp (σ[j]?).join → i = j
  len : Γ.length = σ.length
section
variable {K : PySem.W.Frag} {σ : St} {H0 R0 H R H' R' : Hp} {Γ : Ga} {α : Type} {r : Rep α}
theorem mem_refOf {o : Option V} {a : Addr} : a ∈ refOf o ↔ o = some (.ref a) := by
  unfold refOf
  split
  · rw [List.mem_singleton]; constructor
    · rintro rfl; rfl
    · intro e; cases e; rfl
  · rename_i h
    constructor
    · intro z; cases z
    · intro e; exact absurd e (h a)
theorem Ent.own_fp {e : Ent} (w : e.own = true) {o : Option V} {a : Addr} : a ∈ e.fp o ↔ o = some (.ref a) := by
  cases e with
  | no => cases w
  | im r x => cases w
  | mu r xs => exact mem_refOf
  | di kvs => exact mem_refOf
  | ob B => cases w
theorem EnvOk.new (E : EnvOk K σ H0 R0 H R Γ) (i : Nat) (e : Ent) (a : Addr) (h : Γ[i]? = some e) (w : e.own = true) (ha : (σ[i]?).join = some (.ref a)) : H0 a = none := E.nw i e a h ((Ent.own_fp w).mpr ha)
theorem Ent.fp_at {e : Ent} {o : Option V} (h : e.ok K H R o) {a : Addr} (ha : a ∈ e.fp o) : H a ≠ none ∧ R a = none := by
  cases e with
  | no => cases ha
  | im r x => cases ha
  | mu r xs =>
    obtain ⟨b, vs, e, q, n, _⟩ := h
    rw [Ent.fp, mem_refOf, e] at ha
    cases ha
    exact ⟨by rw [q]; exact Option.some_ne_none _, n⟩
  | di kvs =>
    obtain ⟨b, e, q, n⟩ := h
    rw [Ent.fp, mem_refOf, e] at ha
    cases ha
    exact ⟨by rw [q]; exact Option.some_ne_none _, n⟩
  | ob B => obtain ⟨⟨v, e, q⟩, n⟩ := h; exact ⟨B.has q a ha, n a ha⟩
theorem Ent.ok.loc {e : Ent} {o : Option V} (h : e.ok K H R o) (hH : ∀ a ∈ e.fp o, H' a = H a) (hR : Same R R') (hn : ∀ a ∈ e.fp o, R' a = none) : e.ok K H' R' o := by
  cases e with
  | no => trivial
  | im r y => obtain ⟨v, e, q⟩ := h; exact ⟨v, e, r.mono hR q⟩
  | mu r xs =>
    obtain ⟨a, vs, e, q, n, p⟩ := h
    have ha : a ∈ Ent.fp (.mu r xs) o := mem_refOf.mpr e
    exact ⟨a, vs, e, (hH a ha).trans q, hn a ha, Paired.map (fun _ _ => r.mono hR) p⟩
  | di kvs =>
    obtain ⟨a, e, q, n⟩ := h
    have ha : a ∈ Ent.fp (.di kvs) o := mem_refOf.mpr e
    exact ⟨a, e, (hH a ha).trans q, hn a ha⟩
  | ob B => obtain ⟨⟨v, e, q⟩, n⟩ := h; exact ⟨⟨v, e, B.loc hH hR q⟩, hn⟩
theorem Ent.ok.grow {e : Ent} {o : Option V} (h : e.ok K H R o) (x : Ext H R H' R') : e.ok K H' R' o := by
  refine h.loc (fun a ha => ?_) x.r (fun a ha => ?_)
  · cases q : H a with
    | none => exact absurd q (Ent.fp_at h ha).1
    | some u => exact x.h _ _ q
  · obtain ⟨h1, h2⟩ := Ent.fp_at h ha
    exact (x.old a h1).trans h2
theorem EnvOk.grow (E : EnvOk K σ H0 R0 H R Γ) (x : Ext H R H' R') : EnvOk K σ H0 R0 H' R' Γ :=
  ⟨E.ext.trans x, fun i e h => (E.ent i e h).grow x, E.nw, E.ds, E.len⟩
theorem EnvOk.sub (E : EnvOk K σ H0 R0 H R Γ) : Same R H := E.ext.s
def Off (a : Addr) (σ : St) (Γ : Ga) : Prop := ∀ (i : Nat) (e : Ent), Γ[i]? = some e → a ∉ e.fp (σ[i]?).join
theorem EnvOk.off (E : EnvOk K σ H0 R0 H R Γ) {a : Addr} (h : H a = none) : Off a σ Γ := fun i e q w => (Ent.fp_at (E.ent i e q) w).1 h
theorem set_at.{v} {β : Type v} {l : List β} {i : Nat} {y : β} {j : Nat} {e : β} (q : (l.set i y)[j]? = some e) : (j = i ∧ e = y ∧ i < l.length) ∨ (j ≠ i ∧ l[j]? = some e) := by
  by_cases hj : j = i
  · subst hj
    have hl : j < l.length := by
      have := List.getElem?_eq_some_iff.mp q
      simpa using this.1
    rw [List.getElem?_set_self hl] at q
    exact .inl ⟨rfl, (Option.some.inj q).symm, hl⟩
  · rw [List.getElem?_set_ne (Ne.symm hj)] at q
    exact .inr ⟨hj, q⟩
theorem EnvOk.setG (E : EnvOk K σ H0 R0 H R Γ) (i : Nat) {v : V} {en : Ent} (ho : en.ok K H R (some v)) (h0 : ∀ a ∈ en.fp (some v), H0 a = none) (hf : ∀ a ∈ en.fp (some v), ∀ (j : Nat) (e : Ent), j ≠ i → Γ[j]? = some e → a ∉ e.fp (σ[j]?).join) :
    EnvOk K (σ.set i (some v)) H0 R0 H R (Γ.set i en) := by
  have key : ∀ (j : Nat) (e : Ent), (Γ.set i en)[j]? = some e → (j = i ∧ e = en ∧ ((σ.set i (some v))[j]?).join = some v) ∨ (j ≠ i ∧ Γ[j]? = some e ∧ (σ.set i (some v))[j]? = σ[j]?) := fun j e q => by
    rcases set_at q with ⟨rfl, rfl, hl⟩ | ⟨hj, q⟩
    · exact .inl ⟨rfl, rfl, by rw [List.getElem?_set_self (by rw [← E.len]; exact hl)]; rfl⟩
    · exact .inr ⟨hj, q, List.getElem?_set_ne (Ne.symm hj)⟩
  refine ⟨E.ext, fun j e q => ?_, fun j e a q w => ?_, fun j k e e' a q q' w w' => ?_, by rw [List.length_set, List.length_set]; exact E.len⟩
  · rcases key j e q with ⟨_, rfl, q2⟩ | ⟨_, q1, q2⟩
    · rw [q2]; exact ho
    · rw [q2]; exact E.ent j e q1
  · rcases key j e q with ⟨_, rfl, q2⟩ | ⟨_, q1, q2⟩
    · rw [q2] at w; exact h0 a w
    · rw [q2] at w; exact E.nw j e a q1 w
  · rcases key j e q with ⟨hj, rfl, q2⟩ | ⟨hj, q1, q2⟩
    · rcases key k e' q' with ⟨hk, rfl, q2'⟩ | ⟨hk, q1', q2'⟩
      · rw [hj, hk]
      · rw [q2] at w; rw [q2'] at w'; exact absurd w' (hf a w k e' hk q1')
    · rcases key k e' q' with ⟨hk, rfl, q2'⟩ | ⟨hk, q1', q2'⟩
      · rw [q2] at w; rw [q2'] at w'; exact absurd w (hf a w' j e hj q1)
      · rw [q2] at w; rw [q2'] at w'; exact E.ds j k e e' a q1 q1' w w'
theorem EnvOk.set (E : EnvOk K σ H0 R0 H R Γ) (i : Nat) {v : V} {x : α} (h : r.R K R v x) : EnvOk K (σ.set i (some v)) H0 R0 H R (Γ.set i (.im r x)) :=
  E.setG i ⟨v, rfl, h⟩ (fun a w => by cases w) fun a w => by cases w
theorem EnvOk.setO (E : EnvOk K σ H0 R0 H R Γ) (i : Nat) {a : Addr} {u : HO} {en : Ent} (ho : en.ok K H R (some (.ref a))) (h0 : H0 a = none) (hf : ∀ (j : Nat) (e : Ent), j ≠ i → Γ[j]? = some e → a ∉ e.fp (σ[j]?).join) (hfp : en.fp (some (.ref a)) = [a] := by rfl) :
    EnvOk K (σ.set i (some (.ref a))) H0 R0 H R (Γ.set i en) :=
  E.setG i ho (fun b w => by rw [hfp, List.mem_singleton] at w; rw [w]; exact h0) fun b w => by rw [hfp, List.mem_singleton] at w; rw [w]; exact hf
theorem EnvOk.updG (E : EnvOk K σ H0 R0 H R Γ) {i : Nat} {a : Addr} {u : HO} {e0 en : Ent} (hi : Γ[i]? = some e0) (ha : a ∈ e0.fp (σ[i]?).join) (ho : en.ok K (L2.upd H a u) R (σ[i]?).join)
    (hsub : ∀ b ∈ en.fp (σ[i]?).join, b ∈ e0.fp (σ[i]?).join ∨ (H0 b = none ∧ Off b σ Γ)) : EnvOk K σ H0 R0 (L2.upd H a u) R (Γ.set i en) := by
  have h0 : H0 a = none := E.nw i e0 a hi ha
  have hR : R a = none := (Ent.fp_at (E.ent i e0 hi) ha).2
  refine ⟨⟨fun b o q => ?_, E.ext.r, fun b o q => ?_, E.ext.old⟩, fun j e q => ?_, fun j e b q w => ?_, fun j k e e' b q q' w w' => ?_, by rw [List.length_set]; exact E.len⟩
  · rw [upd_ne (ne_of_none q h0)]; exact E.ext.h b o q
  · rw [upd_ne (ne_of_none q hR)]; exact E.ext.s b o q
  · rcases set_at q with ⟨rfl, rfl, _⟩ | ⟨hj, q1⟩
    · exact ho
    · refine (E.ent j e q1).loc (fun b hb => upd_ne fun z => hj ?_) (Same.refl _) fun b hb => (Ent.fp_at (E.ent j e q1) hb).2
      rw [z] at hb
      exact E.ds j i e e0 a q1 hi hb ha
  · rcases set_at q with ⟨rfl, rfl, _⟩ | ⟨hj, q1⟩
    · rcases hsub b w with z | z
      · exact E.nw _ _ b hi z
      · exact z.1
    · exact E.nw j e b q1 w
  · rcases set_at q with ⟨rfl, rfl, _⟩ | ⟨hj, q1⟩
    · rcases set_at q' with ⟨rfl, rfl, _⟩ | ⟨hk, q1'⟩
      · rfl
      · rcases hsub b w with z | z
        · exact E.ds _ _ _ _ b hi q1' z w'
        · exact absurd w' (z.2 k e' q1')
    · rcases set_at q' with ⟨rfl, rfl, _⟩ | ⟨hk, q1'⟩
      · rcases hsub b w' with z | z
        · exact E.ds _ _ _ _ b q1 hi w z
        · exact absurd w (z.2 j e q1)
      · exact E.ds _ _ _ _ b q1 q1' w w'
theorem EnvOk.upd (E : EnvOk K σ H0 R0 H R Γ) {i : Nat} {a : Addr} {u : HO} {e0 en : Ent} (hi : Γ[i]? = some e0) (w0 : e0.own = true) (ha : (σ[i]?).join = some (.ref a)) (hR : R a = none) (ho : en.ok K (L2.upd H a u) R (some (.ref a))) (hfp : en.fp (some (.ref a)) = [a] := by rfl) :
    EnvOk K σ H0 R0 (L2.upd H a u) R (Γ.set i en) :=
  E.updG hi ((Ent.own_fp w0).mpr ha) (by rw [ha]; exact ho) fun b w => .inl (by rw [ha, hfp, List.mem_singleton] at w; rw [w]; exact (Ent.own_fp w0).mpr ha)
theorem EnvOk.still (E : EnvOk K σ H0 R0 H R Γ) {a : Addr} {u : HO} (ha : H a = some u) (hR : R a = none) (h0 : H0 a = none) (off : Off a σ Γ) : EnvOk K σ H0 R0 H (L2.upd R a u) Γ := by
  have s2 : Same R (L2.upd R a u) := Same.fresh hR _
  refine ⟨⟨E.ext.h, E.ext.r.trans s2, fun b o qb => ?_, fun b hb => ?_⟩, fun i e qe => ?_, E.nw, E.ds, E.len⟩
  · by_cases hb : b = a
    · subst hb; rw [upd_same] at qb; cases qb; exact ha
    · rw [upd_ne hb] at qb; exact E.ext.s b o qb
  · rw [upd_ne (show b ≠ a from fun e => hb (by rw [e]; exact h0))]; exact E.ext.old b hb
  · refine (E.ent i e qe).loc (fun _ _ => rfl) s2 fun b hb => ?_
    rw [upd_ne (show b ≠ a from fun z => off i e qe (z ▸ hb))]
    exact (Ent.fp_at (E.ent i e qe) hb).2
theorem EnvOk.tell (E : EnvOk K σ H0 R0 H R Γ) {i : Nat} {e0 en : Ent} (hi : Γ[i]? = some e0) (ho : en.ok K H R (σ[i]?).join) (hsub : ∀ b ∈ en.fp (σ[i]?).join, b ∈ e0.fp (σ[i]?).join) : EnvOk K σ H0 R0 H R (Γ.set i en) := by
  refine ⟨E.ext, fun j e q => ?_, fun j e b q w => ?_, fun j k e e' b q q' w w' => ?_, by rw [List.length_set]; exact E.len⟩
  · rcases set_at q with ⟨rfl, rfl, _⟩ | ⟨hj, q1⟩
    · exact ho
    · exact E.ent j e q1
  · rcases set_at q with ⟨rfl, rfl, _⟩ | ⟨hj, q1⟩
    · exact E.nw _ _ b hi (hsub b w)
    · exact E.nw j e b q1 w
  · rcases set_at q with ⟨rfl, rfl, _⟩ | ⟨hj, q1⟩
    · rcases set_at q' with ⟨rfl, rfl, _⟩ | ⟨hk, q1'⟩
      · rfl
      · exact E.ds _ _ _ _ b hi q1' (hsub b w) w'
    · rcases set_at q' with ⟨rfl, rfl, _⟩ | ⟨hk, q1'⟩
      · exact E.ds _ _ _ _ b q1 hi w (hsub b w')
      · exact E.ds _ _ _ _ b q1 q1' w w'
def Wk : Ga → Ga → Prop
  | [], [] => True
  | e :: r, e' :: r' => (e' = e ∨ e' = .no) ∧ Wk r r'
  | _, _ => False
theorem Wk.len : ∀ {Γ Γ' : Ga}, Wk Γ Γ' → Γ'.length = Γ.length
  | [], [], _ => rfl
  | _ :: _, _ :: _, h => by rw [List.length_cons, List.length_cons, Wk.len h.2]
theorem Wk.at : ∀ {Γ Γ' : Ga}, Wk Γ Γ' → ∀ (i : Nat) (e : Ent), Γ'[i]? = some e → e = .no ∨ Γ[i]? = some e
  | [], [], _, i, e, q => by simp at q
  | a :: _, b :: _, h, 0, e, q => by
    simp at q
    rcases h.1 with z | z
    · right; simp [← q, z]
    · left; rw [← q, z]
  | a :: r, b :: r', h, i + 1, e, q => by
    simp at q
    have := Wk.at h.2 i e q
    simpa using this
theorem Wk.refl : ∀ Γ : Ga, Wk Γ Γ
  | [] => trivial
  | _ :: r => ⟨.inl rfl, Wk.refl r⟩
theorem EnvOk.weak (E : EnvOk K σ H0 R0 H R Γ) {Γ' : Ga} (w : Wk Γ Γ') : EnvOk K σ H0 R0 H R Γ' := by
  refine ⟨E.ext, fun i e q => ?_, fun i e a q z => ?_, fun i j e e' a q q' z z' => ?_, w.len.trans E.len⟩
  · rcases w.at i e q with rfl | q
    · trivial
    · exact E.ent i e q
  · rcases w.at i e q with rfl | q
    · cases z
    · exact E.nw i e a q z
  · rcases w.at i e q with rfl | q
    · cases z
    · rcases w.at j e' q' with rfl | q'
      · cases z'
      · exact E.ds i j e e' a q q' z z'
end
end Fc

set_option Elab.async false
set_option linter.all false
set_option maxRecDepth 100000
set_option maxHeartbeats 4000000
namespace Fc
open PySem PySem.Spec L2
open PyProof.Rows hiding St
section
variable {X : Cx} {Γ Γ1 Γ2 Γ3 : Ga} {α β γ : Type}
def EV (X : Cx) (e : Expr) (Γ : Ga) {α : Type} (r : Rep α) (y : α) (Γ' : Ga) : Prop :=
  ∀ (σ : St) (H0 R0 H R : Hp), EnvOk X.K σ H0 R0 H R Γ → ∀ Q : VK, (∀ v H' R', EnvOk X.K σ H0 R0 H' R' Γ' → Same R R' → r.R X.K R' v y → Q v H') → semE X e σ H Q
def EVL (X : Cx) (e : Expr) (Γ : Ga) {α : Type} (r : Rep α) (ys : List α) (Γ' : Ga) : Prop :=
  ∀ (σ : St) (H0 R0 H R : Hp), EnvOk X.K σ H0 R0 H R Γ → ∀ Q : VK, (∀ a vs H' R', EnvOk X.K σ H0 R0 H' R' Γ' → Same R R' → H' a = some (.lst vs) → R' a = none → H0 a = none → Off a σ Γ' → PySem.Paired (r.R X.K R') vs ys → ys.length ≤ sizeLine → Q (.ref a) H') → semE X e σ H Q
def TV (X : Cx) (e : Expr) (Γ : Ga) (b : Bool) (Γ' : Ga) : Prop :=
  ∀ (σ : St) (H0 R0 H R : Hp), EnvOk X.K σ H0 R0 H R Γ → ∀ Q : Bool → Hp → Prop, (∀ H' R', EnvOk X.K σ H0 R0 H' R' Γ' → Same R R' → Q b H') → semT X e σ H Q
def TW (X : Cx) (e : Expr) (Γ : Ga) (b : Bool) (Γ' : Ga) : Prop :=
  ∀ (σ : St) (H0 R0 H R : Hp), EnvOk X.K σ H0 R0 H R Γ → ∀ Q : Bool → Hp → Prop, (∀ H' R', EnvOk X.K σ H0 R0 H' R' Γ' → Same R R' → Q b H') → semW X e σ H Q
def TF (X : Cx) (es : List Expr) (Γ : Ga) (b : Bool) (Γ' : Ga) : Prop :=
  ∀ (σ : St) (H0 R0 H R : Hp), EnvOk X.K σ H0 R0 H R Γ → ∀ Q : Bool → Hp → Prop, (∀ H' R', EnvOk X.K σ H0 R0 H' R' Γ' → Same R R' → Q b H') → semF X es σ H Q
def BG (X : Cx) (tg : Expr) {α : Type} (r : Rep α) (bf : α → Ga → Ga) : Prop :=
  ∀ (σ : St) (H0 R0 H R : Hp) (Γ : Ga) (v : V) (x : α), EnvOk X.K σ H0 R0 H R Γ → r.R X.K R v x → ∀ Q : St → Hp → Prop, (∀ σ', EnvOk X.K σ' H0 R0 H R (bf x Γ) → Q σ' H) → semG X tg v σ H Q
abbrev RT := Hp → V → Hp → Hp → Prop
def WS (X : Cx) (sts : List Stmt) (Γ : Ga) (N : Ga → Prop) (T : RT) : Prop :=
  ∀ (σ : St) (H0 R0 H R : Hp), EnvOk X.K σ H0 R0 H R Γ → ∀ D : Ends, (∀ σ' H' R' Γ', EnvOk X.K σ' H0 R0 H' R' Γ' → Same R R' → N Γ' → D.nx σ' H') → (∀ v H' R', Ext H0 R0 H' R' → T H0 v H' R' → D.rt v H') → semSs X sts D σ H
def W1 (X : Cx) (st : Stmt) (Γ : Ga) (N : Ga → Prop) (T : RT) : Prop :=
  ∀ (σ : St) (H0 R0 H R : Hp), EnvOk X.K σ H0 R0 H R Γ → ∀ D : Ends, (∀ σ' H' R' Γ', EnvOk X.K σ' H0 R0 H' R' Γ' → Same R R' → N Γ' → D.nx σ' H') → (∀ v H' R', Ext H0 R0 H' R' → T H0 v H' R' → D.rt v H') → semS X st D σ H
def rtP (K : PySem.W.Frag) {β : Type} (r : Rep β) (P : β → Prop) : RT := fun _ v _ R' => ∃ y, r.R K R' v y ∧ P y
def rtL (K : PySem.W.Frag) {β : Type} (r : Rep β) (P : List β → Prop) : RT := fun H0 v H' R' => ∃ a vs ys, v = .ref a ∧ H0 a = none ∧ H' a = some (.lst vs) ∧ R' a = none ∧ PySem.Paired (r.R K R') vs ys ∧ ys.length ≤ sizeLine ∧ P ys
theorem EVL.im {e : Expr} {r : Rep α} {ys : List α} (h : EVL X e Γ r ys Γ1) : EV X e Γ (rList r) ys Γ1 := by
  intro σ H0 R0 H R E Q q
  refine h σ H0 R0 H R E Q fun a vs H' R' E' s1 ha hR h0 off p z => ?_
  have s2 : Same R' (upd R' a (.lst vs)) := Same.fresh hR _
  exact q (.ref a) H' (upd R' a (.lst vs)) (E'.still ha hR h0 off) (s1.trans s2) ⟨a, vs, rfl, upd_same, Paired.map (fun _ _ => r.mono s2) p, z⟩
theorem TV.cast {e : Expr} {b b' : Bool} (h : TV X e Γ b Γ1) (e1 : b = b') : TV X e Γ b' Γ1 := e1 ▸ h
theorem ev_name (i : Nat) {x : Str} {pos : Pos} {r : Rep α} {y : α} (hΓ : Γ[i]? = some (.im r y)) (hN : X.N[i]? = some x := by rfl) (hv : Vis X.env.scope x := by first | exact Or.inl rfl | exact Or.inr (Or.inl rfl) | exact Or.inr (Or.inr rfl))
    (hd : (x == ("__debug__" : Str)) = false := by decide) (hcd : (x == ("__classdict__" : Str)) = false := by decide) : EV X (.Name x pos) Γ r y Γ := by
  intro σ H0 R0 H R E Q q
  obtain ⟨v, e, h⟩ := E.ent i _ hΓ
  refine eS (pe_var hN hv hd hcd) ⟨v, ?_, q v H R E (Same.refl _) h⟩
  cases es : σ[i]? with
  | none => rw [es] at e; cases e
  | some o => rw [es] at e; exact congrArg some e
theorem ev_int {i : Int} {j : Nat} {pos : Pos} : EV X (.Constant (.int i) j pos) Γ rInt i Γ := fun _ _ _ _ _ E _ q => eS pe_int (q _ _ _ E (Same.refl _) rfl)
theorem ev_bool {b : Bool} {j : Nat} {pos : Pos} : EV X (.Constant (.bool b) j pos) Γ rBool b Γ := fun _ _ _ _ _ E _ q => eS pe_bl (q _ _ _ E (Same.refl _) rfl)
theorem ev_glob {x : Str} {pos : Pos} {n : Int} {t : Tok} (hm : X.mg x = some (.int n t)) (hg : Gl X x := by rfl) (hd : (x == ("__debug__" : Str)) = false := by decide) : EV X (.Name x pos) Γ rInt n Γ :=
  fun _ _ _ _ _ E _ q => eS (pe_glob (v := .int n) hg hm ⟨t, rfl⟩ hd) (q (.int n) _ _ E (Same.refl _) rfl)
theorem ev_op {op : Operator} {r2 : R2} {a b : Expr} {pos : Pos} {ra : Rep α} {rb : Rep β} {rc : Rep γ} {x : α} {y : β} {z : γ} (ho : OpR X (binaryOp op) r2) (ha : EV X a Γ ra x Γ1) (hb : EV X b Γ1 rb y Γ2)
    (hz : ∀ (R : Hp) v u H Q, ra.R X.K R v x → rb.R X.K R u y → (∀ w, rc.R X.K R w z → Q w H) → r2 v u H Q) : EV X (.BinOp a op b pos) Γ rc z Γ2 := by
  intro σ H0 R0 H R E Q q
  refine eS (pe_op ho peS peS) (ha σ H0 R0 H R E _ fun v H1 R1 E1 s1 e1 => hb σ H0 R0 H1 R1 E1 _ fun u H2 R2 E2 s2 e2 => ?_)
  exact hz R2 v u H2 _ (ra.mono s2 e1) e2 fun w hw => q w H2 R2 E2 (s1.trans s2) hw
section
variable {a b c : Expr} {pos : Pos} {x y z : Int}
theorem ev_add (ha : EV X a Γ rInt x Γ1) (hb : EV X b Γ1 rInt y Γ2) : EV X (.BinOp a .Add b pos) Γ rInt (x + y) Γ2 := ev_op op_add ha hb fun R v u H Q e1 e2 q => ⟨x, y, e1, e2, q _ rfl⟩
theorem ev_sub (ha : EV X a Γ rInt x Γ1) (hb : EV X b Γ1 rInt y Γ2) : EV X (.BinOp a .Sub b pos) Γ rInt (x - y) Γ2 := ev_op op_sub ha hb fun R v u H Q e1 e2 q => ⟨x, y, e1, e2, q _ rfl⟩
theorem ev_mod (ha : EV X a Γ rInt x Γ1) (hb : EV X b Γ1 rInt y Γ2) (h : 0 < y) : EV X (.BinOp a .Mod b pos) Γ rInt (x % y) Γ2 := ev_op op_mod ha hb fun R v u H Q e1 e2 q => ⟨x, y, e1, e2, h, q _ rfl⟩
theorem ev_fdiv (ha : EV X a Γ rInt x Γ1) (hb : EV X b Γ1 rInt y Γ2) (h : CDiv x y) : EV X (.BinOp a .FloorDiv b pos) Γ rInt (x / y) Γ2 := ev_op op_fdiv ha hb fun R v u H Q e1 e2 q => ⟨x, y, e1, e2, h, q _ rfl⟩
theorem ev_pow (ha : EV X a Γ rInt x Γ1) (hb : EV X b Γ1 rInt y Γ2) (h : CPow x y) : EV X (.BinOp a .Pow b pos) Γ rInt (x ^ y.toNat) Γ2 := ev_op op_pow ha hb fun R v u H Q e1 e2 q => ⟨x, y, e1, e2, h, q _ rfl⟩
theorem ev_neg (ha : EV X a Γ rInt x Γ1) : EV X (.UnaryOp .USub a pos) Γ rInt (-x) Γ1 := by
  intro σ H0 R0 H R E Q q
  exact eS (pe_un un_neg peS) (ha σ H0 R0 H R E _ fun v H1 R1 E1 s1 e1 => ⟨x, e1, q _ H1 R1 E1 s1 rfl⟩)
end
structure Cmp (X : Cx) (op : CmpOp) {α β : Type} (ra : Rep α) (rb : Rep β) (x : α) (y : β) (k : Bool) : Prop where
  r2 : ∃ r, OpR X (compareOp op) r ∧ ∀ (R H : Hp) v u Q, Same R H → ra.R X.K R v x → rb.R X.K R u y → Q (.bl k) H → r v u H Q
theorem ev_cmp {op : CmpOp} {a b : Expr} {pos : Pos} {ra : Rep α} {rb : Rep β} {x : α} {y : β} {k : Bool} (c : Cmp X op ra rb x y k) (ha : EV X a Γ ra x Γ1) (hb : EV X b Γ1 rb y Γ2) (hm : behindInMarks op b = false := by first | exact nomark _ | with_unfolding_all rfl) :
    EV X (.Compare a [op] [b] pos) Γ rBool k Γ2 := by
  obtain ⟨r, ho, hr⟩ := c.r2
  intro σ H0 R0 H R E Q q
  refine eS (pe_cmpR ho peS peS hm) (ha σ H0 R0 H R E _ fun v H1 R1 E1 s1 e1 => hb σ H0 R0 H1 R1 E1 _ fun u H2 R2 E2 s2 e2 => ?_)
  exact hr R2 H2 v u _ E2.sub (ra.mono s2 e1) e2 (q _ H2 R2 E2 (s1.trans s2) rfl)
theorem tv_cmp {op : CmpOp} {a b : Expr} {pos : Pos} {ra : Rep α} {rb : Rep β} {x : α} {y : β} {k : Bool} (c : Cmp X op ra rb x y k) (ha : EV X a Γ ra x Γ1) (hb : EV X b Γ1 rb y Γ2) (hm : behindInMarks op b = false := by first | exact nomark _ | with_unfolding_all rfl) :
    TV X (.Compare a [op] [b] pos) Γ k Γ2 := by
  obtain ⟨r, ho, hr⟩ := c.r2
  intro σ H0 R0 H R E Q q
  refine tS (pt_cmpR ho peS peS hm) (ha σ H0 R0 H R E _ fun v H1 R1 E1 s1 e1 => hb σ H0 R0 H1 R1 E1 _ fun u H2 R2 E2 s2 e2 => ?_)
  exact hr R2 H2 v u _ E2.sub (ra.mono s2 e1) e2 ⟨k, rfl, q H2 R2 E2 (s1.trans s2)⟩
section
variable {x y : Int}
theorem c_lt : Cmp X .Lt rInt rInt x y (decide (x < y)) := ⟨_, op_lt, fun R H v u Q _ e1 e2 q => ⟨x, y, e1, e2, q⟩⟩
theorem c_le : Cmp X .LtE rInt rInt x y (decide (x ≤ y)) := ⟨_, op_le, fun R H v u Q _ e1 e2 q => ⟨x, y, e1, e2, q⟩⟩
theorem c_gt : Cmp X .Gt rInt rInt x y (decide (y < x)) := ⟨_, op_gt, fun R H v u Q _ e1 e2 q => ⟨x, y, e1, e2, q⟩⟩
theorem c_ge : Cmp X .GtE rInt rInt x y (decide (y ≤ x)) := ⟨_, op_ge, fun R H v u Q _ e1 e2 q => ⟨x, y, e1, e2, q⟩⟩
theorem c_eq : Cmp X .Eq rInt rInt x y (decide (x = y)) := ⟨_, op_eq, fun R H v u Q _ e1 e2 q => by
  cases e1; cases e2
  exact ⟨rfl, by rw [show decide (V.int x = V.int y) = decide (x = y) by rw [dec_int]; exact Bool.beq_eq_decide_eq x y]; exact q⟩⟩
theorem c_ne : Cmp X .NotEq rInt rInt x y (!decide (x = y)) := ⟨_, op_ne, fun R H v u Q _ e1 e2 q => by
  cases e1; cases e2
  exact ⟨rfl, by rw [show decide (V.int x = V.int y) = decide (x = y) by rw [dec_int]; exact Bool.beq_eq_decide_eq x y]; exact q⟩⟩
end
theorem ints_of {K : PySem.W.Frag} {R : Hp} : ∀ {vs : List V} {xs : List Int}, PySem.Paired (rInt.R K R) vs xs → vs = xs.map V.int
  | _, _, .nil => rfl
  | _, _, .cons h t => by rw [List.map_cons, ← ints_of t]; exact congrArg (· :: _) h
theorem ev_chain {op op' : CmpOp} {a b c : Expr} {pos : Pos} {ra : Rep α} {rb : Rep β} {rc : Rep γ} {x : α} {y : β} {z : γ} {k k' : Bool} (c1 : Cmp X op ra rb x y k) (c2 : Cmp X op' rb rc y z k') (ha : EV X a Γ ra x Γ) (hb : EV X b Γ rb y Γ) (hc : EV X c Γ rc z Γ)
    (hm : lastMarks [op, op'] [b, c] = false := by with_unfolding_all rfl) : EV X (.Compare a [op, op'] [b, c] pos) Γ rBool (k && k') Γ := by
  obtain ⟨r, ho, hr⟩ := c1.r2
  obtain ⟨r', ho', hr'⟩ := c2.r2
  intro σ H0 R0 H R E Q q
  refine eS (pe_chain ho ho' peS peS peS hm) (ha σ H0 R0 H R E _ fun v H1 R1 E1 s1 e1 => hb σ H0 R0 H1 R1 E1 _ fun u H2 R2 E2 s2 e2 => ?_)
  refine hr R2 H2 v u _ E2.sub (ra.mono s2 e1) e2 ⟨k, rfl, ?_⟩
  cases k with
  | false => exact iteF (q _ H2 R2 E2 (s1.trans s2) rfl)
  | true => exact iteT (hc σ H0 R0 H2 R2 E2 _ fun w H3 R3 E3 s3 e3 => hr' R3 H3 u w _ E3.sub (rb.mono s3 e2) e3 (q _ H3 R3 E3 (s1.trans (s2.trans s3)) rfl))
theorem tv_chain {op op' : CmpOp} {a b c : Expr} {pos : Pos} {ra : Rep α} {rb : Rep β} {rc : Rep γ} {x : α} {y : β} {z : γ} {k k' : Bool} (c1 : Cmp X op ra rb x y k) (c2 : Cmp X op' rb rc y z k') (ha : EV X a Γ ra x Γ) (hb : EV X b Γ rb y Γ) (hc : EV X c Γ rc z Γ)
    (hm : lastMarks [op, op'] [b, c] = false := by with_unfolding_all rfl) : TV X (.Compare a [op, op'] [b, c] pos) Γ (k && k') Γ := by
  obtain ⟨r, ho, hr⟩ := c1.r2
  obtain ⟨r', ho', hr'⟩ := c2.r2
  intro σ H0 R0 H R E Q q
  refine tS (pt_chain ho ho' peS peS peS hm) (ha σ H0 R0 H R E _ fun v H1 R1 E1 s1 e1 => hb σ H0 R0 H1 R1 E1 _ fun u H2 R2 E2 s2 e2 => ?_)
  refine hr R2 H2 v u _ E2.sub (ra.mono s2 e1) e2 ⟨k, rfl, ?_⟩
  cases k with
  | false => exact iteF ⟨false, rfl, q H2 R2 E2 (s1.trans s2)⟩
  | true => exact iteT (hc σ H0 R0 H2 R2 E2 _ fun w H3 R3 E3 s3 e3 => hr' R3 H3 u w _ E3.sub (rb.mono s3 e2) e3 ⟨k', rfl, q H3 R3 E3 (s1.trans (s2.trans s3))⟩)
theorem ev_one {op : BoolOp} {a : Expr} {pos : Pos} {r : Rep α} {x : α} (h : EV X a Γ r x Γ1) : EV X (.BoolOp op [a] pos) Γ r x Γ1 := fun σ H0 R0 H R E Q q => eS (pe_one peS) (h σ H0 R0 H R E Q q)
theorem ev_and {a b : Expr} {rest : List Expr} {pos : Pos} {x y : Bool} (ha : EV X a Γ rBool x Γ) (hb : x = true → EV X (.BoolOp .And (b :: rest) pos) Γ rBool y Γ) : EV X (.BoolOp .And (a :: b :: rest) pos) Γ rBool (x && y) Γ := by
  intro σ H0 R0 H R E Q q
  refine eS (pe_and peS peS) (ha σ H0 R0 H R E _ fun v H1 R1 E1 s1 e1 => ⟨x, e1, ?_⟩)
  cases x with
  | false => exact iteF (q _ H1 R1 E1 s1 rfl)
  | true => exact iteT (hb rfl σ H0 R0 H1 R1 E1 _ fun w H3 R3 E3 s3 e3 => q w H3 R3 E3 (s1.trans s3) e3)
theorem ev_or {a b : Expr} {rest : List Expr} {pos : Pos} {x y : Bool} (ha : EV X a Γ rBool x Γ) (hb : x = false → EV X (.BoolOp .Or (b :: rest) pos) Γ rBool y Γ) : EV X (.BoolOp .Or (a :: b :: rest) pos) Γ rBool (x || y) Γ := by
  intro σ H0 R0 H R E Q q
  refine eS (pe_or peS peS) (ha σ H0 R0 H R E _ fun v H1 R1 E1 s1 e1 => ⟨x, e1, ?_⟩)
  cases x with
  | true => exact iteT (q _ H1 R1 E1 s1 rfl)
  | false => exact iteF (hb rfl σ H0 R0 H1 R1 E1 _ fun w H3 R3 E3 s3 e3 => q w H3 R3 E3 (s1.trans s3) e3)
theorem ev_not {a : Expr} {pos : Pos} {x : Bool} (ha : EV X a Γ rBool x Γ1) : EV X (.UnaryOp .Not a pos) Γ rBool (!x) Γ1 := by
  intro σ H0 R0 H R E Q q
  exact eS (pe_not peS) (ha σ H0 R0 H R E _ fun v H1 R1 E1 s1 e1 => ⟨x, e1, q _ H1 R1 E1 s1 rfl⟩)
theorem tv_not {a : Expr} {pos : Pos} {x : Bool} (ha : TV X a Γ x Γ1) : TV X (.UnaryOp .Not a pos) Γ (!x) Γ1 := by
  intro σ H0 R0 H R E Q q
  exact tS (pt_not ptS) (ha σ H0 R0 H R E _ fun H1 R1 E1 s1 => q H1 R1 E1 s1)
theorem TW.tv {e : Expr} {b : Bool} (h : TW X e Γ b Γ1) : TV X e Γ b Γ1 := fun σ H0 R0 H R E Q q => tS (pwS.pt) (h σ H0 R0 H R E Q q)
theorem tw_and1 {a : Expr} {pos : Pos} {x : Bool} (ha : TV X a Γ x Γ1) : TW X (.BoolOp .And [a] pos) Γ x Γ1 := fun σ H0 R0 H R E Q q => wS (pw_and1 ptS) (ha σ H0 R0 H R E Q q)
theorem tw_or1 {a : Expr} {pos : Pos} {x : Bool} (ha : TV X a Γ x Γ1) : TW X (.BoolOp .Or [a] pos) Γ x Γ1 := fun σ H0 R0 H R E Q q => wS (pw_or1 ptS) (ha σ H0 R0 H R E Q q)
theorem tw_and {a b : Expr} {rest : List Expr} {pos : Pos} {x y : Bool} (ha : TV X a Γ x Γ) (hb : x = true → TW X (.BoolOp .And (b :: rest) pos) Γ y Γ) : TW X (.BoolOp .And (a :: b :: rest) pos) Γ (x && y) Γ := by
  intro σ H0 R0 H R E Q q
  refine wS (pw_and ptS pwS) (ha σ H0 R0 H R E _ fun H1 R1 E1 s1 => ?_)
  cases x with
  | false => exact iteF (q H1 R1 E1 s1)
  | true => exact iteT (hb rfl σ H0 R0 H1 R1 E1 _ fun H3 R3 E3 s3 => q H3 R3 E3 (s1.trans s3))
theorem tw_or {a b : Expr} {rest : List Expr} {pos : Pos} {x y : Bool} (ha : TV X a Γ x Γ) (hb : x = false → TW X (.BoolOp .Or (b :: rest) pos) Γ y Γ) : TW X (.BoolOp .Or (a :: b :: rest) pos) Γ (x || y) Γ := by
  intro σ H0 R0 H R E Q q
  refine wS (pw_or ptS pwS) (ha σ H0 R0 H R E _ fun H1 R1 E1 s1 => ?_)
  cases x with
  | true => exact iteT (q H1 R1 E1 s1)
  | false => exact iteF (hb rfl σ H0 R0 H1 R1 E1 _ fun H3 R3 E3 s3 => q H3 R3 E3 (s1.trans s3))
theorem tv_bool {a : Expr} {k : Bool} (ha : EV X a Γ rBool k Γ1) (he : ∀ whole, isTrue a X.env whole = (do let v ← whole; standAt a.pos; holding [v] (truthy v)) := by intro _; rfl) : TV X a Γ k Γ1 := by
  intro σ H0 R0 H R E Q q
  exact tS (pt_val peS he) (ha σ H0 R0 H R E _ fun v H1 R1 E1 s1 e1 => ⟨k, e1, q H1 R1 E1 s1⟩)
theorem tf_nil : TF X [] Γ true Γ := fun σ H0 R0 H R E Q q => fS pf_nil (q H R E (Same.refl _))
theorem tf_one {c : Expr} {b : Bool} (h : TV X c Γ b Γ1) : TF X [c] Γ b Γ1 := fun σ H0 R0 H R E Q q => fS (pf_one ptS) (h σ H0 R0 H R E Q q)
end
end Fc

set_option Elab.async false
set_option linter.all false
set_option maxRecDepth 100000
set_option maxHeartbeats 4000000
namespace Fc
open PySem PySem.Spec L2
open PyProof.Rows hiding St
section
variable {X : Cx} {Γ Γ1 Γ2 Γ3 : Ga} {α β γ δ : Type}
structure Pk : Type 1 where
  {α : Type}
  r : Rep α
  x : α
inductive Pks (K : PySem.W.Frag) (R : Hp) : List V → List Pk → Prop
  | nil : Pks K R [] []
  | cons {v : V} {vs : List V} {p : Pk} {ps : List Pk} : p.r.R K R v p.x → Pks K R vs ps → Pks K R (v :: vs) (p :: ps)
def HA (X : Cx) (es : List Expr) (Γ : Ga) (ps : List Pk) (Γ' : Ga) : Prop :=
  ∀ (σ : St) (H0 R0 H R : Hp), EnvOk X.K σ H0 R0 H R Γ → ∀ Q : List V → Hp → Prop, (∀ vs H' R', EnvOk X.K σ H0 R0 H' R' Γ' → Same R R' → Pks X.K R' vs ps → Q vs H') → semA X es σ H Q
theorem ha_nil : HA X [] Γ [] Γ := fun σ H0 R0 H R E Q q => aS pa_nil (q [] H R E (Same.refl _) .nil)
theorem ha_cons {e : Expr} {es : List Expr} {r : Rep α} {x : α} {ps : List Pk} (he : EV X e Γ r x Γ1) (hr : HA X es Γ1 ps Γ2) (hs : starEach (e :: es) X.env = (false, eval e X.env) :: starEach es X.env := by rfl) : HA X (e :: es) Γ (⟨r, x⟩ :: ps) Γ2 := by
  intro σ H0 R0 H R E Q q
  refine aS (pa_cons peS paS hs) (he σ H0 R0 H R E _ fun v H1 R1 E1 s1 e1 => hr σ H0 R0 H1 R1 E1 _ fun vs H2 R2 E2 s2 e2 => ?_)
  exact q (v :: vs) H2 R2 E2 (s1.trans s2) (.cons (r.mono s2 e1) e2)
def EA (X : Cx) (es : List Expr) (Γ : Ga) {α : Type} (r : Rep α) (ys : List α) (Γ' : Ga) : Prop :=
  ∀ (σ : St) (H0 R0 H R : Hp), EnvOk X.K σ H0 R0 H R Γ → ∀ Q : List V → Hp → Prop, (∀ vs H' R', EnvOk X.K σ H0 R0 H' R' Γ' → Same R R' → PySem.Paired (r.R X.K R') vs ys → Q vs H') → semA X es σ H Q
theorem ea_nil {r : Rep α} : EA X [] Γ r [] Γ := fun σ H0 R0 H R E Q q => aS pa_nil (q [] H R E (Same.refl _) .nil)
theorem ea_cons {e : Expr} {es : List Expr} {r : Rep α} {x : α} {ys : List α} (he : EV X e Γ r x Γ1) (hr : EA X es Γ1 r ys Γ2) (hs : starEach (e :: es) X.env = (false, eval e X.env) :: starEach es X.env := by rfl) : EA X (e :: es) Γ r (x :: ys) Γ2 := by
  intro σ H0 R0 H R E Q q
  refine aS (pa_cons peS paS hs) (he σ H0 R0 H R E _ fun v H1 R1 E1 s1 e1 => hr σ H0 R0 H1 R1 E1 _ fun vs H2 R2 E2 s2 e2 => ?_)
  exact q (v :: vs) H2 R2 E2 (s1.trans s2) (.cons (r.mono s2 e1) e2)
theorem evl_lst {es : List Expr} {pos : Pos} {r : Rep α} {ys : List α} (h : EA X es Γ r ys Γ1) (hz : ys.length ≤ sizeLine) : EVL X (.List es pos) Γ r ys Γ1 := by
  intro σ H0 R0 H R E Q q
  refine eS (pe_lst paS) (h σ H0 R0 H R E _ fun vs H1 R1 E1 s1 p1 => ⟨by rw [p1.length]; exact hz, fun p hp => ?_⟩)
  exact q p vs _ R1 (E1.grow (Ext.freshM E1.sub hp _)) s1 upd_same (E1.sub.free hp) (E1.ext.h.free hp) (E1.off hp) p1 hz
theorem ev_pair {a b : Expr} {k : Nat} {pos : Pos} {r : Rep α} {r' : Rep β} {x : α} {y : β} (h : HA X [a, b] Γ [⟨r, x⟩, ⟨r', y⟩] Γ1) : EV X (.Tuple [a, b] k pos) Γ (rPair r r') (x, y) Γ1 := by
  intro σ H0 R0 H R E Q q
  refine eS (pe_tup paS) (h σ H0 R0 H R E _ fun vs H1 R1 E1 s1 p1 => ?_)
  obtain ⟨h1, h2⟩ : ∃ v1 v2, vs = [v1, v2] ∧ r.R X.K R1 v1 x ∧ r'.R X.K R1 v2 y := by
    cases p1 with
    | cons a1 t => cases t with
      | cons a2 t2 => cases t2; exact ⟨_, _, rfl, a1, a2⟩
  obtain ⟨v2, rfl, e1, e2⟩ := h2
  refine ⟨by show 2 ≤ sizeLine; decide, fun p hp => ?_⟩
  have s2 : Same R1 (upd R1 p (.tup [h1, v2])) := Same.fresh (E1.sub.free hp) _
  exact q _ _ (upd R1 p (.tup [h1, v2])) (E1.grow (Ext.fresh E1.sub hp _)) (s1.trans s2) ⟨p, _, _, rfl, upd_same, r.mono s2 e1, r'.mono s2 e2⟩
theorem ev_row {a b c d : Expr} {k : Nat} {pos : Pos} {x y z w : Int} (h : HA X [a, b, c, d] Γ [⟨rInt, x⟩, ⟨rInt, y⟩, ⟨rInt, z⟩, ⟨rInt, w⟩] Γ1) : EV X (.Tuple [a, b, c, d] k pos) Γ rRow (x, y, z, w) Γ1 := by
  intro σ H0 R0 H R E Q q
  refine eS (pe_tup paS) (h σ H0 R0 H R E _ fun vs H1 R1 E1 s1 p1 => ?_)
  have e : vs = [.int x, .int y, .int z, .int w] := by
    cases p1 with
    | cons a1 t => cases t with
      | cons a2 t => cases t with
        | cons a3 t => cases t with
          | cons a4 t => cases t; cases a1; cases a2; cases a3; cases a4; rfl
  subst e
  refine ⟨by show 4 ≤ sizeLine; decide, fun p hp => ?_⟩
  exact q _ _ (upd R1 p _) (E1.grow (Ext.fresh E1.sub hp _)) (s1.trans (Same.fresh (E1.sub.free hp) _)) ⟨p, rfl, upd_same⟩
theorem paired_at {F : α → β → Prop} : ∀ {vs : List α} {xs : List β}, PySem.Paired F vs xs → ∀ {i : Nat} {y : β}, xs[i]? = some y → ∃ v, vs[i]? = some v ∧ F v y
  | _, _, .nil, i, y, h => by simp at h
  | _, _, .cons h t, 0, y, e => by simp at e; subst e; exact ⟨_, rfl, h⟩
  | _, _, .cons h t, i + 1, y, e => by
    obtain ⟨v, e1, e2⟩ := paired_at t (i := i) (y := y) (by simpa using e)
    exact ⟨v, by simpa using e1, e2⟩
theorem paired_atI {F : α → β → Prop} {vs : List α} {xs : List β} (p : PySem.Paired F vs xs) {i : Int} {y : β} (h : atI xs i = some y) : ∃ v, atI vs i = some v ∧ F v y := by
  unfold atI at h ⊢
  rw [p.length]
  cases e : ixN xs.length i with
  | none => rw [e] at h; cases h
  | some j => rw [e] at h; exact paired_at p h
theorem atI_of {xs : List α} {i : Int} (h0 : 0 ≤ i) (h1 : i < xs.length) : atI xs i = xs[i.toNat]? := by
  have e : i = ((i.toNat : Nat) : Int) := by omega
  have hl : i.toNat < xs.length := by omega
  have q : atI xs ((i.toNat : Nat) : Int) = some xs[i.toNat] := atI_nat (List.getElem?_eq_getElem hl)
  rw [← e] at q
  rw [q, List.getElem?_eq_getElem hl]
theorem ev_ixL {a b : Expr} {pos : Pos} {r : Rep α} {xs : List α} {i : Int} {y : α} (ha : EV X a Γ (rList r) xs Γ1) (hb : EV X b Γ1 rInt i Γ2) (h : atI xs i = some y) (hs : PlainIx b := by exact fun _ _ => rfl) : EV X (.Subscript a b pos) Γ r y Γ2 := by
  intro σ H0 R0 H R E Q q
  refine eS (pe_ix ix_list peS peS hs) (ha σ H0 R0 H R E _ fun v H1 R1 E1 s1 e1 => hb σ H0 R0 H1 R1 E1 _ fun u H2 R2 E2 s2 e2 => ?_)
  obtain ⟨p, vs, rfl, ha, pp, z⟩ := (rList r).mono s2 e1
  obtain ⟨w, e3, e4⟩ := paired_atI pp h
  exact ⟨p, vs, i, w, rfl, e2, SqL.of (E2.sub _ _ ha), e3, q w H2 R2 E2 (s1.trans s2) e4⟩
theorem ev_ixS {a b : Expr} {pos : Pos} {xs : List Int} {i y : Int} (ha : EV X a Γ rScr xs Γ1) (hb : EV X b Γ1 rInt i Γ2) (h : atI xs i = some y) (hs : PlainIx b := by exact fun _ _ => rfl) : EV X (.Subscript a b pos) Γ rInt y Γ2 := by
  intro σ H0 R0 H R E Q q
  refine eS (pe_ix ix_list peS peS hs) (ha σ H0 R0 H R E _ fun v H1 R1 E1 s1 e1 => hb σ H0 R0 H1 R1 E1 _ fun u H2 R2 E2 s2 e2 => ?_)
  obtain ⟨p, rfl, ha, z⟩ := rScr.mono s2 e1
  have e3 : atI (xs.map V.int) i = some (.int y) := by
    unfold atI at h ⊢
    rw [List.length_map]
    cases e : ixN xs.length i with
    | none => rw [e] at h; cases h
    | some j =>
      rw [e] at h
      show (xs.map V.int)[j]? = _
      rw [List.getElem?_map, show xs[j]? = some y from h]; rfl
  exact ⟨p, _, i, _, rfl, e2, E2.sub.seq ha, e3, q _ H2 R2 E2 (s1.trans s2) rfl⟩
theorem ev_ixM (j : Nat) {x : Str} {p1 : Pos} {b : Expr} {pos : Pos} {r : Rep α} {xs : List α} {i : Int} {y : α} (hb : EV X b Γ rInt i Γ1) (hΓ : Γ[j]? = some (.mu r xs)) (hΓ1 : Γ1[j]? = some (.mu r xs)) (h : atI xs i = some y) (hN : X.N[j]? = some x := by rfl) (hv : Vis X.env.scope x := by first | exact Or.inl rfl | exact Or.inr (Or.inl rfl) | exact Or.inr (Or.inr rfl))
    (hs : PlainIx b := by exact fun _ _ => rfl) (hd : (x == ("__debug__" : Str)) = false := by decide) (hcd : (x == ("__classdict__" : Str)) = false := by decide) : EV X (.Subscript (.Name x p1) b pos) Γ r y Γ1 := by
  intro σ H0 R0 H R E Q q
  obtain ⟨a, vs, e, _, _, _⟩ := E.ent j _ hΓ
  refine eS (pe_ix ix_list (pe_var hN hv hd hcd) peS hs) ⟨.ref a, ?_, hb σ H0 R0 H R E _ fun u H2 R2 E2 s2 e2 => ?_⟩
  · cases es : σ[j]? with
    | none => rw [es] at e; cases e
    | some o => rw [es] at e; exact congrArg some e
  · obtain ⟨a', vs', e', ha, hR, pp⟩ := E2.ent j _ hΓ1
    rw [e] at e'; cases e'
    obtain ⟨w, e3, e4⟩ := paired_atI pp h
    exact ⟨a, vs', i, w, rfl, e2, SqL.of ha, e3, q w H2 R2 E2 s2 e4⟩
section
variable {a : Expr} {n : Int} {j : Nat} {p1 pos : Pos} {w : Row}
theorem ev_ixT {r : Rep α} {x : α} {y : β} {r' : Rep β} (ha : EV X a Γ r x Γ1) (k : ∀ (R : Hp) v, r.R X.K R v x → ∃ p vs w, v = .ref p ∧ R p = some (.tup vs) ∧ atI vs n = some w ∧ r'.R X.K R w y) : EV X (.Subscript a (.Constant (.int n) j p1) pos) Γ r' y Γ1 := by
  intro σ H0 R0 H R E Q q
  refine eS (pe_ix ix_tup peS pe_int (fun _ _ => rfl)) (ha σ H0 R0 H R E _ fun v H1 R1 E1 s1 e1 => ?_)
  obtain ⟨p, vs, w, rfl, hp, e3, e4⟩ := k R1 v e1
  exact ⟨p, vs, n, w, rfl, rfl, SqT.of (E1.sub _ _ hp), e3, q w H1 R1 E1 s1 e4⟩
theorem ev_row0 (ha : EV X a Γ rRow w Γ1) : EV X (.Subscript a (.Constant (.int 0) j p1) pos) Γ rInt w.1 Γ1 := ev_ixT ha fun R v ⟨p, e, h⟩ => ⟨p, _, _, e, h, rfl, rfl⟩
theorem ev_row1 (ha : EV X a Γ rRow w Γ1) : EV X (.Subscript a (.Constant (.int 1) j p1) pos) Γ rInt w.2.1 Γ1 := ev_ixT ha fun R v ⟨p, e, h⟩ => ⟨p, _, _, e, h, rfl, rfl⟩
theorem ev_row2 (ha : EV X a Γ rRow w Γ1) : EV X (.Subscript a (.Constant (.int 2) j p1) pos) Γ rInt w.2.2.1 Γ1 := ev_ixT ha fun R v ⟨p, e, h⟩ => ⟨p, _, _, e, h, rfl, rfl⟩
theorem ev_row3 (ha : EV X a Γ rRow w Γ1) : EV X (.Subscript a (.Constant (.int 3) j p1) pos) Γ rInt w.2.2.2 Γ1 := ev_ixT ha fun R v ⟨p, e, h⟩ => ⟨p, _, _, e, h, rfl, rfl⟩
theorem ev_fst {r : Rep α} {r' : Rep β} {x : α × β} (ha : EV X a Γ (rPair r r') x Γ1) : EV X (.Subscript a (.Constant (.int 0) j p1) pos) Γ r x.1 Γ1 := ev_ixT ha fun R v ⟨p, v1, v2, e, h, h1, h2⟩ => ⟨p, _, v1, e, h, rfl, h1⟩
theorem ev_snd {r : Rep α} {r' : Rep β} {x : α × β} (ha : EV X a Γ (rPair r r') x Γ1) : EV X (.Subscript a (.Constant (.int 1) j p1) pos) Γ r' x.2 Γ1 := ev_ixT ha fun R v ⟨p, v1, v2, e, h, h1, h2⟩ => ⟨p, _, v2, e, h, rfl, h2⟩
end
def OV (X : Cx) (e : Option Expr) (Γ : Ga) (o : Option Int) : Prop := ∃ t, PO X e t ∧ ∀ (σ : St) (H0 R0 H R : Hp), EnvOk X.K σ H0 R0 H R Γ → ∀ Q : Option Int → Hp → Prop, (∀ H' R', EnvOk X.K σ H0 R0 H' R' Γ → Same R R' → Q o H') → t σ H Q
theorem ov_none : OV X none Γ none := ⟨_, po_none, fun σ H0 R0 H R E Q q => q H R E (Same.refl _)⟩
theorem ov_some {e : Expr} {i : Int} (h : EV X e Γ rInt i Γ) : OV X (some e) Γ (some i) := ⟨_, po_some peS, fun σ H0 R0 H R E Q q => h σ H0 R0 H R E _ fun v H1 R1 E1 s1 e1 => ⟨i, e1, q H1 R1 E1 s1⟩⟩
def cut (xs : List α) (lo hi : Option Int) : List α := (xs.drop (HT.sIx xs.length 0 lo)).take (HT.sIx xs.length xs.length hi - HT.sIx xs.length 0 lo)
theorem paired_drop {F : α → β → Prop} : ∀ (n : Nat) {vs : List α} {xs : List β}, PySem.Paired F vs xs → PySem.Paired F (vs.drop n) (xs.drop n)
  | 0, _, _, h => h
  | _ + 1, _, _, .nil => .nil
  | n + 1, _, _, .cons _ t => paired_drop n t
theorem paired_take {F : α → β → Prop} : ∀ (n : Nat) {vs : List α} {xs : List β}, PySem.Paired F vs xs → PySem.Paired F (vs.take n) (xs.take n)
  | 0, _, _, _ => .nil
  | _ + 1, _, _, .nil => .nil
  | n + 1, _, _, .cons h t => .cons h (paired_take n t)
theorem paired_append {F : α → β → Prop} : ∀ {vs : List α} {xs : List β} {vs' : List α} {xs' : List β}, PySem.Paired F vs xs → PySem.Paired F vs' xs' → PySem.Paired F (vs ++ vs') (xs ++ xs')
  | _, _, _, _, .nil, h => h
  | _, _, _, _, .cons h t, h' => .cons h (paired_append t h')
theorem cut_length (xs : List α) (lo hi : Option Int) : (cut xs lo hi).length ≤ xs.length := by
  unfold cut
  rw [List.length_take, List.length_drop]
  omega
theorem evl_slice {a : Expr} {lo hi : Option Expr} {p2 pos : Pos} {r : Rep α} {xs : List α} {l h : Option Int} (ha : EV X a Γ (rList r) xs Γ) (hl : OV X lo Γ l) (hh : OV X hi Γ h) : EVL X (.Subscript a (.Slice lo hi none p2) pos) Γ r (cut xs l h) Γ := by
  intro σ H0 R0 H R E Q q
  obtain ⟨tl, pl, kl⟩ := hl
  obtain ⟨th, ph, kh⟩ := hh
  refine eS (pe_slice sl_list peS pl ph) (ha σ H0 R0 H R E _ fun v H1 R1 E1 s1 e1 => kl σ H0 R0 H1 R1 E1 _ fun H2 R2 E2 s2 => kh σ H0 R0 H2 R2 E2 _ fun H3 R3 E3 s3 => ?_)
  obtain ⟨p, vs, rfl, hp, pp, z⟩ := (rList r).mono (s2.trans s3) e1
  refine ⟨p, vs, rfl, SqL.of (E3.sub _ _ hp), fun d hd => ?_⟩
  refine q d _ _ R3 (E3.grow (Ext.freshM E3.sub hd _)) (s1.trans (s2.trans s3)) upd_same (E3.sub.free hd) (E3.ext.h.free hd) (E3.off hd) ?_ (Nat.le_trans (cut_length _ _ _) z)
  unfold cut cutV
  rw [pp.length]
  exact paired_take _ (paired_drop _ pp)
theorem evl_cat {a b : Expr} {pos : Pos} {r : Rep α} {xs ys : List α} (ha : EV X a Γ (rList r) xs Γ1) (hb : EV X b Γ1 (rList r) ys Γ2) (hz : xs.length + ys.length ≤ sizeLine) : EVL X (.BinOp a .Add b pos) Γ r (xs ++ ys) Γ2 := by
  intro σ H0 R0 H R E Q q
  refine eS (pe_op op_cat peS peS) (ha σ H0 R0 H R E _ fun v H1 R1 E1 s1 e1 => hb σ H0 R0 H1 R1 E1 _ fun u H2 R2 E2 s2 e2 => ?_)
  obtain ⟨p, vs, rfl, hp, pp, z⟩ := (rList r).mono s2 e1
  obtain ⟨p', ws, rfl, hp', pp', z'⟩ := e2
  refine ⟨p, p', vs, ws, rfl, rfl, E2.sub _ _ hp, E2.sub _ _ hp', by rw [pp.length, pp'.length]; exact hz, fun d hd => ?_⟩
  exact q d _ _ R2 (E2.grow (Ext.freshM E2.sub hd _)) (s1.trans s2) upd_same (E2.sub.free hd) (E2.ext.h.free hd) (E2.off hd) (paired_append pp pp') (by rw [List.length_append]; exact hz)
theorem ev_len {a : Expr} {p pos : Pos} {r : Rep α} {xs : List α} (hm : X.mg "len" = none) (ha : EV X a Γ (rList r) xs Γ1) (hs : starEach [a] X.env = [(false, eval a X.env)] := by rfl) (hg : Gl X "len" := by rfl) : EV X (.Call (.Name "len" p) [a] [] pos) Γ rInt (xs.length : Int) Γ1 := by
  intro σ H0 R0 H R E Q q
  refine eS (pe_callB call_len_seq hg hm PySem.boot_len (pa_cons peS pa_nil hs) (by decide) (by decide) hs) (ha σ H0 R0 H R E _ fun v H1 R1 E1 s1 e1 => ?_)
  obtain ⟨p, vs, rfl, hp, pp, z⟩ := e1
  refine ⟨p, vs, rfl, .inl (SqL.of (E1.sub _ _ hp)), ?_⟩
  rw [pp.length]
  exact q _ H1 R1 E1 s1 rfl
theorem ev_lenS {a : Expr} {p pos : Pos} {xs : List Int} (hm : X.mg "len" = none) (ha : EV X a Γ rScr xs Γ1) (hs : starEach [a] X.env = [(false, eval a X.env)] := by rfl) (hg : Gl X "len" := by rfl) : EV X (.Call (.Name "len" p) [a] [] pos) Γ rInt (xs.length : Int) Γ1 := by
  intro σ H0 R0 H R E Q q
  refine eS (pe_callB call_len_seq hg hm PySem.boot_len (pa_cons peS pa_nil hs) (by decide) (by decide) hs) (ha σ H0 R0 H R E _ fun v H1 R1 E1 s1 e1 => ?_)
  obtain ⟨p, rfl, hp, z⟩ := e1
  refine ⟨p, _, rfl, .inl (E1.sub.seq hp), ?_⟩
  rw [List.length_map]
  exact q _ H1 R1 E1 s1 rfl
end
end Fc

set_option Elab.async false
set_option linter.all false
set_option maxRecDepth 100000
set_option maxHeartbeats 4000000
namespace Fc
open PySem PySem.Spec L2
open PyProof.Rows hiding St
section
variable {X : Cx} {Γ Γ1 Γ2 Γ3 : Ga} {α β γ δ : Type} {N : Ga → Prop} {T : RT}
theorem ws_nil {Γ' : Ga} (w : Wk Γ Γ') (h : N Γ') : WS X [] Γ N T := fun σ H0 R0 H R E D dn dr => ssS pss_nil (dn σ H R Γ' (E.weak w) (Same.refl _) h)
theorem ws_end (h : N Γ) : WS X [] Γ N T := ws_nil (Wk.refl Γ) h
theorem ws_seq {st : Stmt} {rest : List Stmt} (h : W1 X st Γ (fun Γ' => WS X rest Γ' N T) T) : WS X (st :: rest) Γ N T := fun σ H0 R0 H R E D dn dr =>
  ssS (pss_cons psS pssS) (h σ H0 R0 H R E { D with nx := semSs X rest D } (fun σ' H' R' Γ' E' s' h' => h' σ' H0 R0 H' R' E' D (fun σ2 H2 R2 Γ2 E2 s2 => dn σ2 H2 R2 Γ2 E2 (s'.trans s2)) dr) dr)
theorem ws_one {st : Stmt} (h : W1 X st Γ N T) : WS X [st] Γ N T := fun σ H0 R0 H R E D dn dr => ssS (pss_one psS) (h σ H0 R0 H R E D dn dr)
theorem w_set (i : Nat) {x : Str} {p1 pos : Pos} {e : Expr} {r : Rep α} {y : α} (he : EV X e Γ r y Γ1) (h : N (Γ1.set i (.im r y))) (hN : X.N.Nodup := by first | assumption | decide) (hi : X.N[i]? = some x := by rfl) (hx : Loc X.env.scope x := by first | exact Or.inl rfl | exact Or.inr rfl)
    (hs : swapsWith e (some (.Name x p1)) pos.line X.env = pure false := by rfl) (hf : X.fn x = true ∨ X.env.scope.names.lookup x = some .local := by first | exact .inl rfl | exact .inr rfl) : W1 X (.Assign [.Name x p1] e pos) Γ N T := fun σ H0 R0 H R E D dn dr =>
  sS (ps_set hN hi hx peS hs hf) (he σ H0 R0 H R E _ fun v H1 R1 E1 s1 e1 => dn _ H1 R1 _ (E1.set i e1) s1 h)
theorem w_setL (i : Nat) {x : Str} {p1 pos : Pos} {e : Expr} {r : Rep α} {ys : List α} (he : EVL X e Γ r ys Γ1) (h : N (Γ1.set i (.mu r ys))) (hN : X.N.Nodup := by first | assumption | decide) (hi : X.N[i]? = some x := by rfl) (hx : Loc X.env.scope x := by first | exact Or.inl rfl | exact Or.inr rfl)
    (hs : swapsWith e (some (.Name x p1)) pos.line X.env = pure false := by rfl) (hf : X.fn x = true ∨ X.env.scope.names.lookup x = some .local := by first | exact .inl rfl | exact .inr rfl) : W1 X (.Assign [.Name x p1] e pos) Γ N T := fun σ H0 R0 H R E D dn dr =>
  sS (ps_set hN hi hx peS hs hf) (he σ H0 R0 H R E _ fun a vs H1 R1 E1 s1 ha hR h0 off p z => dn _ H1 R1 _ (E1.setO (u := .lst vs) (en := .mu r ys) i ⟨a, vs, rfl, ha, hR, p⟩ h0 fun j e _ q w => off j e q w) s1 h)
theorem w_asg {tg : Expr} {pos : Pos} {e : Expr} {r : Rep α} {y : α} {bf : α → Ga → Ga} (he : EV X e Γ r y Γ1) (hb : BG X tg r bf) (h : N (bf y Γ1))
    (hs : swapsWithSole [tg] e pos.line X.env = pure false := by rfl) (hw : swappedStores [tg] e X.env = pure none := by rfl) (h1 : (assignEach [tg] X.env).map (·.2) = [assign tg X.env] := by rfl) : W1 X (.Assign [tg] e pos) Γ N T := fun σ H0 R0 H R E D dn dr =>
  sS (ps_asg peS pgS hs hw h1) (he σ H0 R0 H R E _ fun v H1 R1 E1 s1 e1 => hb σ H0 R0 H1 R1 Γ1 v y E1 e1 _ fun σ' E' => dn σ' H1 R1 _ E' s1 h)
theorem w_ret {e : Expr} {pos : Pos} {r : Rep α} {P : α → Prop} {y : α} (he : EV X e Γ r y Γ1) (h : P y) : W1 X (.Return (some e) pos) Γ N (rtP X.K r P) := fun σ H0 R0 H R E D dn dr =>
  sS (ps_ret peS) (he σ H0 R0 H R E _ fun v H1 R1 E1 s1 e1 => dr v H1 R1 E1.ext ⟨y, e1, h⟩)
theorem w_retL {e : Expr} {pos : Pos} {r : Rep α} {P : List α → Prop} {ys : List α} (he : EVL X e Γ r ys Γ1) (h : P ys) : W1 X (.Return (some e) pos) Γ N (rtL X.K r P) := fun σ H0 R0 H R E D dn dr =>
  sS (ps_ret peS) (he σ H0 R0 H R E _ fun a vs H1 R1 E1 s1 ha hR h0 off p z => dr _ H1 R1 E1.ext ⟨a, vs, ys, rfl, h0, ha, hR, p, z, h⟩)
theorem w_if {c : Expr} {a b : List Stmt} {pos : Pos} {k : Bool} (hc : TV X c Γ k Γ1) (h1 : k = true → WS X a Γ1 N T) (h2 : k = false → WS X b Γ1 N T) : W1 X (.If c a b pos) Γ N T := fun σ H0 R0 H R E D dn dr => by
  refine sS (ps_if ptS pssS pssS) (hc σ H0 R0 H R E _ fun H1 R1 E1 s1 => ?_)
  cases k with
  | true => exact iteT (h1 rfl σ H0 R0 H1 R1 E1 D (fun σ2 H2 R2 Γ2 E2 s2 => dn σ2 H2 R2 Γ2 E2 (s1.trans s2)) dr)
  | false => exact iteF (h2 rfl σ H0 R0 H1 R1 E1 D (fun σ2 H2 R2 Γ2 E2 s2 => dn σ2 H2 R2 Γ2 E2 (s1.trans s2)) dr)
theorem bg_name (i : Nat) {x : Str} {pos : Pos} {r : Rep α} (hN : X.N.Nodup := by first | assumption | decide) (hi : X.N[i]? = some x := by rfl) (hx : Loc X.env.scope x := by first | exact Or.inl rfl | exact Or.inr rfl) (hf : X.fn x = true ∨ X.env.scope.names.lookup x = some .local := by first | exact .inl rfl | exact .inr rfl) :
    BG X (.Name x pos) r (fun y Γ => Γ.set i (.im r y)) := fun σ H0 R0 H R Γ v x E h Q q => gS (pg_name hN hi hx hf) (q _ (E.set i h))
theorem bg_pair (i j : Nat) {x y : Str} {k : Nat} {p1 p2 pos : Pos} {r : Rep α} {r' : Rep β} (hc : X.calm = true := by rfl) (hN : X.N.Nodup := by first | assumption | decide) (hi : X.N[i]? = some x := by rfl) (hx : Loc X.env.scope x := by first | exact Or.inl rfl | exact Or.inr rfl) (hf : X.fn x = true ∨ X.env.scope.names.lookup x = some .local := by first | exact .inl rfl | exact .inr rfl)
    (hj : X.N[j]? = some y := by rfl) (hy : Loc X.env.scope y := by first | exact Or.inl rfl | exact Or.inr rfl) (hf' : X.fn y = true ∨ X.env.scope.names.lookup y = some .local := by first | exact .inl rfl | exact .inr rfl) :
    BG X (.Tuple [.Name x p1, .Name y p2] k pos) (rPair r r') (fun w Γ => (Γ.set i (.im r w.1)).set j (.im r' w.2)) := fun σ H0 R0 H R Γ v w E h Q q => by
  obtain ⟨a, v1, v2, rfl, ha, e1, e2⟩ := h
  exact gS (pg_tup hc (pgs_cons (pg_name hN hi hx hf) (pgs_cons (pg_name hN hj hy hf') pgs_nil))) ⟨a, _, rfl, SqT.of (E.sub _ _ ha), rfl, v1, [v2], rfl, v2, [], rfl, rfl, q _ ((E.set i e1).set j e2)⟩
theorem bg_row (i1 i2 i3 i4 : Nat) {x1 x2 x3 x4 : Str} {k : Nat} {p1 p2 p3 p4 pos : Pos} (hc : X.calm = true := by rfl) (hN : X.N.Nodup := by first | assumption | decide)
    (h1 : X.N[i1]? = some x1 := by rfl) (l1 : Loc X.env.scope x1 := by first | exact Or.inl rfl | exact Or.inr rfl) (f1 : X.fn x1 = true ∨ X.env.scope.names.lookup x1 = some .local := by first | exact .inl rfl | exact .inr rfl)
    (h2 : X.N[i2]? = some x2 := by rfl) (l2 : Loc X.env.scope x2 := by first | exact Or.inl rfl | exact Or.inr rfl) (f2 : X.fn x2 = true ∨ X.env.scope.names.lookup x2 = some .local := by first | exact .inl rfl | exact .inr rfl)
    (h3 : X.N[i3]? = some x3 := by rfl) (l3 : Loc X.env.scope x3 := by first | exact Or.inl rfl | exact Or.inr rfl) (f3 : X.fn x3 = true ∨ X.env.scope.names.lookup x3 = some .local := by first | exact .inl rfl | exact .inr rfl)
    (h4 : X.N[i4]? = some x4 := by rfl) (l4 : Loc X.env.scope x4 := by first | exact Or.inl rfl | exact Or.inr rfl) (f4 : X.fn x4 = true ∨ X.env.scope.names.lookup x4 = some .local := by first | exact .inl rfl | exact .inr rfl) :
    BG X (.Tuple [.Name x1 p1, .Name x2 p2, .Name x3 p3, .Name x4 p4] k pos) rRow (fun w Γ => (((Γ.set i1 (.im rInt w.1)).set i2 (.im rInt w.2.1)).set i3 (.im rInt w.2.2.1)).set i4 (.im rInt w.2.2.2)) := fun σ H0 R0 H R Γ v w E h Q q => by
  obtain ⟨a, rfl, ha⟩ := h
  exact gS (pg_tup hc (pgs_cons (pg_name hN h1 l1 f1) (pgs_cons (pg_name hN h2 l2 f2) (pgs_cons (pg_name hN h3 l3 f3) (pgs_cons (pg_name hN h4 l4 f4) pgs_nil))))) ⟨a, _, rfl, SqT.of (E.sub _ _ ha), rfl, _, _, rfl, _, _, rfl, _, _, rfl, _, _, rfl, rfl, q _ ((((E.set i1 rfl).set i2 rfl).set i3 rfl).set i4 rfl)⟩
theorem paired_at' {F : α → β → Prop} : ∀ {vs : List α} {xs : List β}, PySem.Paired F vs xs → ∀ {i : Nat} {v : α}, vs[i]? = some v → ∃ y, xs[i]? = some y ∧ F v y
  | _, _, .nil, i, y, h => by simp at h
  | _, _, .cons h t, 0, y, e => by simp at e; subst e; exact ⟨_, rfl, h⟩
  | _, _, .cons h t, i + 1, y, e => by
    obtain ⟨v, e1, e2⟩ := paired_at' t (i := i) (v := y) (by simpa using e)
    exact ⟨v, by simpa using e1, e2⟩
end
end Fc

set_option Elab.async false
set_option linter.all false
set_option maxRecDepth 100000
set_option maxHeartbeats 4000000
namespace Fc
open PySem PySem.Spec L2
open PyProof.Rows hiding St
section
variable {X : Cx} {Γ Γ1 Γ2 Γ3 : Ga} {α β γ δ : Type} {N : Ga → Prop} {T : RT}
theorem at_of {σ : St} {i : Nat} {v : V} (e : (σ[i]?).join = some v) : σ[i]? = some (some v) := by
  cases es : σ[i]? with
  | none => rw [es] at e; cases e
  | some o => rw [es] at e; exact congrArg some e
theorem w_while {c : Expr} {body : List Stmt} {pos : Pos} (I : Nat → Ga → Prop) {m0 : Nat} (h0 : I m0 Γ)
    (hstep : ∀ (m : Nat) (Γ : Ga), I m Γ → ∃ (k : Bool) (Γ' : Ga), TV X c Γ k Γ' ∧ (k = true → WS X body Γ' (fun Γ'' => ∃ m', m' < m ∧ I m' Γ'') T) ∧ (k = false → N Γ'))
    (hp : PassesOwn (model X.prog X.w) X.A X.env X.xe := by exact PassesOwn.never) : W1 X (.While c body [] pos) Γ N T := fun σ H0 R0 H R E D dn dr => by
  refine sS (ps_while hp ptS pssS) ?_
  refine ⟨fun m σ' H' => ∃ R' Γ', EnvOk X.K σ' H0 R0 H' R' Γ' ∧ Same R R' ∧ I m Γ', ⟨m0, R, Γ, E, Same.refl _, h0⟩, ?_⟩
  rintro m σ' H' ⟨R', Γ', E', s', hI⟩
  obtain ⟨k, Γ2, ht, h1, h2⟩ := hstep m Γ' hI
  refine ht σ' H0 R0 H' R' E' _ fun H1 R1 E1 s1 => ?_
  cases k with
  | true =>
    refine iteT ⟨_, fun σ2 H2 h => h, h1 rfl σ' H0 R0 H1 R1 E1 _ (fun σ3 H3 R3 Γ3 E3 s3 h3 => ?_) dr⟩
    obtain ⟨m', hm, hI'⟩ := h3
    exact ⟨m', hm, R3, Γ3, E3, s'.trans (s1.trans s3), hI'⟩
  | false => exact iteF (dn σ' H1 R1 Γ2 E1 (s'.trans s1) (h2 rfl))
theorem w_append (i : Nat) {x : Str} {e : Expr} {p1 ap cp pos : Pos} {r : Rep α} {xs : List α} {y : α} (he : EV X e Γ r y Γ1) (hΓ : Γ[i]? = some (.mu r xs)) (hΓ1 : Γ1[i]? = some (.mu r xs)) (hz : xs.length < sizeLine) (h : N (Γ1.set i (.mu r (xs ++ [y]))))
    (hN : X.N[i]? = some x := by rfl) (hv : Vis X.env.scope x := by first | exact Or.inl rfl | exact Or.inr (Or.inl rfl) | exact Or.inr (Or.inr rfl))
    (hd : (x == ("__debug__" : Str)) = false := by decide) (hcd : (x == ("__classdict__" : Str)) = false := by decide)
    (hsw : swapsWith (.Call (.Attribute (.Name x p1) "append" ap) [e] [] cp) none pos.line X.env = pure false := by rfl)
    (hbase : attributeBase (.Name x p1) "append" X.env (eval (.Name x p1) X.env) = eval (.Name x p1) X.env := by rfl)
    (hfew : ((backTo cp (starEach [e] X.env)).all (fun x => !x.1) && (backToKw cp (keywordEach [] X.env)).all (fun x => x.1.isSome)
      && decide ([e].length + ([] : List Keyword).length + (if ([] : List Keyword).isEmpty then 0 else 1) < 30)) = true := by rfl)
    (hline : (ap.endLine == cp.line) = true := by rfl) (hs : starEach [e] X.env = (false, eval e X.env) :: starEach [] X.env := by rfl) : W1 X (.Expr (.Call (.Attribute (.Name x p1) "append" ap) [e] [] cp) pos) Γ N T := fun σ H0 R0 H R E D dn dr => by
  obtain ⟨a, vs, ea, ha, hR, pp⟩ := E.ent i _ hΓ
  refine sS (ps_expr (pe_bm PySem.F.plainAttrs_list PySem.F.slot_list_append PySem.F.type_list_append mt_append (pe_var hN hv hd hcd) (pa_cons peS pa_nil hs) hbase hfew hline hs rfl) hsw) ?_
  refine ⟨.ref a, at_of ea, .inl ⟨rfl, vs, SqL.of ha⟩, he σ H0 R0 H R E _ fun v H1 R1 E1 s1 e1 => ?_⟩
  obtain ⟨a', vs', ea', ha', hR', pp'⟩ := E1.ent i _ hΓ1
  rw [ea] at ea'; cases ea'
  refine ⟨a, vs', v, rfl, rfl, ha', by rw [pp'.length]; exact hz, ?_⟩
  exact dn σ _ R1 _ (E1.upd (en := .mu r (xs ++ [y])) hΓ1 rfl ea hR' ⟨a, _, rfl, upd_same, hR', paired_append pp' (.cons e1 .nil)⟩) s1 h
theorem paired_set {F : α → β → Prop} {v : α} {y : β} (h : F v y) : ∀ {vs : List α} {xs : List β} (i : Nat), PySem.Paired F vs xs → PySem.Paired F (vs.set i v) (xs.set i y)
  | _, _, _, .nil => .nil
  | _, _, 0, .cons _ t => .cons h t
  | _, _, i + 1, .cons q t => .cons q (paired_set h i t)
theorem w_setix (i : Nat) {x : Str} {b e : Expr} {p1 p2 pos : Pos} {r : Rep α} {xs : List α} {y : α} {k : Int} {j : Nat} (he : EV X e Γ r y Γ1) (hb : EV X b Γ1 rInt k Γ2) (hΓ1 : Γ1[i]? = some (.mu r xs)) (hΓ2 : Γ2[i]? = some (.mu r xs)) (hj : ixN xs.length k = some j) (h : N (Γ2.set i (.mu r (xs.set j y))))
    (hN : X.N[i]? = some x := by rfl) (hv : Vis X.env.scope x := by first | exact Or.inl rfl | exact Or.inr (Or.inl rfl) | exact Or.inr (Or.inr rfl))
    (hd : (x == ("__debug__" : Str)) = false := by decide) (hcd : (x == ("__classdict__" : Str)) = false := by decide)
    (ha : ∀ v, assign (.Subscript (.Name x p1) b p2) X.env v = (do
      let ov ← holding [v] (eval (.Name x p1) X.env)
      let iv ← holding [v, ov] (eval b X.env)
      standAt p2
      holding [v, ov, iv] (setItem ov iv v)
      release [v, ov, iv] []) := by intro _; rfl)
    (hs : swapsWithSole [.Subscript (.Name x p1) b p2] e pos.line X.env = pure false := by rfl) (hw : swappedStores [.Subscript (.Name x p1) b p2] e X.env = pure none := by rfl) (h1 : (assignEach [.Subscript (.Name x p1) b p2] X.env).map (·.2) = [assign (.Subscript (.Name x p1) b p2) X.env] := by rfl) :
    W1 X (.Assign [.Subscript (.Name x p1) b p2] e pos) Γ N T := fun σ H0 R0 H R E D dn dr => by
  refine sS (ps_asg peS (pg_sub (pe_var hN hv hd hcd) peS set_list ha) hs hw h1) (he σ H0 R0 H R E _ fun v H1 R1 E1 s1 e1 => ?_)
  obtain ⟨a, vs, ea, hp, hR, pp⟩ := E1.ent i _ hΓ1
  refine ⟨.ref a, at_of ea, hb σ H0 R0 H1 R1 E1 _ fun u H2 R2 E2 s2 e2 => ?_⟩
  obtain ⟨a', vs', ea', ha', hR', pp'⟩ := E2.ent i _ hΓ2
  rw [ea] at ea'; cases ea'
  refine ⟨a, vs', k, j, rfl, e2, ha', by rw [pp'.length]; exact hj, ?_⟩
  exact dn σ _ R2 _ (E2.upd (en := .mu r (xs.set j y)) hΓ2 rfl ea hR' ⟨a, _, rfl, upd_same, hR', paired_set (r.mono s2 e1) j pp'⟩) (s1.trans s2) h
theorem paired_dropLast {F : α → β → Prop} {vs : List α} {xs : List β} (p : PySem.Paired F vs xs) : PySem.Paired F vs.dropLast xs.dropLast := by
  rw [List.dropLast_eq_take, List.dropLast_eq_take, p.length]
  exact paired_take _ p
theorem ev_pop (i : Nat) {x : Str} {p1 ap cp : Pos} {r : Rep α} {xs : List α} {y : α} (hΓ : Γ[i]? = some (.mu r xs)) (hy : xs[xs.length - 1]? = some y)
    (hN : X.N[i]? = some x := by rfl) (hv : Vis X.env.scope x := by first | exact Or.inl rfl | exact Or.inr (Or.inl rfl) | exact Or.inr (Or.inr rfl))
    (hd : (x == ("__debug__" : Str)) = false := by decide) (hcd : (x == ("__classdict__" : Str)) = false := by decide)
    (hbase : attributeBase (.Name x p1) "pop" X.env (eval (.Name x p1) X.env) = eval (.Name x p1) X.env := by rfl) (hline : (ap.endLine == cp.line) = true := by rfl) :
    EV X (.Call (.Attribute (.Name x p1) "pop" ap) [] [] cp) Γ r y (Γ.set i (.mu r xs.dropLast)) := by
  intro σ H0 R0 H R E Q q
  obtain ⟨a, vs, ea, ha, hR, pp⟩ := E.ent i _ hΓ
  obtain ⟨v, hv', hr⟩ := paired_at pp hy
  refine eS (pe_bm0 PySem.F.plainAttrs_list PySem.F.slot_list_pop PySem.F.type_list_pop mt_pop (pe_var hN hv hd hcd) hbase hline) ⟨.ref a, at_of ea, .inl ⟨rfl, vs, SqL.of ha⟩, ?_⟩
  refine ⟨a, vs, v, rfl, rfl, ha, by rw [pp.length]; exact hv', ?_⟩
  exact q v _ R (E.upd hΓ rfl ea hR ⟨a, _, rfl, upd_same, hR, paired_dropLast pp⟩) (Same.refl _) hr
theorem tv_own (i : Nat) {x : Str} {pos : Pos} {r : Rep α} {xs : List α} (hΓ : Γ[i]? = some (.mu r xs)) (hN : X.N[i]? = some x := by rfl) (hv : Vis X.env.scope x := by first | exact Or.inl rfl | exact Or.inr (Or.inl rfl) | exact Or.inr (Or.inr rfl))
    (hd : (x == ("__debug__" : Str)) = false := by decide) (hcd : (x == ("__classdict__" : Str)) = false := by decide)
    (he : ∀ whole, isTrue (.Name x pos) X.env whole = (do let v ← whole; standAt (Expr.Name x pos).pos; holding [v] (truthy v)) := by intro _; rfl) : TV X (.Name x pos) Γ (!xs.isEmpty) Γ := by
  intro σ H0 R0 H R E Q q
  obtain ⟨a, vs, ea, ha, hR, pp⟩ := E.ent i _ hΓ
  refine tS (pt_truth (pe_var hN hv hd hcd) he) ⟨.ref a, at_of ea, !xs.isEmpty, .inl ⟨vs, SqL.of ha, ?_⟩, q H R E (Same.refl _)⟩
  cases pp <;> rfl
theorem ev_lenM (i : Nat) {x : Str} {p1 p pos : Pos} {r : Rep α} {xs : List α} (hm : X.mg "len" = none) (hΓ : Γ[i]? = some (.mu r xs)) (hN : X.N[i]? = some x := by rfl) (hv : Vis X.env.scope x := by first | exact Or.inl rfl | exact Or.inr (Or.inl rfl) | exact Or.inr (Or.inr rfl))
    (hd : (x == ("__debug__" : Str)) = false := by decide) (hcd : (x == ("__classdict__" : Str)) = false := by decide) (hg : Gl X "len" := by rfl) : EV X (.Call (.Name "len" p) [.Name x p1] [] pos) Γ rInt (xs.length : Int) Γ := by
  intro σ H0 R0 H R E Q q
  obtain ⟨a, vs, ea, ha, hR, pp⟩ := E.ent i _ hΓ
  refine eS (pe_callB call_len_seq hg hm PySem.boot_len (pa_cons (pe_var hN hv hd hcd) pa_nil rfl) (by decide) (by decide) rfl) ⟨.ref a, at_of ea, a, vs, rfl, .inl (SqL.of ha), ?_⟩
  rw [pp.length]
  exact q _ H R E (Same.refl _) rfl
theorem freeze {K : PySem.W.Frag} {σ : St} {H0 R0 H R : Hp} (E : EnvOk K σ H0 R0 H R Γ) {i : Nat} {r : Rep α} {xs : List α} (hΓ : Γ[i]? = some (.mu r xs)) (hz : xs.length ≤ sizeLine) : ∃ R' v, EnvOk K σ H0 R0 H R' (Γ.set i (.im (rList r) xs)) ∧ Same R R' ∧ (σ[i]?).join = some v ∧ (rList r).R K R' v xs := by
  obtain ⟨a, vs, ea, ha, hR, pp⟩ := E.ent i _ hΓ
  have h0 : H0 a = none := E.new i _ a hΓ rfl ea
  have s2 : Same R (upd R a (.lst vs)) := Same.fresh hR _
  have rr : (rList r).R K (upd R a (.lst vs)) (.ref a) xs := ⟨a, vs, rfl, upd_same, Paired.map (fun _ _ => r.mono s2) pp, hz⟩
  have E1 : EnvOk K σ H0 R0 H R (Γ.set i .no) := E.tell hΓ trivial fun b w => by cases w
  have E2 := E1.still ha hR h0 fun j e q w => by
    rcases set_at q with ⟨rfl, rfl, _⟩ | ⟨hj, q1⟩
    · cases w
    · exact hj (E.ds j i e _ a q1 hΓ w ((Ent.own_fp (e := .mu r xs) rfl).mpr ea))
  have hl : i < Γ.length := (List.getElem?_eq_some_iff.mp hΓ).1
  have E3 := E2.tell (i := i) (e0 := .no) (en := .im (rList r) xs) (List.getElem?_set_self hl) ⟨_, ea, rr⟩ fun b w => by cases w
  rw [List.set_set] at E3
  exact ⟨_, .ref a, E3, s2, ea, rr⟩
theorem WS.freeze (i : Nat) {sts : List Stmt} {r : Rep α} {xs : List α} (hΓ : Γ[i]? = some (.mu r xs)) (hz : xs.length ≤ sizeLine) (h : WS X sts (Γ.set i (.im (rList r) xs)) N T) : WS X sts Γ N T := fun σ H0 R0 H R E D dn dr => by
  obtain ⟨R', v, E', s', _, _⟩ := Fc.freeze E hΓ hz
  exact h σ H0 R0 H R' E' D (fun σ2 H2 R2 Γ2 E2 s2 => dn σ2 H2 R2 Γ2 E2 (s'.trans s2)) dr
def rDict : Rep (List (Int × V)) := ⟨fun K H v kvs => ∃ a, v = .ref a ∧ H a = some (.dK (dkOf kvs)), fun s ⟨a, e, q⟩ => ⟨a, e, s _ _ q⟩⟩
def dHas (kvs : List (Int × V)) (k : Int) : Bool := kvs.any fun p => decide (p.1 = k)
theorem val_dk (kvs : List (Int × V)) (k : Int) : (valV (dkOf kvs) (Sum.inl k : Key)).isSome = dHas kvs k := by
  rw [← valV_any]
  unfold dkOf dHas
  rw [List.any_map]
  congr 1
  funext p
  show decide ((Sum.inl p.1 : Key) = Sum.inl k) = decide (p.1 = k)
  by_cases h : p.1 = k
  · rw [h]; simp
  · rw [decide_eq_false h, decide_eq_false fun z => h (Sum.inl.inj z)]
def Quick (X : Cx) (e : Expr) (Γ : Ga) (k : Int) : Prop := ∀ (σ : St) (H0 R0 H R : Hp), EnvOk X.K σ H0 R0 H R Γ → ∀ (H' : Hp) (Q : VK), Q (.int k) H' → semE X e σ H' Q
theorem quick_name (i : Nat) {x : Str} {pos : Pos} {y : Int} (hΓ : Γ[i]? = some (.im rInt y)) (hN : X.N[i]? = some x := by rfl) (hv : Vis X.env.scope x := by first | exact Or.inl rfl | exact Or.inr (Or.inl rfl) | exact Or.inr (Or.inr rfl))
    (hd : (x == ("__debug__" : Str)) = false := by decide) (hcd : (x == ("__classdict__" : Str)) = false := by decide) : Quick X (.Name x pos) Γ y := fun σ H0 R0 H R E H' Q q => by
  obtain ⟨v, e, h⟩ := E.ent i _ hΓ
  cases h
  exact eS (pe_var hN hv hd hcd) ⟨_, at_of e, q⟩
theorem w_dict1 (i : Nat) {x : Str} {ke ve : Expr} {p1 p2 pos : Pos} {k : Int} {v : V} (hk : Quick X ke Γ k) (hv : PE X ve (tC v)) (h : N (Γ.set i (.di [(k, v)])))
    (hN : X.N.Nodup := by first | assumption | decide) (hi : X.N[i]? = some x := by rfl) (hx : Loc X.env.scope x := by first | exact Or.inl rfl | exact Or.inr rfl)
    (hs : swapsWith (.Dict [some ke] [ve] p2) (some (.Name x p1)) pos.line X.env = pure false := by rfl) (hf : X.fn x = true ∨ X.env.scope.names.lookup x = some .local := by first | exact .inl rfl | exact .inr rfl) :
    W1 X (.Assign [.Name x p1] (.Dict [some ke] [ve] p2) pos) Γ N T := fun σ H0 R0 H R E D dn dr => by
  refine sS (ps_set hN hi hx (pe_disp (pps_cons peS hv pps_nil) rfl rfl (by simp) (by simp)) hs hf) fun p hp => ?_
  refine hk σ H0 R0 H R E _ _ ?_
  refine ⟨upd_same, [(Sum.inl k, v)], rfl, (by show 1 ≤ 15; decide), ?_⟩
  have E1 := E.grow (Ext.freshM E.sub hp (.dK (dkOf [(k, v)])))
  have e : upd (upd H p (.dK [])) p (.dK (mergeK [] [(Sum.inl k, v)])) = upd H p (.dK (dkOf [(k, v)])) := by
    rw [upd_upd]; rfl
  rw [e]
  exact dn _ _ R _ (E1.setO (u := .dK (dkOf [(k, v)])) (en := .di [(k, v)]) i ⟨p, rfl, upd_same, E.sub.free hp⟩ (E.ext.h.free hp) fun j e _ q w => E.off hp j e q w) (Same.refl _) h
theorem tv_dinM (i : Nat) (neg : Bool) {x : Str} {e : Expr} {p1 pos : Pos} {kvs : List (Int × V)} {k : Int} (hu : X.A.units + 1 < cLine) (he : EV X e Γ rInt k Γ) (hΓ : Γ[i]? = some (.di kvs)) (hN : X.N[i]? = some x := by rfl) (hv : Vis X.env.scope x := by first | exact Or.inl rfl | exact Or.inr (Or.inl rfl) | exact Or.inr (Or.inr rfl))
    (hd : (x == ("__debug__" : Str)) = false := by decide) (hcd : (x == ("__classdict__" : Str)) = false := by decide) :
    TV X (.Compare e [if neg then .NotIn else .In] [.Name x p1] pos) Γ (if neg then !dHas kvs k else dHas kvs k) Γ := by
  intro σ H0 R0 H R E Q q
  cases neg with
  | false =>
    refine tS (pt_cmp (pc_din hu peS (pe_var hN hv hd hcd)) (by with_unfolding_all rfl)) (he σ H0 R0 H R E _ fun v H1 R1 E1 s1 e1 => ?_)
    obtain ⟨a, ea, ha, hR⟩ := E1.ent i _ hΓ
    cases e1
    refine ⟨.ref a, at_of ea, a, _, rfl, DGet.k (k := Sum.inl k) ha, _, rfl, ?_⟩
    rw [val_dk]
    exact q H1 R1 E1 s1
  | true =>
    refine tS (pt_cmp (pc_dnotin hu peS (pe_var hN hv hd hcd)) (by with_unfolding_all rfl)) (he σ H0 R0 H R E _ fun v H1 R1 E1 s1 e1 => ?_)
    obtain ⟨a, ea, ha, hR⟩ := E1.ent i _ hΓ
    cases e1
    refine ⟨.ref a, at_of ea, a, _, rfl, DGet.k (k := Sum.inl k) ha, _, rfl, ?_⟩
    rw [val_dk]
    exact q H1 R1 E1 s1
theorem w_dputNew (i : Nat) {x : Str} {ke ve : Expr} {p1 p2 pos : Pos} {k : Int} {v : V} {kvs : List (Int × V)} (hu : X.A.units + 1 < cLine) (hk : EV X ke Γ rInt k Γ) (hv : PE X ve (tC v)) (hΓ : Γ[i]? = some (.di kvs)) (hn : dHas kvs k = false) (hz : kvs.length < sizeLine) (h : N (Γ.set i (.di (kvs ++ [(k, v)]))))
    (hN : X.N[i]? = some x := by rfl) (hvi : Vis X.env.scope x := by first | exact Or.inl rfl | exact Or.inr (Or.inl rfl) | exact Or.inr (Or.inr rfl))
    (hd : (x == ("__debug__" : Str)) = false := by decide) (hcd : (x == ("__classdict__" : Str)) = false := by decide)
    (hs : swapsWith ve (some (.Subscript (.Name x p1) ke p2)) pos.line X.env = pure false := by rfl) : W1 X (.Assign [.Subscript (.Name x p1) ke p2] ve pos) Γ N T := fun σ H0 R0 H R E D dn dr => by
  refine sS (ps_dput hu (pe_var hN hvi hd hcd) peS hv hs) ?_
  obtain ⟨a, ea, ha, hR⟩ := E.ent i _ hΓ
  refine ⟨.ref a, at_of ea, hk σ H0 R0 H R E _ fun u H1 R1 E1 s1 e1 => ?_⟩
  obtain ⟨a', ea', ha', hR'⟩ := E1.ent i _ hΓ
  rw [ea] at ea'; cases ea'
  cases e1
  refine ⟨a, _, rfl, DPut.k (k := Sum.inl k) ha' (by unfold dkOf; rw [List.length_map]; exact hz), ?_⟩
  have vn : valV (dkOf kvs) (Sum.inl k : Key) = none := by
    have := val_dk kvs k
    rw [hn] at this
    cases q : valV (dkOf kvs) (Sum.inl k : Key) with
    | none => rfl
    | some z => rw [q] at this; cases this
  rw [putK_new v vn]
  have e : dkOf kvs ++ [((Sum.inl k : Key), v)] = dkOf (kvs ++ [(k, v)]) := by unfold dkOf; rw [List.map_append]; rfl
  rw [e]
  exact dn σ _ R1 _ (E1.upd (en := .di (kvs ++ [(k, v)])) hΓ rfl ea hR' ⟨a, rfl, upd_same, hR'⟩) s1 h
theorem w_retD (i : Nat) {x : Str} {p1 pos : Pos} {P : List (Int × V) → Prop} {kvs : List (Int × V)} (hΓ : Γ[i]? = some (.di kvs)) (h : P kvs) (hN : X.N[i]? = some x := by rfl) (hv : Vis X.env.scope x := by first | exact Or.inl rfl | exact Or.inr (Or.inl rfl) | exact Or.inr (Or.inr rfl))
    (hd : (x == ("__debug__" : Str)) = false := by decide) (hcd : (x == ("__classdict__" : Str)) = false := by decide) : W1 X (.Return (some (.Name x p1)) pos) Γ N (rtP X.K rDict P) := fun σ H0 R0 H R E D dn dr => by
  obtain ⟨a, ea, ha, hR⟩ := E.ent i _ hΓ
  have h0 : H0 a = none := E.new i _ a hΓ rfl ea
  refine sS (ps_ret (pe_var hN hv hd hcd)) ⟨.ref a, at_of ea, dr _ H (upd R a (.dK (dkOf kvs))) ⟨E.ext.h, E.ext.r.trans (Same.fresh hR _), fun b o qb => ?_, fun b hb => ?_⟩ ⟨kvs, ⟨a, rfl, upd_same⟩, h⟩⟩
  · by_cases hb : b = a
    · subst hb; rw [upd_same] at qb; cases qb; exact ha
    · rw [upd_ne hb] at qb; exact E.ext.s b o qb
  · rw [upd_ne (show b ≠ a from fun e => hb (by rw [e]; exact h0))]; exact E.ext.old b hb
theorem ev_lenD {a : Expr} {p pos : Pos} {kvs : List (Int × V)} (hm : X.mg "len" = none) (ha : EV X a Γ rDict kvs Γ1) (hs : starEach [a] X.env = [(false, eval a X.env)] := by rfl) (hg : Gl X "len" := by rfl) : EV X (.Call (.Name "len" p) [a] [] pos) Γ rInt (kvs.length : Int) Γ1 := by
  intro σ H0 R0 H R E Q q
  refine eS (pe_callB call_lenD hg hm PySem.boot_len (pa_cons peS pa_nil hs) (by decide) (by decide) hs) (ha σ H0 R0 H R E _ fun v H1 R1 E1 s1 e1 => ?_)
  obtain ⟨p, rfl, hp⟩ := e1
  refine ⟨p, _, rfl, E1.sub _ _ hp, ?_⟩
  unfold dkOf
  rw [List.length_map]
  exact q _ H1 R1 E1 s1 rfl
theorem ev_own (i : Nat) {x : Str} {p1 : Pos} {r : Rep α} {xs : List α} (hΓ : Γ[i]? = some (.mu r xs)) (hz : xs.length ≤ sizeLine) (hN : X.N[i]? = some x := by rfl) (hv : Vis X.env.scope x := by first | exact Or.inl rfl | exact Or.inr (Or.inl rfl) | exact Or.inr (Or.inr rfl))
    (hd : (x == ("__debug__" : Str)) = false := by decide) (hcd : (x == ("__classdict__" : Str)) = false := by decide) : EV X (.Name x p1) Γ (rList r) xs (Γ.set i (.im (rList r) xs)) := by
  intro σ H0 R0 H R E Q q
  obtain ⟨R', v, E', s', ev, hr⟩ := Fc.freeze E hΓ hz
  exact eS (pe_var hN hv hd hcd) ⟨v, at_of ev, q v H R' E' s' hr⟩
end
end Fc

set_option Elab.async false
set_option linter.all false
set_option maxRecDepth 100000
set_option maxHeartbeats 4000000
namespace Fc
open PySem PySem.Spec L2
open PyProof.Rows hiding St
abbrev SpD := PySem.W.Frag → List Pk → RT → Prop
def spG (S : SpD) (K : PySem.W.Frag) : Sp := fun vs H Q _ => ∃ R ps T, Same R H ∧ Pks K R vs ps ∧ S K ps T ∧ ∀ v H' R', Ext H R H' R' → T H v H' R' → Q v H'
theorem Pks.length {K : PySem.W.Frag} {R : Hp} : ∀ {vs : List V} {ps : List Pk}, Pks K R vs ps → vs.length = ps.length
  | _, _, .nil => rfl
  | _, _, .cons _ t => by rw [List.length_cons, List.length_cons, Pks.length t]
structure Cal (P : Program) (w : World) (K : PySem.W.Frag) (mg : Str → Option Value) (base : Heap) (x : Str) (k : Nat) (sp : Sp) : Prop where
  ex : ∃ f fd ps, FnOk P w K mg base CX0 k f fd ps sp ∧ mg x = some (.ref f) ∧ PySem.W.keepIn K (.ref f) = true ∧ Binds K fd ps []
theorem Cal.mono {P : Program} {w : World} {K : PySem.W.Frag} {mg : Str → Option Value} {base : Heap} {x : Str} {j k : Nat} {sp : Sp} (c : Cal P w K mg base x j sp) (h : j ≤ k) : Cal P w K mg base x k sp := by
  obtain ⟨f, fd, ps, F, a, b, c⟩ := c.ex
  exact ⟨f, fd, ps, F.mono h, a, b, c⟩
section
variable {X : Cx} {Γ Γ1 Γ2 Γ3 : Ga} {α β γ δ : Type} {N : Ga → Prop} {T : RT}
theorem ev_callT {S : SpD} {x : Str} {k : Nat} {e : Expr} {es : List Expr} {p pos : Pos} {ps : List Pk} {Q : VK} {σ : St} {H0 R0 H R : Hp} (C : Cal X.prog X.w X.K X.mg X.base x k (spG S X.K)) (hr : Room k X.A) (ha : HA X (e :: es) Γ ps Γ1) (hS : S X.K ps T) (E : EnvOk X.K σ H0 R0 H R Γ)
    (q : ∀ H1 R1 v H' R', EnvOk X.K σ H0 R0 H1 R1 Γ1 → Same R R1 → Ext H1 R1 H' R' → T H1 v H' R' → Q v H')
    (hg : Gl X x) (hdb : (x == ("__debug__" : Str)) = false) (he : starEach (e :: es) X.env = (false, eval e X.env) :: starEach es X.env) (hpl : (backTo pos (starEach es X.env)).any (·.1) = false) : semE X (.Call (.Name x p) (e :: es) [] pos) σ H Q := by
  obtain ⟨f, fd, pn, F, hm, hk, hb⟩ := C.ex
  refine eS (pe_call F hr hg hm hk hb .nil pass0 paS hdb he hpl) (ha σ H0 R0 H R E _ fun vs H1 R1 E1 s1 p1 => ?_)
  refine ⟨R1, ps, T, E1.sub, by rw [List.append_nil]; exact p1, hS, fun v H' R' x t => q H1 R1 v H' R' E1 s1 x t⟩
theorem ev_call {S : SpD} {x : Str} {k : Nat} {e : Expr} {es : List Expr} {p pos : Pos} {ps : List Pk} {r : Rep α} {y : α} (C : Cal X.prog X.w X.K X.mg X.base x k (spG S X.K)) (hr : Room k X.A) (ha : HA X (e :: es) Γ ps Γ1) (hS : S X.K ps (rtP X.K r (· = y)))
    (hg : Gl X x := by rfl) (hdb : (x == ("__debug__" : Str)) = false := by decide) (he : starEach (e :: es) X.env = (false, eval e X.env) :: starEach es X.env := by rfl) (hpl : (backTo pos (starEach es X.env)).any (·.1) = false := by rfl) : EV X (.Call (.Name x p) (e :: es) [] pos) Γ r y Γ1 := fun σ H0 R0 H R E Q q =>
  ev_callT C hr ha hS E (fun H1 R1 v H' R' E1 s1 xx t => by
    obtain ⟨z, e1, rfl⟩ := t
    exact q v H' R' (E1.grow xx) (s1.trans xx.r) e1) hg hdb he hpl
theorem evl_call {S : SpD} {x : Str} {k : Nat} {e : Expr} {es : List Expr} {p pos : Pos} {ps : List Pk} {r : Rep α} {ys : List α} (C : Cal X.prog X.w X.K X.mg X.base x k (spG S X.K)) (hr : Room k X.A) (ha : HA X (e :: es) Γ ps Γ1) (hS : S X.K ps (rtL X.K r (· = ys)))
    (hg : Gl X x := by rfl) (hdb : (x == ("__debug__" : Str)) = false := by decide) (he : starEach (e :: es) X.env = (false, eval e X.env) :: starEach es X.env := by rfl) (hpl : (backTo pos (starEach es X.env)).any (·.1) = false := by rfl) : EVL X (.Call (.Name x p) (e :: es) [] pos) Γ r ys Γ1 := fun σ H0 R0 H R E Q q =>
  ev_callT C hr ha hS E (fun H1 R1 v H' R' E1 s1 xx t => by
    obtain ⟨a, vs, zs, rfl, h0, h1, h2, p, z, rfl⟩ := t
    exact q a vs H' R' (E1.grow xx) (s1.trans xx.r) h1 h2 (E1.ext.h.free h0) (E1.off h0) p z) hg hdb he hpl
end
def gaOf (ps : List Pk) (n : Nat) : Ga := ps.map (fun p => Ent.im p.r p.x) ++ List.replicate (n - ps.length) .no
theorem env_start {K : PySem.W.Frag} {R H : Hp} {vs : List V} {ps : List Pk} {N : List Str} (s : Same R H) (p : Pks K R vs ps) (hl : ps.length ≤ N.length) : EnvOk K (L2.start N vs) H R H R (gaOf ps N.length) := by
  have noown : ∀ (i : Nat) (e : Ent) (o : Option V), (gaOf ps N.length)[i]? = some e → e.fp o = [] := fun i e o q => by
    unfold gaOf at q
    rcases List.mem_append.mp (List.mem_of_getElem? q) with z | z
    · obtain ⟨p, _, rfl⟩ := List.mem_map.mp z; rfl
    · obtain ⟨_, rfl⟩ := List.mem_replicate.mp z; rfl
  refine ⟨Ext.refl s, fun i e q => ?_, fun i e a q w => absurd w (by rw [noown i e _ q]; exact List.not_mem_nil), fun i j e e' a q _ w => absurd w (by rw [noown i e _ q]; exact List.not_mem_nil), ?_⟩
  · have hp := p.length
    unfold gaOf at q
    unfold L2.start
    by_cases hi : i < ps.length
    · rw [List.getElem?_append_left (by simpa using hi), List.getElem?_map] at q
      rw [List.getElem?_append_left (by simpa [hp] using hi), List.getElem?_map]
      have key : ∀ {vs : List V} {ps : List Pk}, Pks K R vs ps → ∀ (i : Nat) (p : Pk), ps[i]? = some p → ∃ v, vs[i]? = some v ∧ p.r.R K R v p.x := by
        intro vs ps h
        induction h with
        | nil => intro i p e; simp at e
        | cons a b ih =>
          intro i p e
          cases i with
          | zero => simp at e; subst e; exact ⟨_, rfl, a⟩
          | succ i => simpa using ih i p (by simpa using e)
      cases e1 : ps[i]? with
      | none => rw [e1] at q; cases q
      | some p1 =>
        rw [e1] at q
        cases q
        obtain ⟨v, h1, h2⟩ := key p i p1 e1
        rw [h1]
        exact ⟨v, rfl, h2⟩
    · rw [List.getElem?_append_right (by simpa using hi), List.getElem?_replicate] at q
      split at q
      · cases q; trivial
      · cases q
  · unfold gaOf L2.start
    rw [List.length_append, List.length_append, List.length_map, List.length_map, List.length_replicate, List.length_replicate, p.length]
section
variable {P : Program} {w : World} {K : PySem.W.Frag} {mg : Str → Option Value} {base : Heap}
theorem fn_ok {S : SpD} {x qual : Str} {st : Stmt} {f : Addr} {fd : FuncData} {N ps : List Str} {k : Nat} (F : Fun K x qual st f fd) (Sc : FnScope N ps (defScope st)) (hm : mg x = some (.ref f)) (hb : Binds K fd ps []) (len : ∀ qs T, S K qs T → qs.length = ps.length)
    (hbody : ∀ (cdv : Value) (A : Around) (outer : List Env) (s : Shared) (H : Hp) (E : XK) (qs : List Pk) (T : RT), Room k (A.deeper (envOfC qual (defScope st) s.heap.objs.size f cdv)) → S K qs T →
      WS (cxOf CX0 P w K mg base N qual (defScope st) f cdv A outer s H E).nox (defBody st) (gaOf qs N.length) (fun _ => False) T) : Cal P w K mg base x (k + 1) (spG S K) := by
  refine ⟨f, fd, ps, ?_, hm, F.kp, hb⟩
  refine F.ok Sc (fun vs H Q E h => ?_) (fun cdv A outer s H vs Q E hr h => ?_)
  · obtain ⟨R, qs, T, _, p, hS, _⟩ := h
    rw [p.length]; exact len qs T hS
  · obtain ⟨R, qs, T, sR, p, hS, q⟩ := h
    have hl : qs.length ≤ N.length := by
      rw [len qs T hS]
      have := congrArg List.length Sc.pre
      rw [List.length_take] at this
      omega
    exact ⟨_, pssS, hbody cdv A outer s H E qs T hr hS (L2.start N vs) H R H R (env_start sR p hl) { nx := fun _ H' => Q .non H', rt := Q } (fun _ _ _ _ _ _ f => f.elim) fun v H' R' xx t => q v H' R' xx t⟩
end
end Fc

set_option Elab.async false
set_option linter.all false
set_option maxRecDepth 100000
set_option maxHeartbeats 4000000
namespace Fc
open PySem PySem.Spec L2
open PyProof.Rows hiding St
section
variable {X : Cx} {Γ Γ1 Γ2 Γ3 : Ga} {α β γ δ : Type} {N : Ga → Prop} {T : RT}
theorem bools_at {bs : List Bool} {us : List Value} (r : Vals (bs.map V.bl) us) {j : Nat} {v : Value} (h : us.toArray[j]? = some v) : v = .bool (bs.getD j true) := by
  induction bs generalizing us j with
  | nil => cases r; simp at h
  | cons b r' ih =>
    cases r with
    | cons h1 t =>
      cases j with
      | zero => simp at h; rw [← h]; exact h1
      | succ j => exact ih t (by simpa using h)
theorem all_range (bs : List Bool) : ((List.range bs.length).all fun j => bs.getD j true) = bs.all id := by
  rw [Bool.eq_iff_iff, List.all_eq_true, List.all_eq_true]
  constructor
  · intro h b hb
    obtain ⟨j, hj, rfl⟩ := List.mem_iff_getElem.mp hb
    have := h j (List.mem_range.mpr hj)
    simpa [List.getD_eq_getElem?_getD, List.getElem?_eq_getElem hj] using this
  · intro h j hj
    have hj := List.mem_range.mp hj
    simpa [List.getD_eq_getElem?_getD, List.getElem?_eq_getElem hj] using h _ (List.getElem_mem hj)
theorem any_range (bs : List Bool) : ((List.range bs.length).any fun j => bs.getD j true) = bs.any id := by
  rw [Bool.eq_iff_iff, List.any_eq_true, List.any_eq_true]
  constructor
  · rintro ⟨j, hj, h⟩
    have hj := List.mem_range.mp hj
    exact ⟨_, List.getElem_mem hj, by simpa [List.getD_eq_getElem?_getD, List.getElem?_eq_getElem hj] using h⟩
  · rintro ⟨b, hb, h⟩
    obtain ⟨j, hj, rfl⟩ := List.mem_iff_getElem.mp hb
    exact ⟨j, List.mem_range.mpr hj, by simpa [List.getD_eq_getElem?_getD, List.getElem?_eq_getElem hj] using h⟩
theorem call_all (hc : X.calm = true) : CallR X (.builtin "all") (fun xs H Q => ∃ (p : Addr) (bs : List Bool), xs = [.ref p] ∧ SqL X.K H p (bs.map V.bl) ∧ Q (.bl (bs.all id)) H) := by
  intro pins s σ H xs us Q I r h
  obtain ⟨p, bs, rfl, hq, q⟩ := h
  obtain ⟨u, rfl, rx⟩ := vals1 r
  cases rx
  obtain ⟨its, r', pl, hz⟩ := I.list hq
  have hne : p ≠ s.heap.objs.size := fun e => by obtain ⟨o, ho, _⟩ := pl.isList; exact absurd (Heap.lt_size ho) (by rw [e]; exact Nat.lt_irrefl _)
  refine call_all_walk (wpAny_pyIter_list pl.isList ?_)
  refine ⟨s.heap.objs.size, _, [s.heap.objs.size], its.toArray.size, _, _, fun j => bs.getD j true, rfl, Walks.list (A := X.A.in1) (show X.A.in1.handled = none from I.ok.hd hc) s.heap.objs.size p hne its.toArray, ?_, fun j v s Q E hv hQ => ?_, fun h' tk hk => ?_⟩
  · refine ⟨⟨_, Heap.get?_push_size _ rfl, rfl, rfl⟩, ?_⟩
    obtain ⟨o, ho, c, n, d⟩ := pl.isList
    exact ⟨o, Heap.get?_push_of_some _ ho, c, n, d⟩
  · rw [bools_at r' hv]; exact wpAny_truthy_bool hQ
  · have e : its.toArray.size = bs.length := by rw [List.size_toArray, ← r'.length, List.length_map]
    rw [e, all_range]
    exact ⟨.bl _, H, I.kept fun b o e => hk b o (fun z => absurd (Heap.lt_size e) (by rw [List.mem_singleton.mp z]; exact Nat.lt_irrefl _)) (Heap.get?_push_of_some _ e), rfl, q⟩
theorem call_any (hc : X.calm = true) : CallR X (.builtin "any") (fun xs H Q => ∃ (p : Addr) (bs : List Bool), xs = [.ref p] ∧ SqL X.K H p (bs.map V.bl) ∧ Q (.bl (bs.any id)) H) := by
  intro pins s σ H xs us Q I r h
  obtain ⟨p, bs, rfl, hq, q⟩ := h
  obtain ⟨u, rfl, rx⟩ := vals1 r
  cases rx
  obtain ⟨its, r', pl, hz⟩ := I.list hq
  have hne : p ≠ s.heap.objs.size := fun e => by obtain ⟨o, ho, _⟩ := pl.isList; exact absurd (Heap.lt_size ho) (by rw [e]; exact Nat.lt_irrefl _)
  refine call_any_walk (wpAny_pyIter_list pl.isList ?_)
  refine ⟨s.heap.objs.size, _, [s.heap.objs.size], its.toArray.size, _, _, fun j => bs.getD j true, rfl, Walks.list (A := X.A.in1) (show X.A.in1.handled = none from I.ok.hd hc) s.heap.objs.size p hne its.toArray, ?_, fun j v s Q E hv hQ => ?_, fun h' tk hk => ?_⟩
  · refine ⟨⟨_, Heap.get?_push_size _ rfl, rfl, rfl⟩, ?_⟩
    obtain ⟨o, ho, c, n, d⟩ := pl.isList
    exact ⟨o, Heap.get?_push_of_some _ ho, c, n, d⟩
  · rw [bools_at r' hv]; exact wpAny_truthy_bool hQ
  · have e : its.toArray.size = bs.length := by rw [List.size_toArray, ← r'.length, List.length_map]
    rw [e, any_range]
    exact ⟨.bl _, H, I.kept fun b o e => hk b o (fun z => absurd (Heap.lt_size e) (by rw [List.mem_singleton.mp z]; exact Nat.lt_irrefl _)) (Heap.get?_push_of_some _ e), rfl, q⟩
theorem bools_of {K : PySem.W.Frag} {R : Hp} : ∀ {vs : List V} {xs : List Bool}, PySem.Paired (rBool.R K R) vs xs → vs = xs.map V.bl
  | _, _, .nil => rfl
  | _, _, .cons h t => by rw [List.map_cons, ← bools_of t]; exact congrArg (· :: _) h
theorem ev_b1 {x : Str} {id : String} {r : List V → Hp → VK → Prop} {a : Expr} {p pos : Pos} {ra : Rep α} {rb : Rep β} {y : α} {z : β} (hc : CallR X (.builtin id) r) (hm : X.mg x = none) (hv : bootBuiltins x = some (.builtin id)) (ha : EV X a Γ ra y Γ1)
    (h : ∀ (R H : Hp) v Q, Same R H → ra.R X.K R v y → (∀ w, rb.R X.K R w z → Q w H) → r [v] H Q) (hs : starEach [a] X.env = [(false, eval a X.env)] := by rfl) (hg : Gl X x := by rfl) (hn : x ≠ "__name__" := by decide) (hdb : (x == ("__debug__" : Str)) = false := by decide) :
    EV X (.Call (.Name x p) [a] [] pos) Γ rb z Γ1 := by
  intro σ H0 R0 H R E Q q
  exact eS (pe_callB hc hg hm hv (pa_cons peS pa_nil hs) hn hdb hs) (ha σ H0 R0 H R E _ fun v H1 R1 E1 s1 e1 => h R1 H1 v _ E1.sub e1 fun w hw => q w H1 R1 E1 s1 hw)
theorem ev_all {a : Expr} {p pos : Pos} {bs : List Bool} (hm : X.mg "all" = none) (ha : EV X a Γ (rList rBool) bs Γ1) (hs : starEach [a] X.env = [(false, eval a X.env)] := by rfl) (hc : X.calm = true := by rfl) (hg : Gl X "all" := by rfl) : EV X (.Call (.Name "all" p) [a] [] pos) Γ rBool (bs.all id) Γ1 :=
  ev_b1 (call_all hc) hm boot_all ha (fun R H v Q s ⟨p, vs, e, hp, pp, _⟩ q => ⟨p, bs, by rw [e], by rw [← bools_of pp]; exact SqL.of (s _ _ hp), q _ rfl⟩) hs hg
theorem ev_any {a : Expr} {p pos : Pos} {bs : List Bool} (hm : X.mg "any" = none) (ha : EV X a Γ (rList rBool) bs Γ1) (hs : starEach [a] X.env = [(false, eval a X.env)] := by rfl) (hc : X.calm = true := by rfl) (hg : Gl X "any" := by rfl) : EV X (.Call (.Name "any" p) [a] [] pos) Γ rBool (bs.any id) Γ1 :=
  ev_b1 (call_any hc) hm boot_any ha (fun R H v Q s ⟨p, vs, e, hp, pp, _⟩ q => ⟨p, bs, by rw [e], by rw [← bools_of pp]; exact SqL.of (s _ _ hp), q _ rfl⟩) hs hg
theorem ev_intB {a : Expr} {p pos : Pos} {b : Bool} (hm : X.mg "int" = none) (ha : EV X a Γ rBool b Γ1) (hs : starEach [a] X.env = [(false, eval a X.env)] := by rfl) (hg : Gl X "int" := by rfl) : EV X (.Call (.Name "int" p) [a] [] pos) Γ rInt (if b then 1 else 0) Γ1 := by
  intro σ H0 R0 H R E Q q
  exact eS (pe_callTy call_int1 hg hm PyProof.Rows.boot_int (pa_cons peS pa_nil hs) (by decide) (by decide) hs) (ha σ H0 R0 H R E _ fun v H1 R1 E1 s1 e1 => .inr ⟨b, by rw [show v = V.bl b from e1], q _ H1 R1 E1 s1 rfl⟩)
theorem evl_list {a : Expr} {p pos : Pos} {r : Rep α} {xs : List α} (hm : X.mg "list" = none) (ha : EV X a Γ (rList r) xs Γ1) (hs : starEach [a] X.env = [(false, eval a X.env)] := by rfl) (hg : Gl X "list" := by rfl) : EVL X (.Call (.Name "list" p) [a] [] pos) Γ r xs Γ1 := by
  intro σ H0 R0 H R E Q q
  refine eS (pe_callTy call_list_of hg hm PyProof.Rows.boot_list (pa_cons peS pa_nil hs) (by decide) (by decide) hs) (ha σ H0 R0 H R E _ fun v H1 R1 E1 s1 e1 => ?_)
  obtain ⟨p, vs, rfl, hp, pp, z⟩ := e1
  exact ⟨p, vs, rfl, .inl (SqL.of (E1.sub _ _ hp)), fun l hl => q l vs _ R1 (E1.grow (Ext.freshM E1.sub hl _)) s1 upd_same (E1.sub.free hl) (E1.ext.h.free hl) (E1.off hl) pp z⟩
end
end Fc

set_option Elab.async false
set_option linter.all false
set_option maxRecDepth 100000
set_option maxHeartbeats 4000000
namespace Fc
open PySem PySem.Spec L2
open PyProof.Rows hiding St
def Src (K : PySem.W.Frag) (J : It) (R1 : Hp) {α : Type} (r : Rep α) (xs : List α) : Prop :=
  ∀ (H' R' : Hp), Same R1 R' → Same R' H' → ∀ i : Nat, (∀ x, xs[i]? = some x → J.go i H' ∧ ∀ v H2, J.yld i H' v H2 → ∃ R2, Ext H' R' H2 R2 ∧ r.R K R2 v x) ∧ (xs.length ≤ i → J.stop i H')
section
variable {X : Cx} {Γ Γ1 Γ2 Γ3 : Ga} {α β γ δ : Type} {N : Ga → Prop} {T : RT}
def IV (X : Cx) (tg iter : Expr) (Γ : Ga) {α : Type} (r : Rep α) (xs : List α) (Γ1 : Ga) : Prop :=
  ∃ wi, PI X tg iter wi ∧ ∀ (σ : St) (H0 R0 H R : Hp), EnvOk X.K σ H0 R0 H R Γ → ∀ Rq : It → Hp → Prop, (∀ J H1 R1, EnvOk X.K σ H0 R0 H1 R1 Γ1 → Same R R1 → xs.length ≤ sizeLine → Src X.K J R1 r xs → Rq J H1) → wi σ H Rq
theorem iv_list {tg iter : Expr} {r : Rep α} {xs : List α} (h : EV X iter Γ (rList r) xs Γ1) : IV X tg iter Γ r xs Γ1 := by
  refine ⟨_, pi_list peS, fun σ H0 R0 H R E Rq q => h σ H0 R0 H R E _ fun v H1 R1 E1 s1 e1 => ?_⟩
  obtain ⟨a, vs, rfl, ha, pp, z⟩ := e1
  refine ⟨a, rfl, ⟨vs, SqL.of (E1.sub _ _ ha)⟩, q _ H1 R1 E1 s1 z fun H' R' sR sH i => ⟨fun x hx => ?_, fun hi => ?_⟩⟩
  · have hq : SqL X.K H' a vs := SqL.of (sH _ _ (sR _ _ ha))
    obtain ⟨v, hv, hr⟩ := paired_at pp hx
    refine ⟨⟨vs, v, hq, hv⟩, fun v' H2 hy => ?_⟩
    obtain ⟨rfl, hy⟩ := hy
    have := hy vs hq
    rw [hv] at this
    cases this
    exact ⟨R', Ext.refl sH, r.mono sR hr⟩
  · exact ⟨vs, SqL.of (sH _ _ (sR _ _ ha)), by rw [pp.length]; exact hi⟩
def ups (lo : Int) (n : Nat) : List Int := (List.range n).map fun (k : Nat) => lo + (k : Int)
theorem ups_length (lo : Int) (n : Nat) : (ups lo n).length = n := by unfold ups; rw [List.length_map, List.length_range]
theorem ups_at {lo : Int} {n i : Nat} {x : Int} (h : (ups lo n)[i]? = some x) : i < n ∧ x = lo + (i : Int) := by
  have hi : i < n := by have := (List.getElem?_eq_some_iff.mp h).1; rwa [ups_length] at this
  refine ⟨hi, ?_⟩
  unfold ups at h
  rw [List.getElem?_map, List.getElem?_range hi] at h
  exact (Option.some.inj h).symm
theorem src_rng {K : PySem.W.Frag} {R1 : Hp} (lo : Int) (n : Nat) : Src K (Itr lo n) R1 rInt (ups lo n) := fun H' R' sR sH i => ⟨fun x hx => by
  obtain ⟨h1, rfl⟩ := ups_at hx
  refine ⟨h1, fun v H2 hy => ?_⟩
  obtain ⟨rfl, rfl⟩ := hy
  exact ⟨R', Ext.refl sH, rfl⟩, fun hi => by rw [ups_length] at hi; exact hi⟩
theorem iv_range1 {tg a : Expr} {p1 p2 : Pos} {n : Int} (hm : X.mg "range" = none) (ha : EV X a Γ rInt n Γ1) (hn : -(2 ^ 62) ≤ n ∧ n ≤ 1000000) (hs1 : starEach [a] X.env = [(false, eval a X.env)] := by rfl) (hg : Gl X "range" := by rfl) : IV X tg (.Call (.Name "range" p1) [a] [] p2) Γ rInt (ups 0 n.toNat) Γ1 := by
  refine ⟨_, pi_range1 hg hm (pa_cons peS pa_nil hs1) hs1, fun σ H0 R0 H R E Rq q => ha σ H0 R0 H R E _ fun v H1 R1 E1 s1 e1 => ?_⟩
  exact ⟨n, by rw [show v = V.int n from e1], hn.1, by omega, q _ H1 R1 E1 s1 (by rw [ups_length]; exact Nat.le_trans (show n.toNat ≤ 1000000 by omega) (by decide)) (src_rng 0 n.toNat)⟩
theorem iv_range2 {tg a b : Expr} {p1 p2 : Pos} {m n : Int} (hm : X.mg "range" = none) (ha : EV X a Γ rInt m Γ1) (hb : EV X b Γ1 rInt n Γ2) (hn : -1000000 ≤ m ∧ m ≤ 1000000 ∧ -1000000 ≤ n ∧ n ≤ 1000000)
    (hs1 : starEach [a, b] X.env = [(false, eval a X.env), (false, eval b X.env)] := by rfl) (hs2 : starEach [b] X.env = [(false, eval b X.env)] := by rfl) (hg : Gl X "range" := by rfl) : IV X tg (.Call (.Name "range" p1) [a, b] [] p2) Γ rInt (ups m (n - m).toNat) Γ2 := by
  refine ⟨_, pi_range2 hg hm (pa_cons peS (pa_cons peS pa_nil hs2) (by rw [hs1, hs2])) hs1 hs2, fun σ H0 R0 H R E Rq q => ha σ H0 R0 H R E _ fun v H1 R1 E1 s1 e1 => hb σ H0 R0 H1 R1 E1 _ fun u H2 R2 E2 s2 e2 => ?_⟩
  exact ⟨m, n, by rw [show v = V.int m from e1, show u = V.int n from e2], ⟨by omega, by omega, by omega, by omega⟩, q _ H2 R2 E2 (s1.trans s2) (by rw [ups_length]; exact Nat.le_trans (show (n - m).toNat ≤ 2000000 by omega) (by decide)) (src_rng m (n - m).toNat)⟩
theorem w_forI {tg iter : Expr} {body : List Stmt} {pos : Pos} {r : Rep α} {xs : List α} {bf : α → Ga → Ga} (I : Nat → Ga → Prop) (hit : IV X tg iter Γ r xs Γ1) (hb : BG X tg r bf) (h0 : I 0 Γ1)
    (hstep : ∀ (i : Nat) (x : α) (Γ : Ga), xs[i]? = some x → I i Γ → WS X body (bf x Γ) (I (i + 1)) T) (hend : ∀ Γ : Ga, I xs.length Γ → N Γ)
    (hc : X.calm = true := by rfl) (hp : PassesOwn (model X.prog X.w) X.A X.env X.xe := by exact PassesOwn.never) (hs : ∀ x, foldedSetIterable iter X.env x = pure x := by intro _; rfl) : W1 X (.For tg iter body [] pos) Γ N T := fun σ H0 R0 H R E D dn dr => by
  obtain ⟨wi, hi, hit⟩ := hit
  refine sS (ps_for hp hc hi pgS pssS hs) (hit σ H0 R0 H R E _ fun J H1 R1 E1 s1 hz src => ?_)
  refine ⟨fun i m σ' H' => m = xs.length - i ∧ i ≤ xs.length ∧ ∃ R' Γ', EnvOk X.K σ' H0 R0 H' R' Γ' ∧ Same R1 R' ∧ I i Γ', ⟨_, rfl, Nat.zero_le _, R1, Γ1, E1, Same.refl _, h0⟩, ?_⟩
  rintro i m σ' H' ⟨rfl, hle, R', Γ', E', s', hI⟩
  obtain ⟨sgo, sstop⟩ := src H' R' s' E'.sub i
  by_cases hlt : i < xs.length
  · obtain ⟨go, yl⟩ := sgo _ (List.getElem?_eq_getElem hlt)
    refine .inr ⟨go, fun σ' H' => i + 1 ≤ xs.length ∧ ∃ R' Γ', EnvOk X.K σ' H0 R0 H' R' Γ' ∧ Same R1 R' ∧ I (i + 1) Γ', fun σ2 H2 h => ⟨xs.length - (i + 1), by omega, rfl, h.1, h.2⟩, fun v H2 hy => ?_⟩
    obtain ⟨R2, x2, hr⟩ := yl v H2 hy
    refine hb σ' H0 R0 H2 R2 Γ' v _ (E'.grow x2) hr _ fun σ2 E2 => ?_
    exact hstep i _ Γ' (List.getElem?_eq_getElem hlt) hI σ2 H0 R0 H2 R2 E2 _ (fun σ3 H3 R3 Γ3 E3 s3 h3 => ⟨hlt, R3, Γ3, E3, s'.trans (x2.r.trans s3), h3⟩) dr
  · have e : i = xs.length := by omega
    subst e
    exact .inl ⟨sstop (Nat.le_refl _), dn σ' H' R' Γ' E' (s1.trans s') (hend Γ' hI)⟩
def lent : Option Ent → Ent
  | some (.im r x) => .im r x
  | _ => .no
def cGa (own : List Str) (ix : List Nat) (Γ : Ga) : Ga := List.replicate own.length .no ++ ix.map fun i => lent Γ[i]?
theorem env_comp {K : PySem.W.Frag} {σ : St} {H0 R0 H R : Hp} (E : EnvOk K σ H0 R0 H R Γ) (own : List Str) (ix : List Nat) : EnvOk K (zComp own ix σ) H R H R (cGa own ix Γ) := by
  have noown : ∀ (i : Nat) (e : Ent) (o : Option V), (cGa own ix Γ)[i]? = some e → e.fp o = [] := fun i e o q => by
    unfold cGa at q
    rcases List.mem_append.mp (List.mem_of_getElem? q) with z | z
    · obtain ⟨_, rfl⟩ := List.mem_replicate.mp z; rfl
    · obtain ⟨k, _, rfl⟩ := List.mem_map.mp z
      unfold lent
      split <;> rfl
  refine ⟨Ext.refl E.sub, fun i e q => ?_, fun i e a q w => absurd w (by rw [noown i e _ q]; exact List.not_mem_nil), fun i j e e' a q _ w => absurd w (by rw [noown i e _ q]; exact List.not_mem_nil), by unfold cGa zComp; simp⟩
  unfold cGa at q
  unfold zComp
  by_cases hi : i < own.length
  · rw [List.getElem?_append_left (by simpa using hi), List.getElem?_replicate] at q
    rw [if_pos hi] at q
    cases q; trivial
  · rw [List.getElem?_append_right (by simpa using hi), List.length_replicate, List.getElem?_map] at q
    rw [List.getElem?_append_right (by simpa using hi), List.length_replicate, List.getElem?_map]
    cases ek : ix[i - own.length]? with
    | none => rw [ek] at q; cases q
    | some k =>
      rw [ek] at q
      have q' : lent Γ[k]? = e := Option.some.inj q
      subst q'
      show (lent Γ[k]?).ok K H R (σ[k]?).join
      cases eg : Γ[k]? with
      | none => trivial
      | some e =>
        cases e with
        | im r x => exact E.ent k _ eg
        | no => trivial
        | mu r x => trivial
        | di x => trivial
        | ob x => trivial
theorem comp_read {tg elt : Expr} {ifs : List Expr} {scope : Scope} {cl : List (Str × Addr)} {own fr : List Str} {ix : List Nat} {ra : Rep α} {rb : Rep β} {xs : List α} {p : α → Bool} {f : α → β} {bf : α → Ga → Ga} {J : It} {σ : St} {H0 R0 H1 R1 : Hp} {Q : VK} (E1 : EnvOk X.K σ H0 R0 H1 R1 Γ1) (src : Src X.K J R1 ra xs) (hz : xs.length ≤ sizeLine)
    (hb : ∀ (C : Addr) (s : Shared) (H : Hp) (ex : List Addr), BG (cxComp X scope cl C (own ++ fr) s H ex) tg ra bf) (hw : ∀ x, Wk (bf x (cGa own ix Γ1)) (cGa own ix Γ1))
    (ht : ∀ (C : Addr) (s : Shared) (H : Hp) (ex : List Addr) x, x ∈ xs → TF (cxComp X scope cl C (own ++ fr) s H ex) ifs (bf x (cGa own ix Γ1)) (p x) (bf x (cGa own ix Γ1)))
    (he : ∀ (C : Addr) (s : Shared) (H : Hp) (ex : List Addr) x, x ∈ xs → p x = true → EV (cxComp X scope cl C (own ++ fr) s H ex) elt (bf x (cGa own ix Γ1)) rb (f x) (bf x (cGa own ix Γ1)))
    (q : ∀ a vs H' R', Ext H1 R1 H' R' → H' a = none → PySem.Paired (rb.R X.K R') vs ((xs.filter p).map f) → Q (.ref a) (upd H' a (.lst vs))) :
    ∃ W : Nat → Nat → List V → St → Hp → Prop, (∃ m, W 0 m [] (zComp own ix σ) H1) ∧ ∀ i m ys σ' H', W i m ys σ' H' →
      ys.length ≤ sizeLine ∧ ((J.stop i H' ∧ ∀ p, H' p = none → Q (.ref p) (upd H' p (.lst ys))) ∨
      (J.go i H' ∧ ∀ x H2, J.yld i H' x H2 → (fun v σ H Q => ∀ C s Hh ex, semG (cxComp X scope cl C (own ++ fr) s Hh ex) tg v σ H Q : TG) x σ' H2 fun σ2 H3 => (fun σ H Q => ∀ C s Hh ex, semF (cxComp X scope cl C (own ++ fr) s Hh ex) ifs σ H Q : TT) σ2 H3 fun b H4 =>
        if b = true then (fun σ H Q => ∀ C s Hh ex, semE (cxComp X scope cl C (own ++ fr) s Hh ex) elt σ H Q : TE) σ2 H4 fun v H5 => ∃ m', m' < m ∧ W (i + 1) m' (ys ++ [v]) σ2 H5 else ∃ m', m' < m ∧ W (i + 1) m' ys σ2 H4)) := by
  refine ⟨fun i m ys σ' H' => m = xs.length - i ∧ i ≤ xs.length ∧ ∃ R', EnvOk X.K σ' H1 R1 H' R' (cGa own ix Γ1) ∧ PySem.Paired (rb.R X.K R') ys (((xs.take i).filter p).map f), ⟨_, rfl, Nat.zero_le _, R1, env_comp E1 own ix, .nil⟩, ?_⟩
  rintro i m ys σ' H' ⟨rfl, hle, R', E', pp⟩
  have hys : ys.length ≤ sizeLine := by
    rw [pp.length, List.length_map]
    refine Nat.le_trans (List.length_filter_le _ _) (Nat.le_trans ?_ hz)
    rw [List.length_take]; omega
  obtain ⟨sgo, sstop⟩ := src H' R' E'.ext.r E'.sub i
  refine ⟨hys, ?_⟩
  by_cases hlt : i < xs.length
  · obtain ⟨go, yl⟩ := sgo _ (List.getElem?_eq_getElem hlt)
    have hmem : xs[i] ∈ xs := List.getElem_mem hlt
    have tk : (xs.take (i + 1)) = xs.take i ++ [xs[i]] := by rw [List.take_succ, List.getElem?_eq_getElem hlt]; rfl
    refine .inr ⟨go, fun v H2 hy C s Hh ex => ?_⟩
    obtain ⟨R2, x2, hr⟩ := yl v H2 hy
    refine hb C s Hh ex σ' H1 R1 H2 R2 _ v _ (E'.grow x2) hr _ fun σ2 E2 => ?_
    intro C s Hh ex
    refine ht C s Hh ex _ hmem σ2 H1 R1 H2 R2 E2 _ fun H4 R4 E4 s4 => ?_
    cases hpx : p xs[i] with
    | false =>
      rw [if_neg Bool.false_ne_true]
      refine ⟨xs.length - (i + 1), by omega, rfl, hlt, R4, E4.weak (hw _), ?_⟩
      rw [tk, List.filter_append, List.filter_cons, hpx, if_neg Bool.false_ne_true, List.filter_nil, List.append_nil]
      exact Paired.map (fun _ _ => rb.mono (x2.r.trans s4)) pp
    | true =>
      rw [if_pos rfl]
      intro C s Hh ex
      refine he C s Hh ex _ hmem hpx σ2 H1 R1 H4 R4 E4 _ fun w H5 R5 E5 s5 e5 => ?_
      refine ⟨xs.length - (i + 1), by omega, rfl, hlt, R5, E5.weak (hw _), ?_⟩
      rw [tk, List.filter_append, List.filter_cons, hpx, if_pos rfl, List.filter_nil, List.map_append]
      exact paired_append (Paired.map (fun _ _ => rb.mono (x2.r.trans (s4.trans s5))) pp) (.cons e5 .nil)
  · have e : i = xs.length := by omega
    subst e
    rw [List.take_length] at pp
    exact .inl ⟨sstop (Nat.le_refl _), fun a ha => q a ys H' R' E'.ext ha pp⟩
theorem evl_comp {tg elt iter : Expr} {ifs : List Expr} {scope : Scope} {pos : Pos} {cl : List (Str × Addr)} {own fr : List Str} {ix : List Nat} {ra : Rep α} {rb : Rep β} {xs : List α} {p : α → Bool} {f : α → β} {bf : α → Ga → Ga}
    (S : CompScope X scope cl own fr ix) (hit : IV X tg iter Γ ra xs Γ1)
    (hb : ∀ (C : Addr) (s : Shared) (H : Hp) (ex : List Addr), BG (cxComp X scope cl C (own ++ fr) s H ex) tg ra bf) (hw : ∀ x, Wk (bf x (cGa own ix Γ1)) (cGa own ix Γ1))
    (ht : ∀ (C : Addr) (s : Shared) (H : Hp) (ex : List Addr) x, x ∈ xs → TF (cxComp X scope cl C (own ++ fr) s H ex) ifs (bf x (cGa own ix Γ1)) (p x) (bf x (cGa own ix Γ1)))
    (he : ∀ (C : Addr) (s : Shared) (H : Hp) (ex : List Addr) x, x ∈ xs → p x = true → EV (cxComp X scope cl C (own ++ fr) s H ex) elt (bf x (cGa own ix Γ1)) rb (f x) (bf x (cGa own ix Γ1)))
    (hc : X.calm = true := by rfl) (hs : ∀ x, foldedSetIterable iter X.env x = pure x := by intro _; rfl) : EVL X (.ListComp elt [⟨tg, iter, ifs, 0⟩] scope pos) Γ rb ((xs.filter p).map f) Γ1 := by
  intro σ H0 R0 H R E Q q
  obtain ⟨wi, hi, hit⟩ := hit
  refine eS (pe_comp (g := fun v σ H Q => ∀ C s Hh ex, semG (cxComp X scope cl C (own ++ fr) s Hh ex) tg v σ H Q) (tc := fun σ H Q => ∀ C s Hh ex, semF (cxComp X scope cl C (own ++ fr) s Hh ex) ifs σ H Q) (te := fun σ H Q => ∀ C s Hh ex, semE (cxComp X scope cl C (own ++ fr) s Hh ex) elt σ H Q) hc S hi
    (fun C s H ex => ⟨fun pins s1 σ H v u Q I r h => h C s _ ex pins s1 u I r, fun pins s1 σ H Q I h => h C s _ ex pins s1 I, fun pins s1 σ H Q I h => h C s _ ex pins s1 I⟩) hs) ?_
  refine hit σ H0 R0 H R E _ fun J H1 R1 E1 s1 hz src => comp_read E1 src hz hb hw ht he fun a vs H' R' xx ha pp => ?_
  have E2 := E1.grow xx
  exact q a vs _ R' (E2.grow (Ext.freshM E2.sub ha _)) (s1.trans xx.r) upd_same (E2.sub.free ha) (E2.ext.h.free ha) (E2.off ha) pp (by
    rw [List.length_map]; exact Nat.le_trans (List.length_filter_le _ _) hz)
theorem w_comp (i : Nat) {y : Str} {py spos : Pos} {tg elt iter : Expr} {ifs : List Expr} {scope : Scope} {pos : Pos} {cl : List (Str × Addr)} {own fr : List Str} {ix : List Nat} {ra : Rep α} {rb : Rep β} {xs : List α} {p : α → Bool} {f : α → β} {bf : α → Ga → Ga}
    (S : CompScope X scope cl own fr ix) (hit : IV X tg iter Γ ra xs Γ1)
    (hb : ∀ (C : Addr) (s : Shared) (H : Hp) (ex : List Addr), BG (cxComp X scope cl C (own ++ fr) s H ex) tg ra bf) (hw : ∀ x, Wk (bf x (cGa own ix Γ1)) (cGa own ix Γ1))
    (ht : ∀ (C : Addr) (s : Shared) (H : Hp) (ex : List Addr) x, x ∈ xs → TF (cxComp X scope cl C (own ++ fr) s H ex) ifs (bf x (cGa own ix Γ1)) (p x) (bf x (cGa own ix Γ1)))
    (he : ∀ (C : Addr) (s : Shared) (H : Hp) (ex : List Addr) x, x ∈ xs → p x = true → EV (cxComp X scope cl C (own ++ fr) s H ex) elt (bf x (cGa own ix Γ1)) rb (f x) (bf x (cGa own ix Γ1)))
    (h : N (Γ1.set i (.mu rb ((xs.filter p).map f))))
    (hsw : swapsWith (.ListComp elt [⟨tg, iter, ifs, 0⟩] scope pos) (some (.Name y py)) spos.line X.env = pure true := by rfl)
    (hN : X.N.Nodup := by first | assumption | decide) (hi' : X.N[i]? = some y := by rfl) (hx : Loc X.env.scope y := by first | exact Or.inl rfl | exact Or.inr rfl)
    (hc : X.calm = true := by rfl) (hs : ∀ x, foldedSetIterable iter X.env x = pure x := by intro _; rfl) (hf : X.fn y = true ∨ X.env.scope.names.lookup y = some .local := by first | exact .inl rfl | exact .inr rfl) :
    W1 X (.Assign [.Name y py] (.ListComp elt [⟨tg, iter, ifs, 0⟩] scope pos) spos) Γ N T := fun σ H0 R0 H R E D dn dr => by
  obtain ⟨wi, hi, hit⟩ := hit
  refine sS (ps_setcomp (i := i) (g := fun v σ H Q => ∀ C s Hh ex, semG (cxComp X scope cl C (own ++ fr) s Hh ex) tg v σ H Q) (tc := fun σ H Q => ∀ C s Hh ex, semF (cxComp X scope cl C (own ++ fr) s Hh ex) ifs σ H Q) (te := fun σ H Q => ∀ C s Hh ex, semE (cxComp X scope cl C (own ++ fr) s Hh ex) elt σ H Q) hsw hN hi' hx hc S hi
    (fun C s H ex => ⟨fun pins s1 σ H v u Q I r h => h C s _ ex pins s1 u I r, fun pins s1 σ H Q I h => h C s _ ex pins s1 I, fun pins s1 σ H Q I h => h C s _ ex pins s1 I⟩) hs hf) ?_
  refine hit σ H0 R0 H R E _ fun J H1 R1 E1 s1 hz src => comp_read (Q := fun v H' => D.nx (σ.set i (some v)) H') E1 src hz hb hw ht he fun a vs H' R' xx ha pp => ?_
  have E2 := E1.grow xx
  exact dn _ _ R' _ ((E2.grow (Ext.freshM E2.sub ha _)).setO (u := .lst vs) (en := .mu rb ((xs.filter p).map f)) i ⟨a, vs, rfl, upd_same, E2.sub.free ha, pp⟩ (E2.ext.h.free ha) fun j e _ q w => E2.off ha j e q w) (s1.trans xx.r) h
end
end Fc

set_option Elab.async false
set_option linter.all false
set_option maxRecDepth 100000
set_option maxHeartbeats 4000000
namespace Fc
open PySem PySem.Spec L2
open PyProof.Rows hiding St
section
variable {X : Cx} {Γ Γ1 Γ2 Γ3 : Ga} {α β γ δ : Type} {N : Ga → Prop} {T : RT}
theorem turnedL {pins : List (Addr × Obj)} {σ : St} {H : Hp} {s : Shared} {h' : Heap} {t' : Nat} {fp : List Addr} (I : Inv X pins σ H s) (k : ∀ b o, b ∉ fp → s.heap.get? b = some o → h'.get? b = some o) (hf : ∀ b ∈ fp, FpOk X pins H b) : Inv X pins σ H { s with heap := h', toks := t' } := by
  have nit : ∀ b u, H b = some u → b ∉ fp := fun b u e z => by rw [(hf b z).1] at e; cases e
  refine I.step (g' := s.gens) (d' := s.drawn) (ch := fp) (fun b hb => ⟨(hf b hb).2.2.2.1, (hf b hb).2.1, (hf b hb).2.2.2.2.1, (hf b hb).2.2.2.2.2⟩) (fun b o _ _ hc e _ => k b o hc e) (fun b o _ _ hc e _ => ⟨o.slots, k b o hc e⟩) (fun _ _ _ _ n => n)
    (fun b o hc e => ⟨o, k b o hc e⟩) (fun _ _ e => e) (fun _ _ _ e => e) (fun b ps e => ⟨#[], by rw [e]; simp⟩) (fun m hm => ?_) (fun b u e => ?_) I.bare
  · obtain ⟨o, es, ep, ho, r⟩ := hm
    exact ⟨o, es, ep, k _ o (fun z => (hf _ z).2.1 rfl) ho, r⟩
  · refine (I.hok b u e).stay (fun c v hc q => k c v ?_ q) (fun _ q => q) fun _ _ q => q
    rcases hc with z | z
    · rw [z]; exact nit b u e
    · exact nit c _ z
theorem adopt {pins : List (Addr × Obj)} {σ : St} {H : Hp} {s : Shared} {a : Addr} {o : HO} (I : Inv X pins σ H s) (hf : FpOk X pins H a) (hy : X.s₀.heap.objs.size ≤ a) (new : ObjOk X.prog X.w (upd H a o) s.heap a o) : Inv X pins σ (upd H a o) s := by
  have ne : ∀ {b : Addr} {u : HO}, H b = some u → b ≠ a := fun e => ne_of_none e hf.1
  have ne0 : ∀ {b : Addr} {u : Obj}, X.s₀.heap.get? b = some u → b ≠ a := fun e z => absurd (Nat.lt_of_lt_of_le (Heap.lt_size e) hy) (by rw [z]; exact Nat.lt_irrefl _)
  refine ⟨I.ok, I.os, I.bare, ⟨I.base.keep, I.base.slot, fun b u e n hx => by rw [upd_ne (ne0 e)]; exact I.base.free b u e n hx, I.base.there, fun b xs e => ?_, fun b u v e => ?_, fun b ps e => ?_⟩, I.loc, I.cell, ?_, fun x c e => ?_, fun p hp => ?_, fun b u e => ?_, I.len⟩
  · have q := I.base.tups b xs e; rw [upd_ne (ne q)]; exact q
  · have q := I.base.frzs b u v e; rw [upd_ne (ne q)]; exact q
  · obtain ⟨m, q⟩ := I.base.tbls b ps e; exact ⟨m, by rw [upd_ne (ne q)]; exact q⟩
  · rw [upd_ne (Ne.symm hf.2.1)]; exact I.free
  · rw [upd_ne (hf.2.2.2.2.1 x c e)]; exact I.freeC x c e
  · obtain ⟨e, n, r⟩ := I.pin p hp
    exact ⟨e, by rw [upd_ne (hf.2.2.2.2.2 p hp)]; exact n, r⟩
  · by_cases hb : b = a
    · subst hb; rw [upd_same] at e; cases e; exact new
    · rw [upd_ne hb] at e
      exact (I.hok b u e).stay (fun c v _ q => q) (fun c q => by rw [upd_ne (ne q)]; exact q) fun c xs q => by rw [upd_ne (ne q)]; exact q
def Ite (K : PySem.W.Frag) (a : Addr) : It :=
  ⟨fun i H => ∃ xs x, SqL K H a xs ∧ xs[i]? = some x, fun i H v H' => ∃ p x, H p = none ∧ v = .ref p ∧ H' = upd H p (.tup [.int i, x]) ∧ ∀ xs, SqL K H a xs → xs[i]? = some x, fun i H => ∃ xs, SqL K H a xs ∧ xs.length ≤ i⟩
theorem turn_enum {P : Program} {w : World} {K : PySem.W.Frag} {es : List Expr} {k : Nat} {tp : Pos} (a e it : Addr) (hei : e ≠ it) : Turn P w K (.Tuple es k tp) (Ite K a) [e, it] e (fun i h => (∃ old, IsEnum h e it i old) ∧ h.IsListIter it a i) where
  mem := by simp
  obj := fun i h st b hb => by
    obtain ⟨⟨old, he⟩, o, ho, hc, hd⟩ := st
    rcases List.mem_cons.mp hb with rfl | hb
    · exact ⟨_, he, fun v z => by cases z⟩
    · have e2 : b = it := by simpa using hb
      subst e2
      exact ⟨o, ho, fun v z => by rw [hd] at z; cases z⟩
  keep := fun i h h' st kk => ⟨st.1.elim fun old he => ⟨old, kk e (by simp) _ he⟩, st.2.at fun o x => kk it (by simp) o x⟩
  item := by
    intro X hP hw hK hc i pins s σ H E I hf st hg
    subst hP hw hK
    obtain ⟨⟨old, he⟩, hit⟩ := st
    obtain ⟨xs, x, hq, hx⟩ := hg
    obtain ⟨its, r, pl, hz⟩ := I.list hq
    obtain ⟨u, hu, rx⟩ := r.get hx
    have hn : H s.heap.objs.size = none := I.hok.fresh (Nat.le_refl _)
    refine wpAny_pyNext_enum_item he hit pl.isList (x := u) (by simpa using hu) hei fun h' ho hit' hT hsz hk => ?_
    refine ⟨_, rfl, ?_⟩
    refine wpAny_letOwnedTupleGo_enum (s := { s with heap := h', toks := s.toks + 1 }) ho fun h2 he2 hs2 => ?_
    have hk2 : ∀ b o, b ∉ [e, it] → s.heap.get? b = some o → h2.get? b = some o := fun b o hb q => by
      have hbe : b ≠ e := fun z => hb (by simp [z])
      exact hs2.extBut b o hbe (hk b o hbe (fun z => hb (by simp [z])) q)
    have I1 : Inv X pins σ H { s with heap := h2, toks := s.toks + 1 } := turnedL I hk2 hf
    have hel : e ≠ s.heap.objs.size := Nat.ne_of_lt (Heap.lt_size he)
    have hT2 : h2.get? s.heap.objs.size = some { cls := .type "tuple", data := .seq #[.int i s.toks, u] } := (hs2.2 _ (Ne.symm hel)).trans hT
    have I2 : Inv X pins σ (upd H s.heap.objs.size (.tup [.int i, x])) { s with heap := h2, toks := s.toks + 1 } :=
      adopt I1 (I.fpOk (Nat.le_refl _) hn) (I.sz) ⟨by show 2 ≤ sizeLine; decide, [.int i s.toks, u], .cons ⟨_, rfl⟩ (.cons rx .nil), ⟨_, hT2, rfl, _, rfl⟩⟩
    refine ⟨.ref s.heap.objs.size, _, I2, rfl, ⟨s.heap.objs.size, x, hn, rfl, rfl, fun ys hy => ?_⟩, ⟨⟨u, by simpa using he2⟩, hit'.at fun o y => (hs2.2 it (Ne.symm hei)).trans y⟩, fun b hb => ?_⟩
    · rw [I.list_inj hy hq]; exact hx
    · have hlt : b < s.heap.objs.size := by
        rcases List.mem_cons.mp hb with rfl | hb
        · exact Heap.lt_size he
        · have e2 : b = it := by simpa using hb
          subst e2
          obtain ⟨o, ho, _⟩ := hit
          exact Heap.lt_size ho
      rw [upd_ne (Nat.ne_of_lt hlt)]
      exact (hf b hb).1
  done := by
    intro X hP hw hK hc i pins s σ H E I hf st hg
    subst hP hw hK
    obtain ⟨⟨old, he⟩, hit⟩ := st
    obtain ⟨xs, hq, hx⟩ := hg
    obtain ⟨its, r, pl, hz⟩ := I.list hq
    refine wpAny_pyNext_enum_end (I.ok.hd hc) he hit pl.isList (by have := r.length; simp; omega) fun h' hk => ⟨rfl, ?_⟩
    exact turnedL (t' := s.toks) I (fun b o hb q => hk b o (fun z => hb (by simp [z])) q) hf
  self := fun _ _ _ _ _ st h => st.1.elim fun old he => wpAny_pyIter_enum he h
def iEnum (K : PySem.W.Frag) (ta : TA) : TI := fun σ H R => ta σ H fun vs H1 => ∃ a xs, vs = [.ref a] ∧ SqL K H1 a xs ∧ R (Ite K a) H1
theorem pi_enum {a : Expr} {ta : TA} {p pos : Pos} {es : List Expr} {k : Nat} {tp : Pos} (hg : Gl X "enumerate") (hm : X.mg "enumerate" = none) (ha : PA X [a] ta) (hs : starEach [a] X.env = [(false, eval a X.env)] := by rfl) : PI X (.Tuple es k tp) (.Call (.Name "enumerate" p) [a] [] pos) (iEnum X.K ta) := by
  intro pins s σ H R I h
  refine Call_ (ld_blt I hg hm boot_enumerate (PyProof.Rows.callWith_type1 (thn (ha pos pins s σ H _ I h) fun us s1 ⟨vs, H1, I1, r1, q1⟩ => ?_) hs rfl))
  obtain ⟨l, xs, e, hq, q⟩ := q1
  subst e
  cases r1 with
  | cons r rr =>
    cases rr
    cases r
    obtain ⟨its, r', pl, hz⟩ := I1.list hq
    refine call_enumerate_list pl.isList fun h' he hit hsz hk => ?_
    refine wpAny_pyIter_enum he ?_
    have I2 : Inv X pins σ H1 { s1 with heap := h' } := I1.kept (t' := s1.toks) hk
    have f0 : H1 s1.heap.objs.size = none := I1.hok.fresh (Nat.le_refl _)
    have f1 : H1 (s1.heap.objs.size + 1) = none := I1.hok.fresh (Nat.le_succ _)
    refine ⟨s1.heap.objs.size + 1, [s1.heap.objs.size + 1, s1.heap.objs.size], _, _, H1, rfl, I2, turn_enum l (s1.heap.objs.size + 1) s1.heap.objs.size (Nat.ne_of_gt (Nat.lt_succ_self _)), ⟨⟨.none, he⟩, hit⟩, fun b hb => ?_, q⟩
    rcases List.mem_cons.mp hb with rfl | hb
    · exact I1.fpOk (Nat.le_succ _) f1
    · have e2 : b = s1.heap.objs.size := by simpa using hb
      subst e2
      exact I1.fpOk (Nat.le_refl _) f0
def nums (xs : List α) : List (Int × α) := (xs.zipIdx).map fun p => ((p.2 : Int), p.1)
theorem nums_length (xs : List α) : (nums xs).length = xs.length := by unfold nums; rw [List.length_map, List.length_zipIdx]
theorem nums_at {xs : List α} {i : Nat} {y : Int × α} (h : (nums xs)[i]? = some y) : y.1 = (i : Int) ∧ xs[i]? = some y.2 := by
  unfold nums at h
  rw [List.getElem?_map, List.getElem?_zipIdx] at h
  cases e : xs[i]? with
  | none => rw [e] at h; cases h
  | some x => rw [e] at h; cases h; exact ⟨by simp, rfl⟩
theorem iv_enum {a : Expr} {p pos : Pos} {es : List Expr} {k : Nat} {tp : Pos} {r : Rep α} {xs : List α} (hm : X.mg "enumerate" = none) (ha : EV X a Γ (rList r) xs Γ1) (hs : starEach [a] X.env = [(false, eval a X.env)] := by rfl) (hg : Gl X "enumerate" := by rfl) :
    IV X (.Tuple es k tp) (.Call (.Name "enumerate" p) [a] [] pos) Γ (rPair rInt r) (nums xs) Γ1 := by
  refine ⟨_, pi_enum hg hm (pa_cons peS pa_nil hs) hs, fun σ H0 R0 H R E Rq q => ha σ H0 R0 H R E _ fun v H1 R1 E1 s1 e1 => ?_⟩
  obtain ⟨a, vs, rfl, hp, pp, z⟩ := e1
  refine ⟨a, vs, rfl, SqL.of (E1.sub _ _ hp), q _ H1 R1 E1 s1 (by rw [nums_length]; exact z) fun H' R' sR sH i => ⟨fun y hy => ?_, fun hi => ?_⟩⟩
  · have hq : SqL X.K H' a vs := SqL.of (sH _ _ (sR _ _ hp))
    obtain ⟨e1, e2⟩ := nums_at hy
    obtain ⟨v, hv, hr⟩ := paired_at pp e2
    refine ⟨⟨vs, v, hq, hv⟩, fun v' H2 hyl => ?_⟩
    obtain ⟨p, x, hpn, rfl, rfl, hy⟩ := hyl
    have := hy vs hq
    rw [hv] at this
    cases this
    have s2 : Same R' (upd R' p (.tup [.int i, v])) := Same.fresh (sH.free hpn) _
    exact ⟨upd R' p (.tup [.int i, v]), Ext.fresh sH hpn _, p, _, _, rfl, upd_same, by rw [e1]; rfl, r.mono s2 (r.mono sR hr)⟩
  · exact ⟨vs, SqL.of (sH _ _ (sR _ _ hp)), by rw [pp.length, ← nums_length xs]; exact hi⟩
theorem call_isinst : CallR X (.builtin "isinstance") (fun xs H Q => ∃ x c t b, xs = [x, .ty c] ∧ TyOf X.K H x t ∧ PySem.W.kitOne X.K t (.type c) = some b ∧ Q (.bl b) H) := by
  intro pins s σ H xs us Q I r h
  obtain ⟨x, c, t, b, rfl, ty, e, q⟩ := h
  obtain ⟨u, u2, rfl, r1, r2⟩ := vals2 r
  cases (show u2 = Value.type c from r2)
  exact isinst_ok I r1 ty e fun tk => ⟨.bl b, H, I.tok tk, rfl, q⟩
theorem ev_isinst {e : Expr} {y : Str} {p p2 pos : Pos} {r : Rep α} {x : α} {c : String} {t : Value} {b : Bool} (hm : X.mg "isinstance" = none) (hmy : X.mg y = none) (hvy : bootBuiltins y = some (.type c)) (he : EV X e Γ r x Γ1)
    (ty : ∀ (R H : Hp) v, Same R H → r.R X.K R v x → TyOf X.K H v t) (ht : ∀ K : PySem.W.Frag, PySem.W.kitOne K t (.type c) = some b := by intro; rfl)
    (hs : starEach [e, .Name y p2] X.env = (false, eval e X.env) :: starEach [.Name y p2] X.env := by rfl) (hg : Gl X "isinstance" := by rfl) (hgy : Gl X y := by rfl) (hny : y ≠ "__name__" := by decide) (hdy : (y == ("__debug__" : Str)) = false := by decide) : EV X (.Call (.Name "isinstance" p) [e, .Name y p2] [] pos) Γ rBool b Γ1 := by
  intro σ H0 R0 H R E Q q
  refine eS (pe_callB call_isinst hg hm PyProof.Rows.boot_isinstance (pa_cons peS (pa_cons (pe_bltn (v := .ty c) hgy hmy hvy rfl hny hdy) pa_nil rfl) hs) (by decide) (by decide) hs rfl) (he σ H0 R0 H R E _ fun v H1 R1 E1 s1 e1 => ?_)
  exact ⟨v, c, t, b, rfl, ty R1 H1 v E1.sub e1, ht _, q _ H1 R1 E1 s1 rfl⟩
theorem ty_int {K : PySem.W.Frag} {x : Int} (R H : Hp) (v : V) (_ : Same R H) (h : rInt.R K R v x) : TyOf K H v (.type "int") := by cases h; exact .int _
theorem ty_list {K : PySem.W.Frag} {r : Rep α} {xs : List α} (R H : Hp) (v : V) (s : Same R H) (h : (rList r).R K R v xs) : TyOf K H v (.type "list") := by obtain ⟨a, vs, rfl, e, _⟩ := h; exact .lst (s _ _ e)
theorem ty_pair {K : PySem.W.Frag} {r : Rep α} {r' : Rep β} {x : α × β} (R H : Hp) (v : V) (s : Same R H) (h : (rPair r r').R K R v x) : TyOf K H v (.type "tuple") := by obtain ⟨a, _, _, rfl, e, _⟩ := h; exact .tup (s _ _ e)
theorem ty_row {K : PySem.W.Frag} {x : Row} (R H : Hp) (v : V) (s : Same R H) (h : rRow.R K R v x) : TyOf K H v (.type "tuple") := by obtain ⟨a, rfl, e⟩ := h; exact .tup (s _ _ e)
structure EqRep (r : Rep α) [DecidableEq α] (n : Nat) : Prop where
  inj : ∀ {K : PySem.W.Frag} {R : Hp} {v : V} {x y : α}, r.R K R v x → r.R K R v y → x = y
  eq : ∀ {X : Cx} {pins : List (Addr × Obj)} {σ : St} {H : Hp} {s : Shared} {R : Hp} {A : Around} (I : Inv X pins σ H s) (sub : Same R H) {v u : V} {vv uu : Value} {x y : α}, RelV v vv → RelV u uu → r.R X.K R v x → r.R X.K R u y → A.units + n < cLine → SeqAt.EqAt A s vv uu (decide (x = y))
theorem eq_int : EqRep rInt 0 := by
  refine ⟨by rintro K R v x y h1 h2; cases h1; cases h2; rfl, ?_⟩
  intro X pins σ H s R A I sub v u vv uu x y rv ru h1 h2 hu
  cases h1
  cases h2
  obtain ⟨t, rfl⟩ := rv
  obtain ⟨t', rfl⟩ := ru
  intro prog w E Q hq
  refine wpAny_eqBool_int ?_
  rw [Bool.beq_eq_decide_eq]; exact hq
theorem in1_units (A : Around) : A.in1.units = A.units + 1 := rfl
theorem all_pairs {A : Around} {s : Shared} {r : Rep α} [DecidableEq α] {n : Nat} (e : EqRep r n) {X : Cx} {pins : List (Addr × Obj)} {σ : St} {H R : Hp} (I : Inv X pins σ H s) (sub : Same R H) (hu : A.units + n < cLine) :
    ∀ {vs ws : List V} {us us' : List Value} {xs ys : List α}, Vals vs us → Vals ws us' → PySem.Paired (r.R X.K R) vs xs → PySem.Paired (r.R X.K R) ws ys → ∀ (j : Nat) (h1 : j < us.toArray.size) (h2 : j < us'.toArray.size), SeqAt.EqAt A s us.toArray[j] us'.toArray[j] (decide (xs[j]? = ys[j]?)) := by
  intro vs ws us us' xs ys hv hw px py j h1 h2
  have h1' : j < us.length := by simpa using h1
  have h2' : j < us'.length := by simpa using h2
  have l1 : j < vs.length := by rw [hv.length]; exact h1'
  have l2 : j < ws.length := by rw [hw.length]; exact h2'
  obtain ⟨u, e1, r1⟩ := hv.get (List.getElem?_eq_getElem l1)
  obtain ⟨u', e2, r2⟩ := hw.get (List.getElem?_eq_getElem l2)
  obtain ⟨x, e3, q1⟩ := paired_at' px (List.getElem?_eq_getElem l1)
  obtain ⟨y, e4, q2⟩ := paired_at' py (List.getElem?_eq_getElem l2)
  rw [List.getElem?_eq_getElem h1'] at e1
  rw [List.getElem?_eq_getElem h2'] at e2
  have e1 := Option.some.inj e1
  have e2 := Option.some.inj e2
  have key := e.eq (A := A) I sub r1 r2 q1 q2 hu
  have d : decide (xs[j]? = ys[j]?) = decide (x = y) := by rw [e3, e4]; simp
  rw [d]
  simp only [List.getElem_toArray]
  rw [e1, e2]
  exact key
theorem all_eq [DecidableEq α] {xs ys : List α} (h : xs.length = ys.length) : ((List.range xs.length).all fun j => decide (xs[j]? = ys[j]?)) = decide (xs = ys) := by
  rw [Bool.eq_iff_iff, List.all_eq_true]
  simp only [List.mem_range, decide_eq_true_eq]
  constructor
  · intro hh
    refine List.ext_getElem? fun i => ?_
    by_cases hi : i < xs.length
    · exact hh i hi
    · have a1 : xs[i]? = none := List.getElem?_eq_none (by omega)
      have a2 : ys[i]? = none := List.getElem?_eq_none (by omega)
      rw [a1, a2]
  · rintro rfl j _; rfl
theorem paired_inj {F : α → β → Prop} (inj : ∀ v x y, F v x → F v y → x = y) : ∀ {vs : List α} {xs ys : List β}, PySem.Paired F vs xs → PySem.Paired F vs ys → xs = ys
  | _, _, _, .nil, .nil => rfl
  | _, _, _, .cons h t, .cons h' t' => by rw [inj _ _ _ h h', paired_inj inj t t']
theorem rc_list {r : Rep α} [DecidableEq α] {n : Nat} (e : EqRep r n) {X : Cx} {pins : List (Addr × Obj)} {σ : St} {H : Hp} {s : Shared} {R : Hp} {A : Around} (I : Inv X pins σ H s) (sub : Same R H) {a b : Addr} {vs ws : List V} {xs ys : List α} (ha : R a = some (.lst vs)) (hb : R b = some (.lst ws)) (px : PySem.Paired (r.R X.K R) vs xs) (py : PySem.Paired (r.R X.K R) ws ys) (hu : A.units + (n + 1) < cLine) :
    SeqAt.RcAt A s (.ref a) (.ref b) (decide (xs = ys)) ∧ SeqAt.RcNeAt A s (.ref a) (.ref b) (!decide (xs = ys)) := by
  obtain ⟨us, hv, pl, _⟩ := I.list (SqL.of (sub _ _ ha))
  obtain ⟨us', hw, pl', _⟩ := I.list (SqL.of (sub _ _ hb))
  have lx : us.toArray.size = xs.length := by rw [List.size_toArray, ← hv.length, px.length]
  have ly : us'.toArray.size = ys.length := by rw [List.size_toArray, ← hw.length, py.length]
  by_cases hl : xs.length = ys.length
  · have he := all_pairs (A := A.in1) e I sub (by rw [in1_units]; omega) hv hw px py
    have r1 := SeqAt.RcAt.lists pl.isList pl'.isList (lx.trans (hl.trans ly.symm)) (by omega) he
    have r2 := SeqAt.RcNeAt.lists pl.isList pl'.isList (lx.trans (hl.trans ly.symm)) (by omega) he
    rw [lx, all_eq hl] at r1 r2
    exact ⟨r1, r2⟩
  · have hne : (us.toArray.size != us'.toArray.size) = true := by rw [lx, ly]; simpa using hl
    have d : decide (xs = ys) = false := decide_eq_false fun z => hl (by rw [z])
    rw [d]
    exact ⟨SeqAt.RcAt.lists_lengths pl.isList pl'.isList hne (by omega), SeqAt.RcNeAt.lists_lengths pl.isList pl'.isList hne (by omega)⟩
theorem eq_list {r : Rep α} [DecidableEq α] {n : Nat} (e : EqRep r n) : EqRep (rList r) (n + 1) := by
  have inj : ∀ {K : PySem.W.Frag} {R : Hp} {v : V} {x y : List α}, (rList r).R K R v x → (rList r).R K R v y → x = y := by
    rintro K R v x y ⟨a, vs, rfl, h, p, _⟩ ⟨a', vs', e1, h', p', _⟩
    cases e1
    rw [h] at h'
    cases h'
    exact paired_inj (F := r.R K R) (fun _ _ _ h1 h2 => e.inj h1 h2) p p'
  refine ⟨inj, ?_⟩
  intro X pins σ H s R A I sub v u vv uu x y rv ru h1 h2 hu
  have h1' := h1
  have h2' := h2
  obtain ⟨a, vs, rfl, ha, px, _⟩ := h1
  obtain ⟨b, ws, rfl, hb, py, _⟩ := h2
  cases rv
  cases ru
  by_cases hab : a = b
  · subst hab
    rw [decide_eq_true (inj h1' h2')]
    exact SeqAt.EqAt.same _
  · exact SeqAt.EqAt.of_refs hab (rc_list e I sub ha hb px py hu).1
theorem rc_tup {X : Cx} {pins : List (Addr × Obj)} {σ : St} {H : Hp} {s : Shared} {R : Hp} {A : Around} (I : Inv X pins σ H s) (sub : Same R H) {a b : Addr} {vs ws : List V} {k : Nat → Bool} (ha : R a = some (.tup vs)) (hb : R b = some (.tup ws)) (hl : vs.length = ws.length) (hu : A.units < cLine)
    (he : ∀ (us us' : List Value), Vals vs us → Vals ws us' → ∀ (j : Nat) (h1 : j < us.toArray.size) (h2 : j < us'.toArray.size), SeqAt.EqAt A.in1 s us.toArray[j] us'.toArray[j] (k j)) :
    SeqAt.RcAt A s (.ref a) (.ref b) ((List.range vs.length).all k) ∧ SeqAt.RcNeAt A s (.ref a) (.ref b) (!(List.range vs.length).all k) := by
  obtain ⟨us, hv, pl, _⟩ := I.tuple (SqT.of (sub _ _ ha))
  obtain ⟨us', hw, pl', _⟩ := I.tuple (SqT.of (sub _ _ hb))
  have lx : us.toArray.size = vs.length := by rw [List.size_toArray, ← hv.length]
  have ly : us'.toArray.size = vs.length := by rw [List.size_toArray, ← hw.length, hl]
  have r1 := SeqAt.RcAt.tuples (A := A) pl pl' hu (he us us' hv hw)
  have r2 := SeqAt.RcNeAt.tuples (A := A) pl pl' hu (he us us' hv hw)
  rw [lx, ly, Nat.min_self] at r1 r2
  simp only [beq_self_eq_true, Bool.and_true] at r1 r2
  exact ⟨r1, r2⟩
theorem rc_row {X : Cx} {pins : List (Addr × Obj)} {σ : St} {H : Hp} {s : Shared} {R : Hp} {A : Around} (I : Inv X pins σ H s) (sub : Same R H) {a b : Addr} {x y : Row} (ha : R a = some (.tup [.int x.1, .int x.2.1, .int x.2.2.1, .int x.2.2.2])) (hb : R b = some (.tup [.int y.1, .int y.2.1, .int y.2.2.1, .int y.2.2.2])) (hu : A.units + 1 < cLine) :
    SeqAt.RcAt A s (.ref a) (.ref b) (decide (x = y)) := by
  have aints : ∀ ys : List Int, PySem.Paired (rInt.R X.K R) (ys.map V.int) ys := fun ys => by
    induction ys with
    | nil => exact .nil
    | cons y r ih => exact .cons rfl ih
  have r1 := (rc_tup (A := A) I sub ha hb rfl (by omega) fun us us' hv hw => all_pairs (A := A.in1) eq_int I sub (by rw [in1_units]; omega) hv hw (aints [x.1, x.2.1, x.2.2.1, x.2.2.2]) (aints [y.1, y.2.1, y.2.2.1, y.2.2.2])).1
  have e1 := all_eq (xs := [x.1, x.2.1, x.2.2.1, x.2.2.2]) (ys := [y.1, y.2.1, y.2.2.1, y.2.2.2]) rfl
  have e2 : decide ([x.1, x.2.1, x.2.2.1, x.2.2.2] = [y.1, y.2.1, y.2.2.1, y.2.2.2]) = decide (x = y) := by
    obtain ⟨a1, a2, a3, a4⟩ := x
    obtain ⟨b1, b2, b3, b4⟩ := y
    simp
  rw [e2] at e1
  rw [← e1]
  exact r1
theorem eq_row : EqRep rRow 1 := by
  have inj : ∀ {K : PySem.W.Frag} {R : Hp} {v : V} {x y : Row}, rRow.R K R v x → rRow.R K R v y → x = y := by
    rintro K R v x y ⟨a, rfl, h⟩ ⟨a', e1, h'⟩
    cases e1
    rw [h] at h'
    obtain ⟨a1, a2, a3, a4⟩ := x
    obtain ⟨b1, b2, b3, b4⟩ := y
    simp at h'
    simp [h']
  refine ⟨inj, ?_⟩
  intro X pins σ H s R A I sub v u vv uu x y rv ru h1 h2 hu
  have h1' := h1
  have h2' := h2
  obtain ⟨a, rfl, ha⟩ := h1
  obtain ⟨b, rfl, hb⟩ := h2
  cases rv
  cases ru
  by_cases hab : a = b
  · subst hab
    rw [decide_eq_true (inj h1' h2')]
    exact SeqAt.EqAt.same _
  · exact SeqAt.EqAt.of_refs hab (rc_row I sub ha hb hu)
theorem c_neL {r : Rep α} [DecidableEq α] {n : Nat} (e : EqRep r n) (hu : X.A.units + (n + 1) < cLine) {xs ys : List α} : Cmp X .NotEq (rList r) (rList r) xs ys (!decide (xs = ys)) :=
  ⟨fun v u H Q => ∃ R, Same R H ∧ ∃ xs ys, (rList r).R X.K R v xs ∧ (rList r).R X.K R u ys ∧ Q (.bl (!decide (xs = ys))) H, fun pins s σ H x y v u Q I rx ry ⟨R, sub, xs, ys, h1, h2, q⟩ => by
    obtain ⟨a, vs, rfl, ha, px, _⟩ := h1
    obtain ⟨b, ws, rfl, hb, py, _⟩ := h2
    cases rx
    cases ry
    exact (rc_list (A := X.A) e I sub ha hb px py hu).2 _ _ _ _ ⟨.bl _, H, I, rfl, q⟩, fun R H v u Q s h1 h2 q => ⟨R, s, xs, ys, h1, h2, q⟩⟩
end
end Fc

set_option Elab.async false
set_option linter.all false
set_option maxRecDepth 100000
set_option maxHeartbeats 4000000
namespace Fc
open PySem PySem.Spec L2
open PyProof.Rows hiding St
def clOf (scope : Scope) (env : Env) : List (Str × Addr) := (scope.names.filterMap fun p => if p.2 == .free then (env.cells.lookup p.1).map (fun c => (p.1, c)) else none).reverse
theorem closure_is {env : Env} : ∀ (names : List (Str × NameKind)) (acc : List (Str × Addr)), (∀ y ∈ names, y.2 = .free → ∃ c, env.cells.lookup y.1 = some c) →
    (forIn names acc fun (x : Str × NameKind) (r : List (Str × Addr)) => if (x.2 == NameKind.free) = true then do let a ← cellOf env x.1; pure (ForInStep.yield ((x.1, a) :: r)) else pure (ForInStep.yield r) : Sem (List (Str × Addr)))
      = pure ((names.filterMap fun p => if p.2 == .free then (env.cells.lookup p.1).map (fun c => (p.1, c)) else none).reverse ++ acc)
  | [], acc, _ => rfl
  | (n, k) :: r, acc, h => by
    have ih := closure_is (env := env) r
    rw [List.forIn_cons, List.filterMap_cons]
    cases hk : (k == NameKind.free) with
    | false =>
      simp only [hk, Bool.false_eq_true, if_false]
      rw [pure_bind]
      exact ih acc fun y hy => h y (List.mem_cons_of_mem _ hy)
    | true =>
      obtain ⟨c, hc⟩ := h (n, k) List.mem_cons_self (eq_of_beq hk)
      have hcell : cellOf env n = pure c := by unfold cellOf; rw [hc]
      simp only [hk, if_true, hc, Option.map_some, hcell]
      rw [pure_bind, pure_bind]
      show forIn r ((n, c) :: acc) _ = _
      rw [ih ((n, c) :: acc) fun y hy => h y (List.mem_cons_of_mem _ hy)]
      simp
theorem comp_scope {X : Cx} {scope : Scope} {own fr : List Str} {ix : List Nat} (hk : scope.kind = .function) (hn : ∀ y ∈ scope.names, y.2 ≠ .cell) (hl : ∀ y ∈ scope.names, y.2 = .local → scope.names.lookup y.1 = some .local)
    (hc : ∀ x, X.env.scope.names.lookup x = some .cell → ∃ c, X.env.cells.lookup x = some c) (hf : ∀ y ∈ scope.names, y.2 = .free → X.env.scope.names.lookup y.1 = some .cell)
    (hfr : ∀ x ∈ fr, scope.names.lookup x = some .free) (hlen : fr.length = ix.length) (hat : ∀ (k i : Nat) (x : Str), ix[k]? = some i → fr[k]? = some x → X.N[i]? = some x) : CompScope X scope (clOf scope X.env) own fr ix := by
  have free : ∀ y ∈ scope.names, y.2 = .free → ∃ c, X.env.cells.lookup y.1 = some c := fun y hy e => hc _ (hf y hy e)
  refine ⟨?_, fun x c e => ?_, hk, hn, hl, fun x e => ?_, hfr, hlen, fun k i x e1 e2 => ⟨hat k i x e1 e2, hf (x, .free) (PySem.mem_of_lookup (hfr x (List.mem_of_getElem? e2))) rfl⟩⟩
  · have := closure_is (env := X.env) scope.names [] free
    rw [List.append_nil] at this
    have e : closureFor scope X.env = ((forIn scope.names [] fun (x : Str × NameKind) (r : List (Str × Addr)) => if (x.2 == NameKind.free) = true then do let a ← cellOf X.env x.1; pure (ForInStep.yield ((x.1, a) :: r)) else pure (ForInStep.yield r) : Sem (List (Str × Addr))) >>= fun cs => pure cs) := rfl
    rw [e, this, pure_bind]
    rfl
  · have m := PySem.mem_of_lookup e
    unfold clOf at m
    obtain ⟨p, _, hp⟩ := List.mem_filterMap.mp (List.mem_reverse.mp m)
    split at hp
    · cases q : X.env.cells.lookup p.1 with
      | none => rw [q] at hp; cases hp
      | some c' => rw [q] at hp; cases hp; exact q
    · cases hp
  · have m := PySem.mem_of_lookup e
    obtain ⟨c, hcc⟩ := free _ m rfl
    have m2 : (x, c) ∈ clOf scope X.env := by
      unfold clOf
      refine List.mem_reverse.mpr (List.mem_filterMap.mpr ⟨(x, .free), m, ?_⟩)
      simp [hcc]
    cases q : (clOf scope X.env).lookup x with
    | some c' => exact ⟨c', rfl⟩
    | none =>
      rw [List.lookup_eq_none_iff] at q
      exact absurd (q _ m2) (by simp)
def compOk (scope so : Scope) (N0 fr : List Str) (ix : List Nat) : Bool :=
  decide (scope.kind = .function) && scope.names.all (fun y => decide (y.2 ≠ .cell) && (decide (y.2 ≠ .local) || decide (scope.names.lookup y.1 = some .local)) && (decide (y.2 ≠ .free) || decide (so.names.lookup y.1 = some .cell)))
    && fr.all (fun x => decide (scope.names.lookup x = some .free)) && decide (fr.length = ix.length) && (List.range ix.length).all fun k => match ix[k]?, fr[k]? with | some i, some x => decide (N0[i]? = some x) | _, _ => true
theorem comp_mk {X : Cx} {scope so : Scope} {N0 own fr : List Str} {ix : List Nat} (hso : X.env.scope = so) (hN0 : X.N = N0) (hc : ∀ x, X.env.scope.names.lookup x = some .cell → ∃ c, X.env.cells.lookup x = some c) (h : compOk scope so N0 fr ix = true) : CompScope X scope (clOf scope X.env) own fr ix := by
  unfold compOk at h
  simp only [Bool.and_eq_true, Bool.or_eq_true, decide_eq_true_eq, List.all_eq_true] at h
  obtain ⟨⟨⟨⟨h1, h2⟩, h3⟩, h4⟩, h5⟩ := h
  refine comp_scope h1 (fun y hy => (h2 y hy).1.1) (fun y hy e => (h2 y hy).1.2.resolve_left fun z => z e) hc (fun y hy e => by rw [hso]; exact (h2 y hy).2.resolve_left fun z => z e) h3 h4 fun k i x e1 e2 => ?_
  have hk : k < ix.length := (List.getElem?_eq_some_iff.mp e1).1
  have := h5 k (List.mem_range.mpr hk)
  rw [e1, e2] at this
  rw [hN0]
  simpa using this
section
variable {X : Cx} {Γ Γ1 Γ2 Γ3 : Ga} {α β γ δ : Type} {N : Ga → Prop} {T : RT}
theorem w_callP (i : Nat) {S : SpD} {x y : Str} {k : Nat} {e : Expr} {es : List Expr} {p p1 p2 pos : Pos} {ps : List Pk} {r : Rep α} {Pd : α → Prop} (C : Cal X.prog X.w X.K X.mg X.base x k (spG S X.K)) (hr : Room k X.A) (ha : HA X (e :: es) Γ ps Γ1) (hS : S X.K ps (rtP X.K r Pd)) (h : ∀ z, Pd z → N (Γ1.set i (.im r z)))
    (hg : Gl X x := by rfl) (hdb : (x == ("__debug__" : Str)) = false := by decide) (he : starEach (e :: es) X.env = (false, eval e X.env) :: starEach es X.env := by rfl) (hpl : (backTo p2 (starEach es X.env)).any (·.1) = false := by rfl)
    (hN : X.N.Nodup := by first | assumption | decide) (hi : X.N[i]? = some y := by rfl) (hx : Loc X.env.scope y := by first | exact Or.inl rfl | exact Or.inr rfl)
    (hs : swapsWith (.Call (.Name x p) (e :: es) [] p2) (some (.Name y p1)) pos.line X.env = pure false := by rfl) (hf : X.fn y = true ∨ X.env.scope.names.lookup y = some .local := by first | exact .inl rfl | exact .inr rfl) :
    W1 X (.Assign [.Name y p1] (.Call (.Name x p) (e :: es) [] p2) pos) Γ N T := fun σ H0 R0 H R E D dn dr =>
  sS (ps_set hN hi hx peS hs hf) (ev_callT C hr ha hS E (fun H1 R1 v H' R' E1 s1 xx t => by
    obtain ⟨z, e1, hz⟩ := t
    exact dn _ H' R' _ ((E1.grow xx).set i e1) (s1.trans xx.r) (h z hz)) hg hdb he hpl)
theorem iv_row {tg iter : Expr} {w : Row} (h : EV X iter Γ rRow w Γ1) : IV X tg iter Γ rInt [w.1, w.2.1, w.2.2.1, w.2.2.2] Γ1 := by
  refine ⟨_, pi_tup peS, fun σ H0 R0 H R E Rq q => h σ H0 R0 H R E _ fun v H1 R1 E1 s1 e1 => ?_⟩
  obtain ⟨a, rfl, ha⟩ := e1
  have hq0 : ∀ H' R' : Hp, Same R1 R' → Same R' H' → SqT X.K H' a [.int w.1, .int w.2.1, .int w.2.2.1, .int w.2.2.2] := fun H' R' sR sH => SqT.of (sH _ _ (sR _ _ ha))
  refine ⟨a, rfl, ⟨_, hq0 H1 R1 (Same.refl _) E1.sub⟩, q _ H1 R1 E1 s1 (by show 4 ≤ sizeLine; decide) fun H' R' sR sH i => ⟨fun x hx => ?_, fun hi => ⟨_, hq0 H' R' sR sH, hi⟩⟩⟩
  have e2 : ([.int w.1, .int w.2.1, .int w.2.2.1, .int w.2.2.2] : List V)[i]? = some (.int x) := by
    have := congrArg (Option.map V.int) hx
    rw [← List.getElem?_map] at this
    exact this
  refine ⟨⟨_, _, hq0 H' R' sR sH, e2⟩, fun v H2 hy => ?_⟩
  obtain ⟨rfl, hy⟩ := hy
  have := hy _ (hq0 _ R' sR sH)
  rw [e2] at this
  cases this
  exact ⟨R', Ext.refl sH, rfl⟩
theorem ev_lenT {a : Expr} {p pos : Pos} {r : Rep α} {x : α} {n : Nat} (hm : X.mg "len" = none) (ha : EV X a Γ r x Γ1) (ht : ∀ (R : Hp) v, r.R X.K R v x → ∃ q vs, v = .ref q ∧ R q = some (.tup vs) ∧ vs.length = n) (hs : starEach [a] X.env = [(false, eval a X.env)] := by rfl) (hg : Gl X "len" := by rfl) : EV X (.Call (.Name "len" p) [a] [] pos) Γ rInt (n : Int) Γ1 := by
  intro σ H0 R0 H R E Q q
  refine eS (pe_callB call_len_seq hg hm PySem.boot_len (pa_cons peS pa_nil hs) (by decide) (by decide) hs) (ha σ H0 R0 H R E _ fun v H1 R1 E1 s1 e1 => ?_)
  obtain ⟨p, vs, rfl, hp, hl⟩ := ht R1 v e1
  refine ⟨p, vs, rfl, .inr (SqT.of (E1.sub _ _ hp)), ?_⟩
  rw [hl]
  exact q _ H1 R1 E1 s1 rfl
theorem lenPair {K : PySem.W.Frag} {r : Rep α} {r' : Rep β} {x : α × β} (R : Hp) (v : V) (h : (rPair r r').R K R v x) : ∃ q vs, v = .ref q ∧ R q = some (.tup vs) ∧ vs.length = 2 := by
  obtain ⟨a, v1, v2, rfl, ha, _⟩ := h
  exact ⟨a, _, rfl, ha, rfl⟩
theorem lenRow {K : PySem.W.Frag} {x : Row} (R : Hp) (v : V) (h : rRow.R K R v x) : ∃ q vs, v = .ref q ∧ R q = some (.tup vs) ∧ vs.length = 4 := by
  obtain ⟨a, rfl, ha⟩ := h
  exact ⟨a, _, rfl, ha, rfl⟩
end
inductive Reach (es : List (Int × Int)) (s : Int) : Int → Prop
  | base : Reach es s s
  | step {a b : Int} : Reach es s a → (a, b) ∈ es → Reach es s b
theorem Reach.sub {es : List (Int × Int)} {s : Int} {P : Int → Prop} (h0 : P s) (hc : ∀ a b, P a → (a, b) ∈ es → P b) : ∀ {k : Int}, Reach es s k → P k
  | _, .base => h0
  | _, .step r m => hc _ _ (Reach.sub h0 hc r) m
end Fc

set_option Elab.async false
set_option linter.all false
set_option maxRecDepth 100000
set_option maxHeartbeats 4000000
namespace Fc
open PySem PySem.Spec L2
open PyProof.Rows hiding St
section
variable {X : Cx} {Γ Γ1 Γ2 Γ3 : Ga} {α β γ δ : Type} {N : Ga → Prop} {T : RT}
theorem op_mulG : OpR X (binaryOp .Mult) (rI IntMulOk fun i j => .int (i * j)) := opI fun _ _ _ _ _ _ _ hc q => mul_int q hc
theorem ev_mulG {a b : Expr} {pos : Pos} {x y : Int} (ha : EV X a Γ rInt x Γ1) (hb : EV X b Γ1 rInt y Γ2) (h : IntMulOk x y) : EV X (.BinOp a .Mult b pos) Γ rInt (x * y) Γ2 := ev_op op_mulG ha hb fun R v u H Q e1 e2 q => ⟨x, y, e1, e2, h, q _ rfl⟩
def bLst (a : Addr) (r : Rep α) (xs : List α) : Box where
  fp := [a]
  R := fun K H R v => v = .ref a ∧ ∃ vs, H a = some (.lst vs) ∧ PySem.Paired (r.R K R) vs xs
  loc := fun hH hR ⟨e, vs, h, p⟩ => ⟨e, vs, (hH a (List.mem_singleton.mpr rfl)).trans h, Paired.map (fun _ _ => r.mono hR) p⟩
  has := fun ⟨e, vs, h, p⟩ b hb => by rw [List.mem_singleton.mp hb, h]; exact Option.some_ne_none _
theorem bLst_ok {K : PySem.W.Frag} {H R : Hp} {a : Addr} {r : Rep α} {xs : List α} {vs : List V} (h : H a = some (.lst vs)) (hR : R a = none) (p : PySem.Paired (r.R K R) vs xs) : (Ent.ob (bLst a r xs)).ok K H R (some (.ref a)) :=
  ⟨⟨_, rfl, rfl, vs, h, p⟩, fun b hb => by rw [List.mem_singleton.mp hb]; exact hR⟩
theorem bLst_at {K : PySem.W.Frag} {H R : Hp} {a : Addr} {r : Rep α} {xs : List α} {o : Option V} (h : (Ent.ob (bLst a r xs)).ok K H R o) : o = some (.ref a) ∧ (∃ vs, H a = some (.lst vs) ∧ PySem.Paired (r.R K R) vs xs) ∧ R a = none := by
  obtain ⟨⟨v, rfl, rfl, q⟩, n⟩ := h
  exact ⟨rfl, q, n a (List.mem_singleton.mpr rfl)⟩
theorem EV.box (i : Nat) {e : Expr} {a : Addr} {r : Rep α} {xs xs' : List α} {rr : Rep β} {y : β} (h : EV X e (Γ.set i (.mu r xs)) rr y Γ1) (hΓ : Γ[i]? = some (.ob (bLst a r xs))) (hΓ1 : Γ1[i]? = some (.mu r xs')) : EV X e Γ rr y (Γ1.set i (.ob (bLst a r xs'))) := by
  intro σ H0 R0 H R E Q q
  obtain ⟨ea, ⟨vs, ha, pp⟩, hR⟩ := bLst_at (E.ent i _ hΓ)
  refine h σ H0 R0 H R (E.tell hΓ (by rw [ea]; exact ⟨a, vs, rfl, ha, hR, pp⟩) fun b w => by rw [mem_refOf.mp w] at ea; cases ea; exact List.mem_singleton.mpr rfl) Q fun v H' R' E' s' hr => q v H' R' ?_ s' hr
  obtain ⟨a', vs', ea', ha', hR', pp'⟩ := E'.ent i _ hΓ1
  rw [ea] at ea'; cases ea'
  exact E'.tell hΓ1 (by rw [ea]; exact bLst_ok ha' hR' pp') fun b w => by rw [show b = a from List.mem_singleton.mp w]; exact mem_refOf.mpr ea
theorem ev_ixB (j : Nat) {x : Str} {p1 : Pos} {b : Expr} {pos : Pos} {a : Addr} {r : Rep α} {xs : List α} {i : Int} {y : α} (hb : EV X b Γ rInt i Γ) (hΓ : Γ[j]? = some (.ob (bLst a r xs))) (h : atI xs i = some y) (hN : X.N[j]? = some x := by rfl) (hv : Vis X.env.scope x := by first | exact Or.inl rfl | exact Or.inr (Or.inl rfl) | exact Or.inr (Or.inr rfl))
    (hs : PlainIx b := by exact fun _ _ => rfl) (hd : (x == ("__debug__" : Str)) = false := by decide) (hcd : (x == ("__classdict__" : Str)) = false := by decide) : EV X (.Subscript (.Name x p1) b pos) Γ r y Γ := by
  intro σ H0 R0 H R E Q q
  obtain ⟨ea, ⟨vs, ha, pp⟩, hR⟩ := bLst_at (E.ent j _ hΓ)
  refine eS (pe_ix ix_list (pe_var hN hv hd hcd) peS hs) ⟨.ref a, at_of ea, hb σ H0 R0 H R E _ fun u H2 R2 E2 s2 e2 => ?_⟩
  obtain ⟨ea', ⟨vs', ha', pp'⟩, hR'⟩ := bLst_at (E2.ent j _ hΓ)
  obtain ⟨w, e3, e4⟩ := paired_atI pp' h
  exact ⟨a, vs', i, w, rfl, e2, SqL.of ha', e3, q w H2 R2 E2 s2 e4⟩
theorem w_setixB (i : Nat) {x : Str} {b e : Expr} {p1 p2 pos : Pos} {a : Addr} {r : Rep α} {xs : List α} {y : α} {k : Int} {j : Nat} (he : EV X e Γ r y Γ1) (hb : EV X b Γ1 rInt k Γ2) (hΓ1 : Γ1[i]? = some (.ob (bLst a r xs))) (hΓ2 : Γ2[i]? = some (.ob (bLst a r xs))) (hj : ixN xs.length k = some j) (h : N (Γ2.set i (.ob (bLst a r (xs.set j y)))))
    (hN : X.N[i]? = some x := by rfl) (hv : Vis X.env.scope x := by first | exact Or.inl rfl | exact Or.inr (Or.inl rfl) | exact Or.inr (Or.inr rfl))
    (hd : (x == ("__debug__" : Str)) = false := by decide) (hcd : (x == ("__classdict__" : Str)) = false := by decide)
    (ha : ∀ v, assign (.Subscript (.Name x p1) b p2) X.env v = (do
      let ov ← holding [v] (eval (.Name x p1) X.env)
      let iv ← holding [v, ov] (eval b X.env)
      standAt p2
      holding [v, ov, iv] (setItem ov iv v)
      release [v, ov, iv] []) := by intro _; rfl)
    (hs : swapsWithSole [.Subscript (.Name x p1) b p2] e pos.line X.env = pure false := by rfl) (hw : swappedStores [.Subscript (.Name x p1) b p2] e X.env = pure none := by rfl) (h1 : (assignEach [.Subscript (.Name x p1) b p2] X.env).map (·.2) = [assign (.Subscript (.Name x p1) b p2) X.env] := by rfl) :
    W1 X (.Assign [.Subscript (.Name x p1) b p2] e pos) Γ N T := fun σ H0 R0 H R E D dn dr => by
  refine sS (ps_asg peS (pg_sub (pe_var hN hv hd hcd) peS set_list ha) hs hw h1) (he σ H0 R0 H R E _ fun v H1 R1 E1 s1 e1 => ?_)
  obtain ⟨ea, ⟨vs, hp, pp⟩, hR⟩ := bLst_at (E1.ent i _ hΓ1)
  refine ⟨.ref a, at_of ea, hb σ H0 R0 H1 R1 E1 _ fun u H2 R2 E2 s2 e2 => ?_⟩
  obtain ⟨ea', ⟨vs', ha', pp'⟩, hR'⟩ := bLst_at (E2.ent i _ hΓ2)
  refine ⟨a, vs', k, j, rfl, e2, ha', by rw [pp'.length]; exact hj, ?_⟩
  exact dn σ _ R2 _ (E2.updG (en := .ob (bLst a r (xs.set j y))) hΓ2 (List.mem_singleton.mpr rfl) (by rw [ea']; exact bLst_ok upd_same hR' (paired_set (r.mono s2 e1) j pp')) fun b w => .inl w) (s1.trans s2) h
def del (H : Hp) (a : Addr) : Hp := fun b => if b = a then none else H b
theorem del_same {H : Hp} {a : Addr} : del H a a = none := if_pos rfl
theorem del_ne {H : Hp} {a b : Addr} (h : b ≠ a) : del H a b = H b := if_neg h
theorem del_sub {H : Hp} {a : Addr} : Same (del H a) H := fun b o q => by
  by_cases h : b = a
  · subst h; rw [del_same] at q; cases q
  · rwa [del_ne h] at q
theorem EnvOk.growD {K : PySem.W.Frag} {σ : St} {H0 R0 H R H' R' : Hp} (E : EnvOk K σ H0 R0 H R Γ) {a : Addr} (off : Off a σ Γ) (h0 : H0 a = none) (x : Ext (del H a) R H' R') : EnvOk K σ H0 R0 H' R' Γ := by
  have ne : ∀ {b : Addr}, H0 b ≠ none → b ≠ a := fun h e => h (e ▸ h0)
  refine ⟨⟨fun b o q => ?_, E.ext.r.trans x.r, x.s, fun b hb => ?_⟩, fun i e q => ?_, E.nw, E.ds, E.len⟩
  · exact x.h b o (by rw [del_ne (ne (by rw [q]; exact Option.some_ne_none _))]; exact E.ext.h b o q)
  · refine (x.old b ?_).trans (E.ext.old b hb)
    rw [del_ne (ne hb)]; exact Same.some E.ext.h hb
  · have h1 := E.ent i e q
    have na : ∀ b ∈ e.fp (σ[i]?).join, b ≠ a := fun b hb z => off i e q (z ▸ hb)
    refine h1.loc (fun b hb => ?_) x.r fun b hb => ?_
    · cases e2 : H b with
      | none => exact absurd e2 (Ent.fp_at h1 hb).1
      | some u => exact x.h b u (by rw [del_ne (na b hb)]; exact e2)
    · exact (x.old b (by rw [del_ne (na b hb)]; exact (Ent.fp_at h1 hb).1)).trans (Ent.fp_at h1 hb).2
theorem EnvOk.tellG {K : PySem.W.Frag} {σ : St} {H0 R0 H R : Hp} (E : EnvOk K σ H0 R0 H R Γ) {i : Nat} {e0 en : Ent} (hi : Γ[i]? = some e0) (ho : en.ok K H R (σ[i]?).join) (hsub : ∀ b ∈ en.fp (σ[i]?).join, H0 b = none ∧ ∀ (j : Nat) (e : Ent), j ≠ i → Γ[j]? = some e → b ∉ e.fp (σ[j]?).join) : EnvOk K σ H0 R0 H R (Γ.set i en) := by
  refine ⟨E.ext, fun j e q => ?_, fun j e b q w => ?_, fun j k e e' b q q' w w' => ?_, by rw [List.length_set]; exact E.len⟩
  · rcases set_at q with ⟨rfl, rfl, _⟩ | ⟨hj, q1⟩
    · exact ho
    · exact E.ent j e q1
  · rcases set_at q with ⟨rfl, rfl, _⟩ | ⟨hj, q1⟩
    · exact (hsub b w).1
    · exact E.nw j e b q1 w
  · rcases set_at q with ⟨rfl, rfl, _⟩ | ⟨hj, q1⟩
    · rcases set_at q' with ⟨rfl, rfl, _⟩ | ⟨hk, q1'⟩
      · rfl
      · exact absurd w' ((hsub b w).2 k e' hk q1')
    · rcases set_at q' with ⟨rfl, rfl, _⟩ | ⟨hk, q1'⟩
      · exact absurd w ((hsub b w').2 j e hj q1)
      · exact E.ds _ _ _ _ b q1 q1' w w'
abbrev SpM (α : Type) := PySem.W.Frag → List α → List Pk → (List α → RT) → Prop
def spM (r : Rep α) (S : SpM α) (K : PySem.W.Frag) : Sp := fun vs H Q _ => ∃ R a ws xs vs' ps T, vs = .ref a :: vs' ∧ Same R H ∧ R a = none ∧ H a = some (.lst ws) ∧ PySem.Paired (r.R K R) ws xs ∧ Pks K R vs' ps ∧ S K xs ps T ∧
  ∀ v H' R' ws' xs', Ext (del H a) R H' R' → H' a = some (.lst ws') → R' a = none → PySem.Paired (r.R K R') ws' xs' → T xs' (del H a) v H' R' → Q v H'
theorem ev_callMT {r : Rep α} {S : SpM α} {x y : Str} {k : Nat} {es : List Expr} {p p1 pos : Pos} {ps : List Pk} {xs : List α} {TM : List α → RT} {Q : VK} {σ : St} {H0 R0 H R : Hp} (i : Nat) (C : Cal X.prog X.w X.K X.mg X.base x k (spM r S X.K)) (hr : Room k X.A) (ha : HA X es Γ ps Γ1) (hΓ : Γ[i]? = some (.mu r xs)) (hΓ1 : Γ1[i]? = some (.mu r xs)) (hS : S X.K xs ps TM) (E : EnvOk X.K σ H0 R0 H R Γ)
    (q : ∀ H1 v H' R' xs', EnvOk X.K σ H0 R0 H' R' (Γ1.set i (.mu r xs')) → Same R R' → TM xs' H1 v H' R' → Q v H')
    (hg : Gl X x) (hdb : (x == ("__debug__" : Str)) = false) (he : starEach (.Name y p1 :: es) X.env = (false, eval (.Name y p1) X.env) :: starEach es X.env) (hpl : (backTo pos (starEach es X.env)).any (·.1) = false)
    (hN : X.N[i]? = some y) (hv : Vis X.env.scope y) (hd : (y == ("__debug__" : Str)) = false) (hcd : (y == ("__classdict__" : Str)) = false) : semE X (.Call (.Name x p) (.Name y p1 :: es) [] pos) σ H Q := by
  obtain ⟨f, fd, pn, F, hm, hk, hb⟩ := C.ex
  obtain ⟨a, vs, ea, _, _, _⟩ := E.ent i _ hΓ
  refine eS (pe_call F hr hg hm hk hb .nil pass0 (pa_cons (pe_var hN hv hd hcd) paS he) hdb he hpl) ⟨.ref a, at_of ea, ha σ H0 R0 H R E _ fun us H1 R1 E1 s1 p1 => ?_⟩
  obtain ⟨a', ws, ea', hp, hR, pp⟩ := E1.ent i _ hΓ1
  rw [ea] at ea'; cases ea'
  have h0 : H0 a = none := E1.new i _ a hΓ1 rfl ea
  refine ⟨R1, a, ws, xs, us, ps, TM, by rw [List.append_nil], E1.sub, hR, hp, pp, p1, hS, fun v H' R' ws' xs' xx h1 h2 pq t => q _ v H' R' xs' ?_ (s1.trans xx.r) t⟩
  have apart : ∀ (j : Nat) (e : Ent), j ≠ i → Γ1[j]? = some e → a ∉ e.fp (σ[j]?).join := fun j e hj qj w => hj (E1.ds j i e _ a qj hΓ1 w (mem_refOf.mpr ea))
  have E2 : EnvOk X.K σ H0 R0 H1 R1 (Γ1.set i .no) := E1.tell hΓ1 trivial fun b w => by cases w
  have E3 := E2.growD (a := a) (fun j e qj w => by
    rcases set_at qj with ⟨rfl, rfl, _⟩ | ⟨hj, q1⟩
    · cases w
    · exact apart j e hj q1 w) h0 xx
  have hl : i < Γ1.length := (List.getElem?_eq_some_iff.mp hΓ1).1
  have E4 := E3.tellG (i := i) (e0 := .no) (en := .mu r xs') (List.getElem?_set_self hl) (by rw [ea]; exact ⟨a, ws', rfl, h1, h2, pq⟩) fun b w => by
    have eb : b = a := by rw [mem_refOf.mp w] at ea; cases ea; rfl
    subst eb
    exact ⟨h0, fun j e hj qj => apart j e hj (by rwa [List.getElem?_set_ne (Ne.symm hj)] at qj)⟩
  rw [List.set_set] at E4
  exact E4
theorem ev_callM (i : Nat) {r : Rep α} {S : SpM α} {x y : Str} {k : Nat} {es : List Expr} {p p1 pos : Pos} {ps : List Pk} {xs st : List α} {rr : Rep β} {z : β} (C : Cal X.prog X.w X.K X.mg X.base x k (spM r S X.K)) (hr : Room k X.A) (ha : HA X es Γ ps Γ1) (hΓ : Γ[i]? = some (.mu r xs)) (hΓ1 : Γ1[i]? = some (.mu r xs)) (hS : S X.K xs ps (fun xs' => rtP X.K rr fun w => xs' = st ∧ w = z))
    (hg : Gl X x := by rfl) (hdb : (x == ("__debug__" : Str)) = false := by decide) (he : starEach (.Name y p1 :: es) X.env = (false, eval (.Name y p1) X.env) :: starEach es X.env := by rfl) (hpl : (backTo pos (starEach es X.env)).any (·.1) = false := by rfl)
    (hN : X.N[i]? = some y := by rfl) (hv : Vis X.env.scope y := by first | exact Or.inl rfl | exact Or.inr (Or.inl rfl) | exact Or.inr (Or.inr rfl)) (hd : (y == ("__debug__" : Str)) = false := by decide) (hcd : (y == ("__classdict__" : Str)) = false := by decide) :
    EV X (.Call (.Name x p) (.Name y p1 :: es) [] pos) Γ rr z (Γ1.set i (.mu r st)) := fun σ H0 R0 H R E Q q =>
  ev_callMT i C hr ha hΓ hΓ1 hS E (fun H1 v H' R' xs' E' s' t => by
    obtain ⟨w, e1, rfl, rfl⟩ := t
    exact q v H' R' E' s' e1) hg hdb he hpl hN hv hd hcd
theorem ev_callMB (i : Nat) {r : Rep α} {S : SpM α} {x y : Str} {k : Nat} {a : Addr} {es : List Expr} {p p1 pos : Pos} {ps : List Pk} {xs st : List α} {rr : Rep β} {z : β} (C : Cal X.prog X.w X.K X.mg X.base x k (spM r S X.K)) (hr : Room k X.A) (ha : HA X es (Γ.set i (.mu r xs)) ps (Γ.set i (.mu r xs))) (hΓ : Γ[i]? = some (.ob (bLst a r xs))) (hS : S X.K xs ps (fun xs' => rtP X.K rr fun w => xs' = st ∧ w = z))
    (hg : Gl X x := by rfl) (hdb : (x == ("__debug__" : Str)) = false := by decide) (he : starEach (.Name y p1 :: es) X.env = (false, eval (.Name y p1) X.env) :: starEach es X.env := by rfl) (hpl : (backTo pos (starEach es X.env)).any (·.1) = false := by rfl)
    (hN : X.N[i]? = some y := by rfl) (hv : Vis X.env.scope y := by first | exact Or.inl rfl | exact Or.inr (Or.inl rfl) | exact Or.inr (Or.inr rfl)) (hd : (y == ("__debug__" : Str)) = false := by decide) (hcd : (y == ("__classdict__" : Str)) = false := by decide) :
    EV X (.Call (.Name x p) (.Name y p1 :: es) [] pos) Γ rr z (Γ.set i (.ob (bLst a r st))) := by
  have hl : i < Γ.length := (List.getElem?_eq_some_iff.mp hΓ).1
  have h := EV.box i (xs' := st) (ev_callM (p := p) i C hr ha (List.getElem?_set_self hl) (List.getElem?_set_self hl) hS hg hdb he hpl hN hv hd hcd) hΓ (by rw [List.set_set]; exact List.getElem?_set_self hl)
  rwa [List.set_set, List.set_set] at h
theorem ev_callMF {r : Rep α} {S : SpM α} {x : Str} {k : Nat} {e0 : Expr} {es : List Expr} {p pos : Pos} {ps : List Pk} {xs : List α} {TM : List α → RT} {Q : VK} {σ : St} {H0 R0 H R : Hp} (C : Cal X.prog X.w X.K X.mg X.base x k (spM r S X.K)) (hr : Room k X.A) (h0 : EVL X e0 Γ r xs Γ1)
    (ha : ∀ (H1 R1 : Hp), EnvOk X.K σ H0 R0 H1 R1 Γ1 → ∀ Q : List V → Hp → Prop, (∀ us, Pks X.K R1 us ps → Q us H1) → semA X es σ H1 Q) (hS : S X.K xs ps TM) (E : EnvOk X.K σ H0 R0 H R Γ)
    (q : ∀ H1 v H' R' xs', EnvOk X.K σ H0 R0 H' R' Γ1 → Same R R' → TM xs' H1 v H' R' → Q v H')
    (hg : Gl X x) (hdb : (x == ("__debug__" : Str)) = false) (he : starEach (e0 :: es) X.env = (false, eval e0 X.env) :: starEach es X.env) (hpl : (backTo pos (starEach es X.env)).any (·.1) = false) : semE X (.Call (.Name x p) (e0 :: es) [] pos) σ H Q := by
  obtain ⟨f, fd, pn, F, hm, hk, hb⟩ := C.ex
  refine eS (pe_call F hr hg hm hk hb .nil pass0 (pa_cons peS paS he) hdb he hpl) (h0 σ H0 R0 H R E _ fun a ws H1 R1 E1 s1 hp hR hf off pp z => ?_)
  refine ha H1 R1 E1 _ fun us p1 => ?_
  exact ⟨R1, a, ws, xs, us, ps, TM, by rw [List.append_nil], E1.sub, hR, hp, pp, p1, hS, fun v H' R' ws' xs' xx h1 h2 pq t => q _ v H' R' xs' (E1.growD off hf xx) (s1.trans xx.r) t⟩
def rtM (K : PySem.W.Frag) (a : Addr) (r : Rep α) (T : List α → RT) : RT := fun H0 v H' R' => ∃ ws' xs', H' a = some (.lst ws') ∧ R' a = none ∧ PySem.Paired (r.R K R') ws' xs' ∧ T xs' H0 v H' R'
theorem w_retM (i : Nat) {e : Expr} {pos : Pos} {a : Addr} {r : Rep α} {xs : List α} {rr : Rep β} {y : β} {P : List α → β → Prop} (he : EV X e Γ rr y Γ1) (hΓ1 : Γ1[i]? = some (.ob (bLst a r xs))) (h : P xs y) : W1 X (.Return (some e) pos) Γ N (rtM X.K a r fun xs' => rtP X.K rr (P xs')) := fun σ H0 R0 H R E D dn dr =>
  sS (ps_ret peS) (he σ H0 R0 H R E _ fun v H1 R1 E1 s1 e1 => by
    obtain ⟨ea, ⟨vs, ha, pp⟩, hR⟩ := bLst_at (E1.ent i _ hΓ1)
    exact dr v H1 R1 E1.ext ⟨vs, xs, ha, hR, pp, y, e1, h⟩)
theorem env_startM {K : PySem.W.Frag} {R H : Hp} {a : Addr} {r : Rep α} {ws : List V} {xs : List α} {vs : List V} {ps : List Pk} {N : List Str} (s : Same R H) (hR : R a = none) (ha : H a = some (.lst ws)) (pp : PySem.Paired (r.R K R) ws xs) (p : Pks K R vs ps) (hl : ps.length + 1 ≤ N.length) :
    EnvOk K (L2.start N (.ref a :: vs)) (del H a) R H R (.ob (bLst a r xs) :: gaOf ps (N.length - 1)) := by
  obtain ⟨n0, N', rfl⟩ : ∃ n0 N', N = n0 :: N' := by cases N with
    | nil => exact absurd hl (by simp)
    | cons n N' => exact ⟨n, N', rfl⟩
  have hl' : ps.length ≤ N'.length := by simpa using hl
  have E0 := env_start (N := N') s p hl'
  have es : L2.start (n0 :: N') (.ref a :: vs) = some (.ref a) :: L2.start N' vs := by unfold L2.start; simp
  rw [es]
  have noown : ∀ (i : Nat) (e : Ent) (o : Option V), (gaOf ps N'.length)[i]? = some e → e.fp o = [] := fun i e o q => by
    unfold gaOf at q
    rcases List.mem_append.mp (List.mem_of_getElem? q) with z | z
    · obtain ⟨p, _, rfl⟩ := List.mem_map.mp z; rfl
    · obtain ⟨_, rfl⟩ := List.mem_replicate.mp z; rfl
  refine ⟨⟨del_sub, Same.refl _, s, fun _ _ => rfl⟩, fun i e q => ?_, fun i e b q w => ?_, fun i j e e' b q q' w w' => ?_, ?_⟩
  · cases i with
    | zero => simp at q; subst q; exact bLst_ok ha hR pp
    | succ i => simp at q; simpa using E0.ent i e q
  · cases i with
    | zero => simp at q; subst q; rw [show b = a from List.mem_singleton.mp w]; exact del_same
    | succ i => simp at q; rw [noown i e _ q] at w; cases w
  · cases i with
    | succ i => simp at q; rw [noown i e _ q] at w; cases w
    | zero =>
      cases j with
      | zero => rfl
      | succ j => simp at q'; rw [noown j e' _ q'] at w'; cases w'
  · have := E0.len
    simp [this]
variable {P : Program} {w : World} {K : PySem.W.Frag} {mg : Str → Option Value} {base : Heap}
theorem fnM_ok {r : Rep α} {S : SpM α} {x qual : Str} {st : Stmt} {f : Addr} {fd : FuncData} {N ps : List Str} {k : Nat} (F : Fun K x qual st f fd) (Sc : FnScope N ps (defScope st)) (hm : mg x = some (.ref f)) (hb : Binds K fd ps []) (len : ∀ xs qs T, S K xs qs T → qs.length + 1 = ps.length)
    (hbody : ∀ (cdv : Value) (A : Around) (outer : List Env) (s : Shared) (H : Hp) (E : XK) (a : Addr) (xs : List α) (qs : List Pk) (T : List α → RT), Room k (A.deeper (envOfC qual (defScope st) s.heap.objs.size f cdv)) → S K xs qs T →
      WS (cxOf CX0 P w K mg base N qual (defScope st) f cdv A outer s H E).nox (defBody st) (.ob (bLst a r xs) :: gaOf qs (N.length - 1)) (fun _ => False) (rtM K a r T)) : Cal P w K mg base x (k + 1) (spM r S K) := by
  refine ⟨f, fd, ps, ?_, hm, F.kp, hb⟩
  refine F.ok Sc (fun vs H Q E h => ?_) (fun cdv A outer s H vs Q E hr h => ?_)
  · obtain ⟨R, a, ws, xs, vs', qs, T, rfl, _, _, _, _, p, hS, _⟩ := h
    rw [List.length_cons, p.length]; exact len xs qs T hS
  · obtain ⟨R, a, ws, xs, vs', qs, T, rfl, sR, hR, ha, pp, p, hS, q⟩ := h
    have hl : qs.length + 1 ≤ N.length := by
      rw [len xs qs T hS]
      have := congrArg List.length Sc.pre
      rw [List.length_take] at this
      omega
    refine ⟨_, pssS, hbody cdv A outer s H E a xs qs T hr hS (L2.start N (.ref a :: vs')) (del H a) R H R (env_startM sR hR ha pp p hl) { nx := fun _ H' => Q .non H', rt := Q } (fun _ _ _ _ _ _ f => f.elim) fun v H' R' xx t => ?_⟩
    obtain ⟨ws', xs', h1, h2, h3, h4⟩ := t
    exact q v H' R' ws' xs' xx h1 h2 h3 h4
end
end Fc

set_option Elab.async false
set_option linter.all false
set_option maxRecDepth 100000
set_option maxHeartbeats 4000000
namespace Fc
open PySem PySem.Spec L2
open PyProof.Rows hiding St
def insAt {α : Type} (k : Nat) (y : α) (xs : List α) : List α := xs.take k ++ y :: xs.drop k
theorem insAt_length {α : Type} {k : Nat} {y : α} {xs : List α} : (insAt k y xs).length = xs.length + 1 := by
  unfold insAt; rw [List.length_append, List.length_cons, List.length_take, List.length_drop]; omega
theorem insAt_at {α : Type} {k : Nat} {y : α} {xs : List α} (hk : k ≤ xs.length) {i : Nat} {z : α} (h : (insAt k y xs)[i]? = some z) : (i < k ∧ xs[i]? = some z) ∨ (i = k ∧ z = y) ∨ (k < i ∧ xs[i - 1]? = some z) := by
  unfold insAt at h
  have lt : (xs.take k).length = k := by rw [List.length_take]; omega
  by_cases h1 : i < k
  · rw [List.getElem?_append_left (by omega), List.getElem?_take, if_pos h1] at h
    exact .inl ⟨h1, h⟩
  · rw [List.getElem?_append_right (by omega), lt] at h
    by_cases h2 : i = k
    · subst h2; simp at h; exact .inr (.inl ⟨rfl, h.symm⟩)
    · obtain ⟨j, rfl⟩ : ∃ j, i = k + (j + 1) := ⟨i - k - 1, by omega⟩
      rw [show k + (j + 1) - k = j + 1 by omega, List.getElem?_cons_succ, List.getElem?_drop] at h
      exact .inr (.inr ⟨by omega, by rw [show k + (j + 1) - 1 = k + j by omega]; exact h⟩)
theorem insAt_mem {α : Type} {k : Nat} {y : α} {xs : List α} {z : α} : z ∈ insAt k y xs ↔ z = y ∨ z ∈ xs := by
  unfold insAt
  rw [List.mem_append, List.mem_cons]
  have : z ∈ xs ↔ z ∈ xs.take k ∨ z ∈ xs.drop k := by rw [← List.mem_append, List.take_append_drop]
  rw [this]
  constructor
  · rintro (h | h | h)
    · exact .inr (.inl h)
    · exact .inl h
    · exact .inr (.inr h)
  · rintro (h | h | h)
    · exact .inr (.inl h)
    · exact .inl h
    · exact .inr (.inr h)
theorem insAt_nodup {α : Type} {k : Nat} {y : α} {xs : List α} (h : xs.Nodup) (hy : y ∉ xs) : (insAt k y xs).Nodup := by
  have p : (insAt k y xs).Perm (y :: xs) := by
    unfold insAt
    have := List.perm_middle (a := y) (l₁ := xs.take k) (l₂ := xs.drop k)
    rwa [List.take_append_drop] at this
  rw [p.nodup_iff]
  exact List.nodup_cons.mpr ⟨hy, h⟩
theorem insAt_map {α β : Type} (f : α → β) {k : Nat} {y : α} {xs : List α} : (insAt k y xs).map f = insAt k (f y) (xs.map f) := by
  unfold insAt; rw [List.map_append, List.map_cons, List.map_take, List.map_drop]
section
variable {X : Cx} {Γ Γ1 Γ2 Γ3 : Ga} {α β γ δ : Type} {N : Ga → Prop} {T : RT}
def rInsert : V → List V → Hp → VK → Prop := fun x vs H Q => ∃ l xs i y, x = .ref l ∧ vs = [.int i, y] ∧ H l = some (.lst xs) ∧ 0 ≤ i ∧ i ≤ (xs.length : Int) ∧ xs.length < sizeLine ∧ Q .non (upd H l (.lst (insAt i.toNat y xs)))
theorem mt_insert : MtM X "list.insert" rInsert := by
  intro pins s σ H x vs v us Q I rx rv h
  obtain ⟨l, xs, i, y, rfl, rfl, hH, h0, h1, hz, q⟩ := h
  cases rx
  obtain ⟨u1, u2, rfl, ⟨t, rfl⟩, r2⟩ := vals2 rv
  obtain ⟨z, its, n, r, hl, e⟩ := I.lstM hH
  have hfit : Builtin.List.listFitsIndex i = true := fitsIndex_both (by omega) (by
    have : sizeLine < 2 ^ 63 := by decide
    omega)
  refine call_meets PySem.F.slot_list_insert ⟨_, e, rfl⟩ PySem.F.entry_list_insert (PySem.F.args_list_insert_3 _ _ _) (PySem.AutoSeq1.list_insert_list_int_val_1 l _ n i t u2 (by simp [hfit]) (by rw [List.size_toArray]; omega)) ⟨e, ?_⟩
  refine ⟨.non, _, I.lset (its' := insAt i.toNat u2 its) hH e ?_ ?_ ?_, rfl, q⟩
  · have hk : (if i < 0 then (i + ((its.toArray.size : Nat) : Int)).toNat else min i.toNat its.toArray.size) = i.toNat := by
      rw [if_neg (by omega), List.size_toArray]; omega
    dsimp only
    rw [hk]
    unfold insAt
    apply Array.ext'
    simp
    exact List.take_of_length_le (by rw [List.length_drop]; exact Nat.le_refl _)
  · unfold insAt; exact (r.take _).append (.cons r2 (r.drop _))
  · rw [insAt_length]; omega
def rowL (r : Row) : List V := [.int r.1, .int r.2.1, .int r.2.2.1, .int r.2.2.2]
def rRef : Rep Addr := ⟨fun _ _ v a => v = .ref a, fun _ h => h⟩
def rLrow : Rep Row := ⟨fun _ H v r => ∃ b, v = .ref b ∧ H b = some (.lst (rowL r)), fun s ⟨b, e, h⟩ => ⟨b, e, s _ _ h⟩⟩
def rAR : Rep (Addr × Row) := ⟨fun _ H v x => v = .ref x.1 ∧ H x.1 = some (.lst (rowL x.2)), fun s ⟨e, h⟩ => ⟨e, s _ _ h⟩⟩
def RowsAt (H : Hp) (as : List Addr) (rs : List Row) : Prop := as.length = rs.length ∧ ∀ (i : Nat) (b : Addr) (r : Row), as[i]? = some b → rs[i]? = some r → H b = some (.lst (rowL r))
theorem RowsAt.row {H : Hp} {as : List Addr} {rs : List Row} (h : RowsAt H as rs) {b : Addr} (hb : b ∈ as) : ∃ r, H b = some (.lst (rowL r)) := by
  obtain ⟨i, hi, rfl⟩ := List.mem_iff_getElem.mp hb
  exact ⟨_, h.2 i _ _ (List.getElem?_eq_getElem hi) (List.getElem?_eq_getElem (by rw [← h.1]; exact hi))⟩
theorem RowsAt.loc {H H' : Hp} {as : List Addr} {rs : List Row} (h : RowsAt H as rs) (e : ∀ a ∈ as, H' a = H a) : RowsAt H' as rs :=
  ⟨h.1, fun i b r h1 h2 => (e b (List.mem_of_getElem? h1)).trans (h.2 i b r h1 h2)⟩
theorem RowsAt.put {H : Hp} {as : List Addr} {rs : List Row} (h : RowsAt H as rs) (nd : as.Nodup) {j : Nat} {b : Addr} {r : Row} (hb : as[j]? = some b) : RowsAt (upd H b (.lst (rowL r))) as (rs.set j r) := by
  refine ⟨by rw [List.length_set]; exact h.1, fun i c q h1 h2 => ?_⟩
  by_cases hij : i = j
  · subst hij
    rw [hb] at h1; cases h1
    have hl : i < rs.length := by rw [← h.1]; exact (List.getElem?_eq_some_iff.mp hb).1
    rw [List.getElem?_set_self hl] at h2; cases h2
    exact upd_same
  · rw [List.getElem?_set_ne (Ne.symm hij)] at h2
    have : c ≠ b := fun z => by
      subst z
      have l1 := (List.getElem?_eq_some_iff.mp h1)
      have l2 := (List.getElem?_eq_some_iff.mp hb)
      exact hij ((List.getElem_inj (h₀ := l1.1) (h₁ := l2.1) nd).mp (l1.2.trans l2.2.symm))
    rw [upd_ne this]; exact h.2 i c q h1 h2
theorem RowsAt.ins {H : Hp} {as : List Addr} {rs : List Row} (h : RowsAt H as rs) {k : Nat} (hk : k ≤ as.length) {b : Addr} {r : Row} (hb : H b = some (.lst (rowL r))) : RowsAt H (insAt k b as) (insAt k r rs) := by
  refine ⟨by rw [insAt_length, insAt_length, h.1], fun i c q h1 h2 => ?_⟩
  rcases insAt_at hk h1 with ⟨a1, a2⟩ | ⟨a1, a2⟩ | ⟨a1, a2⟩
  · rcases insAt_at (by rw [← h.1]; exact hk) h2 with ⟨b1, b2⟩ | ⟨b1, b2⟩ | ⟨b1, b2⟩
    · exact h.2 i c q a2 b2
    · omega
    · omega
  · rcases insAt_at (by rw [← h.1]; exact hk) h2 with ⟨b1, b2⟩ | ⟨b1, b2⟩ | ⟨b1, b2⟩
    · omega
    · rw [a2, b2]; exact hb
    · omega
  · rcases insAt_at (by rw [← h.1]; exact hk) h2 with ⟨b1, b2⟩ | ⟨b1, b2⟩ | ⟨b1, b2⟩
    · omega
    · omega
    · exact h.2 (i - 1) c q a2 b2
def bRows (a : Addr) (as : List Addr) (rs : List Row) : Box where
  fp := a :: as
  R := fun K H R v => v = .ref a ∧ H a = some (.lst (as.map .ref)) ∧ RowsAt H as rs ∧ (a :: as).Nodup
  loc := fun hH hR ⟨e, h1, h2, h3⟩ => ⟨e, (hH a List.mem_cons_self).trans h1, h2.loc fun b hb => hH b (List.mem_cons_of_mem _ hb), h3⟩
  has := fun ⟨e, h1, h2, h3⟩ b hb => by
    rcases List.mem_cons.mp hb with rfl | hb
    · rw [h1]; exact Option.some_ne_none _
    · obtain ⟨r, hr⟩ := h2.row hb
      rw [hr]; exact Option.some_ne_none _
def bRows2 (a : Addr) (as : List Addr) (rs : List Row) : Box where
  fp := as
  R := fun K H R v => v = .ref a ∧ R a = some (.lst (as.map .ref)) ∧ RowsAt H as rs ∧ as.Nodup
  loc := fun hH hR ⟨e, h1, h2, h3⟩ => ⟨e, hR _ _ h1, h2.loc fun b hb => hH b hb, h3⟩
  has := fun ⟨e, h1, h2, h3⟩ b hb => by
    obtain ⟨r, hr⟩ := h2.row hb
    rw [hr]; exact Option.some_ne_none _
structure HasRow (B B' : Box) (b : Addr) (r r' : Row) : Prop where
  mem : b ∈ B.fp
  fp : B'.fp = B.fp
  get : ∀ {K : PySem.W.Frag} {H R : Hp} {v : V}, B.R K H R v → H b = some (.lst (rowL r))
  set : ∀ {K : PySem.W.Frag} {H R : Hp} {v : V}, B.R K H R v → B'.R K (upd H b (.lst (rowL r'))) R v
theorem hasRow1 {a : Addr} {as : List Addr} {rs : List Row} {j : Nat} {b : Addr} {r r' : Row} (hb : as[j]? = some b) (hr : rs[j]? = some r) : HasRow (bRows a as rs) (bRows a as (rs.set j r')) b r r' where
  mem := List.mem_cons_of_mem _ (List.mem_of_getElem? hb)
  fp := rfl
  get := fun h => h.2.2.1.2 j b r hb hr
  set := fun ⟨e, h1, h2, h3⟩ => by
    obtain ⟨n1, n2⟩ := List.nodup_cons.mp h3
    exact ⟨e, by rw [upd_ne (show a ≠ b from fun z => n1 (z ▸ List.mem_of_getElem? hb))]; exact h1, h2.put n2 hb, h3⟩
theorem hasRow2 {a : Addr} {as : List Addr} {rs : List Row} {j : Nat} {b : Addr} {r r' : Row} (hb : as[j]? = some b) (hr : rs[j]? = some r) : HasRow (bRows2 a as rs) (bRows2 a as (rs.set j r')) b r r' where
  mem := List.mem_of_getElem? hb
  fp := rfl
  get := fun h => h.2.2.1.2 j b r hb hr
  set := fun ⟨e, h1, h2, h3⟩ => ⟨e, h1, h2.put h3 hb, h3⟩
theorem ev_col (i : Nat) {o : Expr} {c : Int} {j : Nat} {p1 pos : Pos} {B B' : Box} {b : Addr} {r r' : Row} {y : Int} (ho : EV X o Γ rRef b Γ1) (hΓ1 : Γ1[i]? = some (.ob B)) (hB : HasRow B B' b r r') (hy : atI (rowL r) c = some (.int y)) : EV X (.Subscript o (.Constant (.int c) j p1) pos) Γ rInt y Γ1 := by
  intro σ H0 R0 H R E Q q
  refine eS (pe_ix ix_list peS pe_int (fun _ _ => rfl)) (ho σ H0 R0 H R E _ fun v H1 R1 E1 s1 e1 => ?_)
  cases e1
  obtain ⟨⟨v, ev, hv⟩, _⟩ := E1.ent i _ hΓ1
  exact ⟨b, _, c, _, rfl, rfl, SqL.of (hB.get hv), hy, q _ H1 R1 E1 s1 rfl⟩
theorem w_setRow (i : Nat) {o e : Expr} {k : Nat} {p1 p2 pos : Pos} {B B' : Box} {b : Addr} {r : Row} {y : Int} (he : EV X e Γ rInt y Γ1) (ho : EV X o Γ1 rRef b Γ2) (hΓ2 : Γ2[i]? = some (.ob B)) (hB : HasRow B B' b r (r.1, r.2.1, r.2.2.1, y)) (h : N (Γ2.set i (.ob B')))
    (ha : ∀ v, assign (.Subscript o (.Constant (.int 3) k p1) p2) X.env v = (do
      let ov ← holding [v] (eval o X.env)
      let iv ← holding [v, ov] (eval (.Constant (.int 3) k p1) X.env)
      standAt p2
      holding [v, ov, iv] (setItem ov iv v)
      release [v, ov, iv] []) := by intro _; rfl)
    (hs : swapsWithSole [.Subscript o (.Constant (.int 3) k p1) p2] e pos.line X.env = pure false := by rfl) (hw : swappedStores [.Subscript o (.Constant (.int 3) k p1) p2] e X.env = pure none := by rfl) (h1 : (assignEach [.Subscript o (.Constant (.int 3) k p1) p2] X.env).map (·.2) = [assign (.Subscript o (.Constant (.int 3) k p1) p2) X.env] := by rfl) :
    W1 X (.Assign [.Subscript o (.Constant (.int 3) k p1) p2] e pos) Γ N T := fun σ H0 R0 H R E D dn dr => by
  refine sS (ps_asg peS (pg_sub peS pe_int set_list ha) hs hw h1) (he σ H0 R0 H R E _ fun v H1 R1 E1 s1 e1 => ho σ H0 R0 H1 R1 E1 _ fun u H2 R2 E2 s2 e2 => ?_)
  cases e2
  cases e1
  obtain ⟨⟨v, ev, hv⟩, hn⟩ := E2.ent i _ hΓ2
  refine ⟨b, _, 3, 3, rfl, rfl, hB.get hv, rfl, ?_⟩
  exact dn σ _ R2 _ (E2.updG (u := .lst (rowL (r.1, r.2.1, r.2.2.1, y))) (en := .ob B') hΓ2 hB.mem ⟨⟨v, ev, hB.set hv⟩, by rw [hB.fp]; exact hn⟩ fun b' w => .inl (by rw [Ent.fp, hB.fp] at w; exact w)) (s1.trans s2) h
theorem WS.boxRows (i : Nat) {sts : List Stmt} {r : Rep α} (hΓ : Γ[i]? = some (.mu r [])) (h : ∀ a, WS X sts (Γ.set i (.ob (bRows a [] []))) N T) : WS X sts Γ N T := fun σ H0 R0 H R E D dn dr => by
  obtain ⟨a, vs, ea, ha, hR, pp⟩ := E.ent i _ hΓ
  cases pp
  refine h a σ H0 R0 H R (E.tell hΓ ⟨⟨.ref a, ea, rfl, ha, ⟨rfl, fun i b r h1 => by simp at h1⟩, by simp⟩, fun b hb => ?_⟩ fun b w => ?_) D dn dr
  · rw [show b = a by simpa [bRows] using hb]; exact hR
  · rw [show b = a by simpa [Ent.fp, bRows] using w]; exact mem_refOf.mpr ea
theorem ev_lenRows (i : Nat) {x : Str} {p1 p pos : Pos} {a : Addr} {as : List Addr} {rs : List Row} (hm : X.mg "len" = none) (hΓ : Γ[i]? = some (.ob (bRows a as rs))) (hN : X.N[i]? = some x := by rfl) (hv : Vis X.env.scope x := by first | exact Or.inl rfl | exact Or.inr (Or.inl rfl) | exact Or.inr (Or.inr rfl))
    (hd : (x == ("__debug__" : Str)) = false := by decide) (hcd : (x == ("__classdict__" : Str)) = false := by decide) (hg : Gl X "len" := by rfl) : EV X (.Call (.Name "len" p) [.Name x p1] [] pos) Γ rInt (rs.length : Int) Γ := by
  intro σ H0 R0 H R E Q q
  obtain ⟨⟨v, ea, rfl, ha, hr, _⟩, hR⟩ := E.ent i _ hΓ
  refine eS (pe_callB call_len_seq hg hm PySem.boot_len (pa_cons (pe_var hN hv hd hcd) pa_nil rfl) (by decide) (by decide) rfl) ⟨.ref a, at_of ea, a, _, rfl, .inl (SqL.of ha), ?_⟩
  rw [List.length_map, hr.1]
  exact q _ H R E (Same.refl _) rfl
theorem w_insert (i : Nat) {x : Str} {e1 e2 : Expr} {p1 ap cp pos : Pos} {a : Addr} {as : List Addr} {rs : List Row} {k : Int} {r : Row} (h1 : EV X e1 Γ rInt k Γ1) (h2 : EVL X e2 Γ1 rInt [r.1, r.2.1, r.2.2.1, r.2.2.2] Γ2) (hΓ : Γ[i]? = some (.ob (bRows a as rs))) (hΓ2 : Γ2[i]? = some (.ob (bRows a as rs)))
    (k0 : 0 ≤ k) (k1 : k ≤ (rs.length : Int)) (hz : rs.length < sizeLine) (h : ∀ b, N (Γ2.set i (.ob (bRows a (insAt k.toNat b as) (insAt k.toNat r rs)))))
    (hN : X.N[i]? = some x := by rfl) (hv : Vis X.env.scope x := by first | exact Or.inl rfl | exact Or.inr (Or.inl rfl) | exact Or.inr (Or.inr rfl))
    (hd : (x == ("__debug__" : Str)) = false := by decide) (hcd : (x == ("__classdict__" : Str)) = false := by decide)
    (hsw : swapsWith (.Call (.Attribute (.Name x p1) "insert" ap) [e1, e2] [] cp) none pos.line X.env = pure false := by rfl)
    (hbase : attributeBase (.Name x p1) "insert" X.env (eval (.Name x p1) X.env) = eval (.Name x p1) X.env := by rfl)
    (hfew : ((backTo cp (starEach [e1, e2] X.env)).all (fun x => !x.1) && (backToKw cp (keywordEach [] X.env)).all (fun x => x.1.isSome)
      && decide ([e1, e2].length + ([] : List Keyword).length + (if ([] : List Keyword).isEmpty then 0 else 1) < 30)) = true := by rfl)
    (hline : (ap.endLine == cp.line) = true := by rfl) (hs : starEach [e1, e2] X.env = (false, eval e1 X.env) :: starEach [e2] X.env := by rfl) (hs2 : starEach [e2] X.env = (false, eval e2 X.env) :: starEach [] X.env := by rfl) (hpl : (backTo cp (starEach [e2] X.env)).any (·.1) = false := by rfl) :
    W1 X (.Expr (.Call (.Attribute (.Name x p1) "insert" ap) [e1, e2] [] cp) pos) Γ N T := fun σ H0 R0 H R E D dn dr => by
  obtain ⟨⟨v, ea, rfl, ha, hr, _⟩, hR⟩ := E.ent i _ hΓ
  refine sS (ps_expr (pe_bm PySem.F.plainAttrs_list PySem.F.slot_list_insert PySem.F.type_list_insert mt_insert (pe_var hN hv hd hcd) (pa_cons peS (pa_cons peS pa_nil hs2) hs) hbase hfew hline hs hpl) hsw) ?_
  refine ⟨.ref a, at_of ea, .inl ⟨rfl, _, SqL.of ha⟩, h1 σ H0 R0 H R E _ fun v1 H1 R1 E1 s1 q1 => h2 σ H0 R0 H1 R1 E1 _ fun b vs H2 R2 E2 s2 hb hRb h0b offb pp _ => ?_⟩
  cases q1
  have ev := ints_of pp
  subst ev
  obtain ⟨⟨v, ea2, rfl, ha2, hr2, nd2⟩, hR2⟩ := E2.ent i _ hΓ2
  obtain ⟨n1, n2⟩ := List.nodup_cons.mp nd2
  have hl : as.length = rs.length := hr2.1
  have bne : b ∉ a :: as := fun z => offb i _ hΓ2 z
  have bna : b ≠ a := fun z => bne (z ▸ List.mem_cons_self)
  refine ⟨a, _, k, .ref b, rfl, rfl, ha2, k0, by rw [List.length_map, hl]; exact k1, by rw [List.length_map, hl]; exact hz, ?_⟩
  refine dn σ _ R2 _ (E2.updG (en := .ob (bRows a (insAt k.toNat b as) (insAt k.toNat r rs))) hΓ2 List.mem_cons_self ⟨⟨.ref a, ea2, rfl, ?_, ?_, ?_⟩, fun c hc => ?_⟩ fun c w => ?_) (s1.trans s2) (h b)
  · rw [upd_same, insAt_map]
  · refine (hr2.ins (k := k.toNat) (by omega) hb).loc fun c hc => upd_ne fun z => ?_
    rw [z] at hc
    rcases insAt_mem.mp hc with q | q
    · exact bna q.symm
    · exact n1 q
  · refine List.nodup_cons.mpr ⟨fun z => ?_, insAt_nodup n2 fun z => bne (List.mem_cons_of_mem _ z)⟩
    rcases insAt_mem.mp z with q | q
    · exact bna q.symm
    · exact n1 q
  · rcases List.mem_cons.mp hc with rfl | hc
    · exact hR2 _ List.mem_cons_self
    · rcases insAt_mem.mp hc with rfl | q
      · exact hRb
      · exact hR2 _ (List.mem_cons_of_mem _ q)
  · rcases List.mem_cons.mp w with rfl | w
    · exact .inl List.mem_cons_self
    · rcases insAt_mem.mp w with rfl | q
      · exact .inr ⟨h0b, offb⟩
      · exact .inl (List.mem_cons_of_mem _ q)
theorem EnvOk.stillL {K : PySem.W.Frag} {σ : St} {H0 R0 H : Hp} : ∀ (as : List Addr) {R : Hp}, EnvOk K σ H0 R0 H R Γ → (∀ b ∈ as, H b ≠ none ∧ H0 b = none ∧ Off b σ Γ) → ∃ R', EnvOk K σ H0 R0 H R' Γ ∧ Same R R' ∧ ∀ b ∈ as, R' b = H b
  | [], R, E, _ => ⟨R, E, Same.refl _, fun b hb => by cases hb⟩
  | b :: as, R, E, h => by
    obtain ⟨h1, h2, h3⟩ := h b List.mem_cons_self
    obtain ⟨u, hu⟩ : ∃ u, H b = some u := by cases q : H b with
      | none => exact absurd q h1
      | some u => exact ⟨u, rfl⟩
    have key : ∃ R1, EnvOk K σ H0 R0 H R1 Γ ∧ Same R R1 ∧ R1 b = some u := by
      cases q : R b with
      | none => exact ⟨_, E.still hu q h2 h3, Same.fresh q _, upd_same⟩
      | some u' =>
        have := E.sub b u' q
        rw [hu] at this
        cases this
        exact ⟨R, E, Same.refl _, q⟩
    obtain ⟨R1, E1, s1, r1⟩ := key
    obtain ⟨R2, E2, s2, r2⟩ := EnvOk.stillL as E1 fun c hc => h c (List.mem_cons_of_mem _ hc)
    refine ⟨R2, E2, s1.trans s2, fun c hc => ?_⟩
    rcases List.mem_cons.mp hc with rfl | hc
    · rw [s2 _ _ r1, hu]
    · exact r2 c hc
theorem WS.outer (i : Nat) {sts : List Stmt} {a : Addr} {as : List Addr} {rs : List Row} (hΓ : Γ[i]? = some (.ob (bRows a as rs))) (h : WS X sts (Γ.set i (.ob (bRows2 a as rs))) N T) : WS X sts Γ N T := fun σ H0 R0 H R E D dn dr => by
  obtain ⟨⟨v, ea, rfl, ha, hr, nd⟩, hR⟩ := E.ent i _ hΓ
  obtain ⟨n1, n2⟩ := List.nodup_cons.mp nd
  have hl : i < Γ.length := (List.getElem?_eq_some_iff.mp hΓ).1
  have apart : ∀ (j : Nat) (e : Ent), j ≠ i → Γ[j]? = some e → ∀ b ∈ a :: as, b ∉ e.fp (σ[j]?).join := fun j e hj qj b hb w => hj (E.ds j i e _ b qj hΓ w hb)
  have E1 : EnvOk X.K σ H0 R0 H R (Γ.set i .no) := E.tell hΓ trivial fun b w => by cases w
  have E2 := E1.still ha (hR a List.mem_cons_self) (E.nw i _ a hΓ List.mem_cons_self) fun j e qj w => by
    rcases set_at qj with ⟨rfl, rfl, _⟩ | ⟨hj, q1⟩
    · cases w
    · exact apart j e hj q1 a List.mem_cons_self w
  have s2 : Same R (upd R a (.lst (as.map .ref))) := Same.fresh (hR a List.mem_cons_self) _
  have E3 := E2.tellG (i := i) (e0 := .no) (en := .ob (bRows2 a as rs)) (List.getElem?_set_self hl) ⟨⟨.ref a, ea, rfl, upd_same, hr, n2⟩, fun b hb => by
    rw [upd_ne (show b ≠ a from fun z => n1 (z ▸ hb))]; exact hR b (List.mem_cons_of_mem _ hb)⟩ fun b w => ⟨E.nw i _ b hΓ (List.mem_cons_of_mem _ w), fun j e hj qj => apart j e hj (by rwa [List.getElem?_set_ne (Ne.symm hj)] at qj) b (List.mem_cons_of_mem _ w)⟩
  rw [List.set_set] at E3
  exact h σ H0 R0 H _ E3 D (fun σ2 H2 R2 Γ2 E2 s2' => dn σ2 H2 R2 Γ2 E2 (s2.trans s2')) dr
theorem paired_rows {K : PySem.W.Frag} {H : Hp} : ∀ {as : List Addr} {rs : List Row}, RowsAt H as rs → PySem.Paired (rLrow.R K H) (as.map .ref) rs
  | [], [], _ => .nil
  | [], _ :: _, h => absurd h.1 (by simp)
  | _ :: _, [], h => absurd h.1 (by simp)
  | a :: as, r :: rs, h => .cons ⟨a, rfl, h.2 0 a r rfl rfl⟩ (paired_rows ⟨by simpa using h.1, fun i b q h1 h2 => h.2 (i + 1) b q (by simpa using h1) (by simpa using h2)⟩)
theorem paired_ars {K : PySem.W.Frag} {H : Hp} : ∀ {as : List Addr} {rs : List Row}, RowsAt H as rs → PySem.Paired (rAR.R K H) (as.map .ref) (as.zip rs)
  | [], [], _ => .nil
  | [], _ :: _, h => absurd h.1 (by simp)
  | _ :: _, [], h => absurd h.1 (by simp)
  | a :: as, r :: rs, h => .cons ⟨rfl, h.2 0 a r rfl rfl⟩ (paired_ars ⟨by simpa using h.1, fun i b q h1 h2 => h.2 (i + 1) b q (by simpa using h1) (by simpa using h2)⟩)
theorem paired_refs {K : PySem.W.Frag} {H : Hp} : ∀ (as : List Addr), PySem.Paired (rRef.R K H) (as.map .ref) as
  | [] => .nil
  | _ :: as => .cons rfl (paired_refs as)
theorem WS.frzRows (i : Nat) {sts : List Stmt} {a : Addr} {as : List Addr} {rs : List Row} (hΓ : Γ[i]? = some (.ob (bRows2 a as rs))) (hz : rs.length ≤ sizeLine) (h : WS X sts (Γ.set i (.im (rList rLrow) rs)) N T) : WS X sts Γ N T := fun σ H0 R0 H R E D dn dr => by
  obtain ⟨⟨v, ea, rfl, ha, hr, nd⟩, hR⟩ := E.ent i _ hΓ
  have hl : i < Γ.length := (List.getElem?_eq_some_iff.mp hΓ).1
  have E1 : EnvOk X.K σ H0 R0 H R (Γ.set i .no) := E.tell hΓ trivial fun b w => by cases w
  obtain ⟨R', E2, s', rr⟩ := E1.stillL as fun b hb => ⟨(Ent.fp_at (E.ent i _ hΓ) hb).1, E.nw i _ b hΓ hb, fun j e qj w => by
    rcases set_at qj with ⟨rfl, rfl, _⟩ | ⟨hj, q1⟩
    · cases w
    · exact hj (E.ds j i e _ b q1 hΓ w hb)⟩
  have hr' : RowsAt R' as rs := hr.loc rr
  have E3 := E2.tellG (i := i) (e0 := .no) (en := .im (rList rLrow) rs) (List.getElem?_set_self hl) ⟨.ref a, ea, a, _, rfl, s' _ _ ha, paired_rows hr', hz⟩ fun b w => by cases w
  rw [List.set_set] at E3
  exact h σ H0 R0 H _ E3 D (fun σ2 H2 R2 Γ2 E2 s2' => dn σ2 H2 R2 Γ2 E2 (s'.trans s2')) dr
theorem ev_refs (i : Nat) {x : Str} {p1 : Pos} {a : Addr} {as : List Addr} {rs : List Row} (hΓ : Γ[i]? = some (.ob (bRows2 a as rs))) (hz : as.length ≤ sizeLine) (hN : X.N[i]? = some x := by rfl) (hv : Vis X.env.scope x := by first | exact Or.inl rfl | exact Or.inr (Or.inl rfl) | exact Or.inr (Or.inr rfl))
    (hd : (x == ("__debug__" : Str)) = false := by decide) (hcd : (x == ("__classdict__" : Str)) = false := by decide) : EV X (.Name x p1) Γ (rList rRef) as Γ := by
  intro σ H0 R0 H R E Q q
  obtain ⟨⟨v, ea, rfl, ha, hr, nd⟩, hR⟩ := E.ent i _ hΓ
  exact eS (pe_var hN hv hd hcd) ⟨.ref a, at_of ea, q _ H R E (Same.refl _) ⟨a, _, rfl, ha, paired_refs as, hz⟩⟩
def lentE : Ent → Ent
  | .im r x => .im r x
  | _ => .no
theorem EnvOk.frz {K : PySem.W.Frag} {σ : St} {H0 R0 H R : Hp} (E : EnvOk K σ H0 R0 H R Γ) : EnvOk K σ H H H H (Γ.map lentE) := by
  have noown : ∀ (i : Nat) (e : Ent) (o : Option V), (Γ.map lentE)[i]? = some e → e.fp o = [] := fun i e o q => by
    rw [List.getElem?_map] at q
    cases h : Γ[i]? with
    | none => rw [h] at q; cases q
    | some e' => rw [h] at q; cases q; cases e' <;> rfl
  refine ⟨Ext.refl (Same.refl _), fun i e q => ?_, fun i e a q w => absurd w (by rw [noown i e _ q]; exact List.not_mem_nil), fun i j e e' a q _ w => absurd w (by rw [noown i e _ q]; exact List.not_mem_nil), by rw [List.length_map]; exact E.len⟩
  rw [List.getElem?_map] at q
  cases h : Γ[i]? with
  | none => rw [h] at q; cases q
  | some e' =>
    rw [h] at q; cases q
    have := E.ent i e' h
    cases e' with
    | im r x => obtain ⟨v, e, hr⟩ := this; exact ⟨v, e, r.mono E.sub hr⟩
    | no => trivial
    | mu r x => trivial
    | di x => trivial
    | ob x => trivial
theorem w_compF (i : Nat) {Γf : Ga} (hF : ∀ (σ : St) (H0 R0 H R : Hp), EnvOk X.K σ H0 R0 H R Γ → EnvOk X.K σ H H H H Γf) {y : Str} {py spos : Pos} {tg elt iter : Expr} {ifs : List Expr} {scope : Scope} {pos : Pos} {cl : List (Str × Addr)} {own fr : List Str} {ix : List Nat} {ra : Rep α} {rb : Rep β} {xs : List α} {p : α → Bool} {f : α → β} {bf : α → Ga → Ga}
    (flat : ∀ (K : PySem.W.Frag) (H H' : Hp) v y, rb.R K H v y → rb.R K H' v y)
    (S : CompScope X scope cl own fr ix) (hit : IV X tg iter Γf ra xs Γf)
    (hb : ∀ (C : Addr) (s : Shared) (H : Hp) (ex : List Addr), BG (cxComp X scope cl C (own ++ fr) s H ex) tg ra bf) (hw : ∀ x, Wk (bf x (cGa own ix Γf)) (cGa own ix Γf))
    (ht : ∀ (C : Addr) (s : Shared) (H : Hp) (ex : List Addr) x, x ∈ xs → TF (cxComp X scope cl C (own ++ fr) s H ex) ifs (bf x (cGa own ix Γf)) (p x) (bf x (cGa own ix Γf)))
    (he : ∀ (C : Addr) (s : Shared) (H : Hp) (ex : List Addr) x, x ∈ xs → p x = true → EV (cxComp X scope cl C (own ++ fr) s H ex) elt (bf x (cGa own ix Γf)) rb (f x) (bf x (cGa own ix Γf)))
    (h : N (Γ.set i (.mu rb ((xs.filter p).map f))))
    (hsw : swapsWith (.ListComp elt [⟨tg, iter, ifs, 0⟩] scope pos) (some (.Name y py)) spos.line X.env = pure true := by rfl)
    (hN : X.N.Nodup := by first | assumption | decide) (hi' : X.N[i]? = some y := by rfl) (hx : Loc X.env.scope y := by first | exact Or.inl rfl | exact Or.inr rfl)
    (hc : X.calm = true := by rfl) (hs : ∀ x, foldedSetIterable iter X.env x = pure x := by intro _; rfl) (hf : X.fn y = true ∨ X.env.scope.names.lookup y = some .local := by first | exact .inl rfl | exact .inr rfl) :
    W1 X (.Assign [.Name y py] (.ListComp elt [⟨tg, iter, ifs, 0⟩] scope pos) spos) Γ N T := fun σ H0 R0 H R E D dn dr => by
  obtain ⟨wi, hi, hit⟩ := hit
  refine sS (ps_setcomp (i := i) (g := fun v σ H Q => ∀ C s Hh ex, semG (cxComp X scope cl C (own ++ fr) s Hh ex) tg v σ H Q) (tc := fun σ H Q => ∀ C s Hh ex, semF (cxComp X scope cl C (own ++ fr) s Hh ex) ifs σ H Q) (te := fun σ H Q => ∀ C s Hh ex, semE (cxComp X scope cl C (own ++ fr) s Hh ex) elt σ H Q) hsw hN hi' hx hc S hi
    (fun C s H ex => ⟨fun pins s1 σ H v u Q I r h => h C s _ ex pins s1 u I r, fun pins s1 σ H Q I h => h C s _ ex pins s1 I, fun pins s1 σ H Q I h => h C s _ ex pins s1 I⟩) hs hf) ?_
  refine hit σ H H H H (hF σ H0 R0 H R E) _ fun J H1 R1 E1 s1 hz src => comp_read (Q := fun v H' => D.nx (σ.set i (some v)) H') E1 src hz hb hw ht he fun a vs H' R' xx ha pp => ?_
  have sH : Same H H' := E1.ext.h.trans xx.h
  have E2 := E.grow (H' := H') (R' := R) ⟨sH, Same.refl _, E.sub.trans sH, fun _ _ => rfl⟩
  exact dn _ _ R _ ((E2.grow (Ext.freshM E2.sub ha _)).setO (u := .lst vs) (en := .mu rb ((xs.filter p).map f)) i ⟨a, vs, rfl, upd_same, E2.sub.free ha, Paired.map (fun _ _ => flat X.K R' R _ _) pp⟩ (E2.ext.h.free ha) fun j e _ q w => E2.off ha j e q w) (Same.refl _) h
theorem ev_tupRow {a : Expr} {p pos : Pos} {r : Row} (hm : X.mg "tuple" = none) (ha : EV X a Γ rLrow r Γ1) (hs : starEach [a] X.env = [(false, eval a X.env)] := by rfl) (hg : Gl X "tuple" := by rfl) : EV X (.Call (.Name "tuple" p) [a] [] pos) Γ rRow r Γ1 := by
  intro σ H0 R0 H R E Q q
  refine eS (pe_callTy call_tuple_of hg hm PyProof.Rows.boot_tuple (pa_cons peS pa_nil hs) (by decide) (by decide) hs) (ha σ H0 R0 H R E _ fun v H1 R1 E1 s1 e1 => ?_)
  obtain ⟨b, rfl, hb⟩ := e1
  refine ⟨b, _, rfl, .inl ⟨SqL.of (E1.sub _ _ hb), fun l hl => ?_⟩⟩
  exact q _ _ (upd R1 l _) (E1.grow (Ext.fresh E1.sub hl _)) (s1.trans (Same.fresh (E1.sub.free hl) _)) ⟨l, rfl, upd_same⟩
end
end Fc

set_option Elab.async false
set_option linter.all false
set_option maxRecDepth 100000
namespace K1
open PySem
abbrev top (i : Nat) : Stmt := PySem.Challenge.pw_fewcounters_k02_no_webs_refused.main.body.getD i (.Pass ⟨0, 0, 0, 0⟩)
abbrev at_is_whole : Nat := 20
abbrev at_are_whole : Nat := 21
abbrev at_is_web : Nat := 22
abbrev at_has_web_form : Nat := 23
abbrev at_has_row_form : Nat := 24
abbrev at_has_web_sizes : Nat := 25
abbrev at_leads_within : Nat := 26
abbrev at_is_called : Nat := 27
abbrev at_lies_on_ways : Nat := 28
abbrev at_reached : Nat := 29
abbrev at_need_web : Nat := 30
abbrev at_is_run : Nat := 34
abbrev at_stood : Nat := 36
abbrev at_chains : Nat := 42
abbrev at_offsets : Nat := 43
abbrev at_chain_number : Nat := 44
abbrev at_chain_of : Nat := 46
abbrev at_counts : Nat := 48
abbrev at_relations : Nat := 52
abbrev at_are_counts : Nat := 56
abbrev at_heap_of : Nat := 60
abbrev at_judged : Nat := 91
abbrev at_plan_for : Nat := 104
abbrev at_cost : Nat := 111
abbrev at_is_enough : Nat := 113
abbrev at_twins : Nat := 114
abbrev at_stopped : Nat := 117
abbrev at_read_back : Nat := 119
abbrev at_read_from : Nat := 120
abbrev at_is_loose : Nat := 123
abbrev at_need_part : Nat := 124
abbrev at_need_loose : Nat := 125
abbrev at_ways : Nat := 126
abbrev at_worths : Nat := 128
abbrev at_steps : Nat := 130
abbrev at_number_of : Nat := 131
abbrev at_way_of : Nat := 133
abbrev at_cuts : Nat := 137
abbrev at_stretch_web : Nat := 138
abbrev at_laid_out : Nat := 139
abbrev at_stretches : Nat := 140
abbrev at_counts_by : Nat := 142
abbrev at__law_mix : Nat := 144
abbrev at__law_cell_at : Nat := 145
abbrev at__law_left : Nat := 146
abbrev at__law_draw : Nat := 147
abbrev at__law_part : Nat := 148
abbrev at__law_web : Nat := 149
abbrev at__law_copy : Nat := 150
abbrev at__law_bent : Nat := 151
abbrev at__law_first : Nat := 152
abbrev at__law_second : Nat := 153
abbrev at__law_refused : Nat := 154
abbrev at_law : Nat := 155
end K1

set_option Elab.async false
set_option linter.all false
set_option maxRecDepth 100000
set_option maxHeartbeats 4000000
namespace K1
open PySem L2 Fc
open PySem.Spec hiding Row
open PyProof.Rows hiding St
structure Mods (mg : Str → Option Value) : Prop where
  mostParts : ∃ t, mg "MOST_PARTS" = some (.int 4 t)
  leastPlaces : ∃ t, mg "LEAST_PLACES" = some (.int 2 t)
  mostPlaces : ∃ t, mg "MOST_PLACES" = some (.int 16 t)
  mostRows : ∃ t, mg "MOST_ROWS" = some (.int 60 t)
  firstPart : ∃ t, mg "FIRST_PART" = some (.int 0 t)
  begin_ : ∃ t, mg "BEGIN" = some (.int 0 t)
  end_ : ∃ t, mg "END" = some (.int 1 t)
  noCall : ∃ t, mg "NO_CALL" = some (.int (-1) t)
  len : mg "len" = none
  all : mg "all" = none
  any : mg "any" = none
  range : mg "range" = none
  enumerate : mg "enumerate" = none
  isinstance : mg "isinstance" = none
  int : mg "int" = none
  bool : mg "bool" = none
  list : mg "list" = none
  tuple : mg "tuple" = none
  min : mg "min" = none
  max : mg "max" = none
  sorted : mg "sorted" = none
  sum : mg "sum" = none
  zip : mg "zip" = none
  reversed : mg "reversed" = none
theorem boot_bool : bootBuiltins "bool" = some (.type "bool") := by decide +kernel
section
variable {P : Program} {w : World} {K : PySem.W.Frag} {mg : Str → Option Value} {base : Heap} {f : Addr} {fd : FuncData}
theorem atI_getD {xs : List Int} {i : Int} (h0 : 0 ≤ i) (h1 : i < xs.length) : atI xs i = some (xs.getD i.toNat 0) := by
  rw [atI_of h0 h1, List.getElem?_eq_getElem (by omega), List.getD_eq_getElem?_getD, List.getElem?_eq_getElem (by omega)]; rfl
abbrev sIW : Stmt := top at_is_whole
theorem scIW : FnScope ["value"] ["value"] (defScope sIW) := ⟨rfl, rfl, rfl, by decide +kernel, rfl, by decide +kernel, by decide +kernel⟩
def SIW : SpD := fun K ps T => ∃ x : Int, ps = [⟨rInt, x⟩] ∧ T = rtP K rBool (· = true)
theorem ok_IW (M : Mods mg) (F : Fun K "is_whole" "is_whole" sIW f fd) (hm : mg "is_whole" = some (.ref f)) (hb : Binds K fd ["value"] []) : Cal P w K mg base "is_whole" 1 (spG SIW K) := by
  have nd := scIW.nd
  refine fn_ok F scIW hm hb (fun qs T ⟨x, e, _⟩ => by rw [e]; rfl) (fun cdv A outer s H E qs T hr hS => ?_)
  obtain ⟨x, rfl, rfl⟩ := hS
  exact ws_one (w_ret (ev_and (ev_isinst M.isinstance M.int PyProof.Rows.boot_int (ev_name 0 rfl) ty_int) (fun _ => ev_one (ev_not (ev_isinst M.isinstance M.bool boot_bool (ev_name 0 rfl) ty_int)))) rfl)
abbrev sAW : Stmt := top at_are_whole
theorem scAW : FnScope ["values"] ["values"] (defScope sAW) := ⟨rfl, rfl, rfl, by decide +kernel, rfl, by decide +kernel, by decide +kernel⟩
def SAW : SpD := fun K ps T => ((∃ ns : List Int, ps = [⟨rList rInt, ns⟩]) ∨ (∃ r : Row, ps = [⟨rRow, r⟩])) ∧ T = rtP K rBool (· = true)
theorem all_true {α : Type} (xs : List α) : ((xs.filter fun _ => true).map fun _ => true).all id = true := by
  rw [List.all_eq_true]; intro b hb
  obtain ⟨_, _, rfl⟩ := List.mem_map.mp hb; rfl
theorem ok_AW (M : Mods mg) (CI : Cal P w K mg base "is_whole" 1 (spG SIW K)) (F : Fun K "are_whole" "are_whole" sAW f fd) (hm : mg "are_whole" = some (.ref f)) (hb : Binds K fd ["values"] []) : Cal P w K mg base "are_whole" 2 (spG SAW K) := by
  have nd := scAW.nd
  have ndc : List.Nodup [("value" : Str)] := by decide
  refine fn_ok F scAW hm hb (fun qs T ⟨e, _⟩ => by rcases e with ⟨_, e⟩ | ⟨_, e⟩ <;> (rw [e]; rfl)) (fun cdv A outer s H E qs T hr hS => ?_)
  obtain ⟨⟨ns, rfl⟩ | ⟨r, rfl⟩, rfl⟩ := hS
  · exact ws_one (w_ret (ev_all M.all (EVL.im (evl_comp (own := ["value"]) (fr := []) (ix := []) (p := fun _ => true) (f := fun _ => true) (comp_mk (so := defScope sAW) (N0 := ["values"]) rfl rfl (fun x h => cell_has h) (by decide +kernel)) (iv_list (ev_name 0 rfl))
      (fun C s H ex => bg_name 0) (fun x => ⟨.inr rfl, trivial⟩) (fun C s H ex x hx => tf_nil) (fun C s H ex x hx _ => ev_call CI hr (ha_cons (ev_name 0 rfl) ha_nil) ⟨_, rfl, rfl⟩)))) (all_true ns))
  · exact ws_one (w_ret (ev_all M.all (EVL.im (evl_comp (own := ["value"]) (fr := []) (ix := []) (p := fun _ => true) (f := fun _ => true) (comp_mk (so := defScope sAW) (N0 := ["values"]) rfl rfl (fun x h => cell_has h) (by decide +kernel)) (iv_row (ev_name 0 rfl))
      (fun C s H ex => bg_name 0) (fun x => ⟨.inr rfl, trivial⟩) (fun C s H ex x hx => tf_nil) (fun C s H ex x hx _ => ev_call CI hr (ha_cons (ev_name 0 rfl) ha_nil) ⟨_, rfl, rfl⟩)))) (all_true _))
end
end K1

set_option Elab.async false
set_option linter.all false
set_option maxRecDepth 100000
set_option maxHeartbeats 4000000
namespace K1
open PySem L2 Fc
open PySem.Spec hiding Row
open PyProof.Rows hiding St
section
variable {P : Program} {w : World} {K : PySem.W.Frag} {mg : Str → Option Value} {base : Heap} {f : Addr} {fd : FuncData}
abbrev sRF : Stmt := top at_has_row_form
theorem scRF : FnScope ["row"] ["row"] (defScope sRF) := ⟨rfl, rfl, rfl, by decide +kernel, rfl, by decide +kernel, by decide +kernel⟩
def SRF : SpD := fun K ps T => ∃ r : Row, ps = [⟨rRow, r⟩] ∧ T = rtP K rBool (· = true)
theorem ok_RF (M : Mods mg) (CA : Cal P w K mg base "are_whole" 2 (spG SAW K)) (F : Fun K "has_row_form" "has_row_form" sRF f fd) (hm : mg "has_row_form" = some (.ref f)) (hb : Binds K fd ["row"] []) : Cal P w K mg base "has_row_form" 3 (spG SRF K) := by
  have nd := scRF.nd
  refine fn_ok F scRF hm hb (fun qs T ⟨x, e, _⟩ => by rw [e]; rfl) (fun cdv A outer s H E qs T hr hS => ?_)
  obtain ⟨r, rfl, rfl⟩ := hS
  exact ws_one (w_ret (ev_and (ev_isinst M.isinstance M.tuple PyProof.Rows.boot_tuple (ev_name 0 rfl) ty_row) (fun _ => ev_and (ev_cmp c_eq (ev_lenT M.len (ev_name 0 rfl) lenRow) ev_int) (fun _ => ev_one (ev_call CA hr (ha_cons (ev_name 0 rfl) ha_nil) ⟨.inr ⟨_, rfl⟩, rfl⟩)))) rfl)
abbrev sWF : Stmt := top at_has_web_form
theorem scWF : FnScope ["web", "places", "rows"] ["web"] (defScope sWF) := ⟨rfl, rfl, rfl, by decide +kernel, rfl, by decide +kernel, by decide +kernel⟩
def SWF : SpD := fun K ps T => ∃ v : Web, ps = [⟨rWeb, v⟩] ∧ T = rtP K rBool (· = true)
theorem ok_WF (M : Mods mg) (CA : Cal P w K mg base "are_whole" 2 (spG SAW K)) (CR : Cal P w K mg base "has_row_form" 3 (spG SRF K)) (F : Fun K "has_web_form" "has_web_form" sWF f fd) (hm : mg "has_web_form" = some (.ref f)) (hb : Binds K fd ["web"] []) : Cal P w K mg base "has_web_form" 4 (spG SWF K) := by
  have nd := scWF.nd
  have ndc : List.Nodup [("row" : Str)] := by decide
  refine fn_ok F scWF hm hb (fun qs T ⟨x, e, _⟩ => by rw [e]; rfl) (fun cdv A outer s H E qs T hr hS => ?_)
  obtain ⟨v, rfl, rfl⟩ := hS
  refine ws_seq (w_if (TW.tv (tw_or (tv_not (tv_bool (ev_isinst M.isinstance M.tuple PyProof.Rows.boot_tuple (ev_name 0 rfl) (ty_pair (r := rList rInt) (r' := rList rRow))))) (fun _ => tw_or1 (tv_cmp c_ne (ev_lenT M.len (ev_name 0 rfl) (lenPair (r := rList rInt) (r' := rList rRow))) ev_int)))) (fun h => absurd h (by decide)) (fun _ => ws_end ?_))
  refine ws_seq (w_set 1 (ev_fst (r := rList rInt) (r' := rList rRow) (ev_name 0 rfl)) (ws_seq (w_set 2 (ev_snd (r := rList rInt) (r' := rList rRow) (ev_name 0 rfl)) ?_)))
  refine ws_seq (w_if (TW.tv (tw_or (tv_not (tv_bool (ev_isinst M.isinstance M.list PyProof.Rows.boot_list (ev_name 1 rfl) ty_list))) (fun _ => tw_or1 (tv_not (tv_bool (ev_isinst M.isinstance M.list PyProof.Rows.boot_list (ev_name 2 rfl) ty_list)))))) (fun h => absurd h (by decide)) (fun _ => ws_end ?_))
  exact ws_one (w_ret (ev_and (ev_call (CA.mono (by decide : 2 ≤ 3)) hr (ha_cons (ev_name 1 rfl) ha_nil) ⟨.inl ⟨_, rfl⟩, rfl⟩) (fun _ => ev_one (ev_all M.all (EVL.im (evl_comp (own := ["row"]) (fr := []) (ix := []) (p := fun _ => true) (f := fun _ => true) (comp_mk (so := defScope sWF) (N0 := ["web", "places", "rows"]) rfl rfl (fun x h => cell_has h) (by decide +kernel)) (iv_list (ev_name 2 rfl))
      (fun C s H ex => bg_name 0) (fun x => ⟨.inr rfl, trivial⟩) (fun C s H ex x hx => tf_nil) (fun C s H ex x hx _ => ev_call CR hr (ha_cons (ev_name 0 rfl) ha_nil) ⟨_, rfl, rfl⟩)))))) (by rw [all_true]; rfl))
abbrev sWZ : Stmt := top at_has_web_sizes
theorem scWZ : FnScope ["web", "places", "rows"] ["web"] (defScope sWZ) := ⟨rfl, rfl, rfl, by decide +kernel, rfl, by decide +kernel, by decide +kernel⟩
def sizes (v : Web) : Bool :=
  if !(decide ((1 : Int) ≤ (v.1.length : Int)) && decide ((v.1.length : Int) ≤ 4)) || !(decide ((1 : Int) ≤ (v.2.length : Int)) && decide ((v.2.length : Int) ≤ 60)) then false
  else ((v.1.filter fun _ => true).map fun n => decide ((2 : Int) ≤ n) && decide (n ≤ 16)).all id
def SWZ : SpD := fun K ps T => ∃ v : Web, ps = [⟨rWeb, v⟩] ∧ T = rtP K rBool (· = sizes v)
theorem ok_WZ (M : Mods mg) (F : Fun K "has_web_sizes" "has_web_sizes" sWZ f fd) (hm : mg "has_web_sizes" = some (.ref f)) (hb : Binds K fd ["web"] []) : Cal P w K mg base "has_web_sizes" 1 (spG SWZ K) := by
  have nd := scWZ.nd
  have ndc : List.Nodup [("size" : Str)] := by decide
  obtain ⟨t1, h1⟩ := M.mostParts
  obtain ⟨t2, h2⟩ := M.mostRows
  obtain ⟨t3, h3⟩ := M.leastPlaces
  obtain ⟨t4, h4⟩ := M.mostPlaces
  refine fn_ok F scWZ hm hb (fun qs T ⟨x, e, _⟩ => by rw [e]; rfl) (fun cdv A outer s H E qs T hr hS => ?_)
  obtain ⟨v, rfl, rfl⟩ := hS
  refine ws_seq (w_set 1 (ev_fst (r := rList rInt) (r' := rList rRow) (ev_name 0 rfl)) (ws_seq (w_set 2 (ev_snd (r := rList rInt) (r' := rList rRow) (ev_name 0 rfl)) ?_)))
  refine ws_seq (w_if (TW.tv (tw_or (tv_not (tv_chain c_le c_le ev_int (ev_len M.len (ev_name 1 rfl)) (ev_glob h1))) (fun _ => tw_or1 (tv_not (tv_chain c_le c_le ev_int (ev_len M.len (ev_name 2 rfl)) (ev_glob h2)))))) (fun h => ?_) (fun h => ws_end ?_))
  · exact ws_one (w_ret ev_bool (by rw [sizes, if_pos h]))
  · exact ws_one (w_ret (ev_all M.all (EVL.im (evl_comp (own := ["size"]) (fr := []) (ix := []) (p := fun _ => true) (f := fun n => decide ((2 : Int) ≤ n) && decide (n ≤ 16)) (comp_mk (so := defScope sWZ) (N0 := ["web", "places", "rows"]) rfl rfl (fun x h => cell_has h) (by decide +kernel)) (iv_list (ev_name 1 rfl))
      (fun C s H ex => bg_name 0) (fun x => ⟨.inr rfl, trivial⟩) (fun C s H ex x hx => tf_nil) (fun C s H ex x hx _ => ev_chain c_le c_le (ev_glob h3) (ev_name 0 rfl) (ev_glob h4))))) (by rw [sizes, if_neg (by rw [h]; decide)]))
abbrev sLW : Stmt := top at_leads_within
theorem scLW : FnScope ["places", "row", "part"] ["places", "row"] (defScope sLW) := ⟨rfl, rfl, rfl, by decide +kernel, rfl, by decide +kernel, by decide +kernel⟩
def leads (ns : List Int) (r : Row) : Bool :=
  if !(decide (0 ≤ r.1) && decide (r.1 < (ns.length : Int))) then false
  else if !(decide (0 ≤ r.2.1) && decide (r.2.1 < ns.getD r.1.toNat 0)) || !(decide (0 ≤ r.2.2.1) && decide (r.2.2.1 < ns.getD r.1.toNat 0)) then false
  else (!decide (r.2.1 = 1)) && (decide (r.2.2.2 = -1) || (decide (r.1 < r.2.2.2) && decide (r.2.2.2 < (ns.length : Int))))
def SLW : SpD := fun K ps T => ∃ ns r, ps = [⟨rList rInt, ns⟩, ⟨rRow, r⟩] ∧ T = rtP K rBool (· = leads ns r)
theorem ok_LW (M : Mods mg) (F : Fun K "leads_within" "leads_within" sLW f fd) (hm : mg "leads_within" = some (.ref f)) (hb : Binds K fd ["places", "row"] []) : Cal P w K mg base "leads_within" 1 (spG SLW K) := by
  have nd := scLW.nd
  obtain ⟨t1, hEND⟩ := M.end_
  obtain ⟨t2, hNC⟩ := M.noCall
  refine fn_ok F scLW hm hb (fun qs T ⟨ns, r, e, _⟩ => by rw [e]; rfl) (fun cdv A outer s H E qs T hr hS => ?_)
  obtain ⟨ns, r, rfl, rfl⟩ := hS
  refine ws_seq (w_set 2 (ev_row0 (ev_name 1 rfl)) ?_)
  refine ws_seq (w_if (tv_not (tv_chain c_le c_lt ev_int (ev_name 2 rfl) (ev_len M.len (ev_name 0 rfl)))) (fun h => ?_) (fun h => ?_))
  · exact ws_one (w_ret ev_bool (by rw [leads, if_pos h]))
  refine ws_end ?_
  have h' : 0 ≤ r.1 ∧ r.1 < (ns.length : Int) := by simpa using h
  have hix : atI ns r.1 = some (ns.getD r.1.toNat 0) := atI_getD h'.1 h'.2
  refine ws_seq (w_if (TW.tv (tw_or (tv_not (tv_chain c_le c_lt ev_int (ev_row1 (ev_name 1 rfl)) (ev_ixL (ev_name 0 rfl) (ev_name 2 rfl) hix))) (fun _ => tw_or1 (tv_not (tv_chain c_le c_lt ev_int (ev_row2 (ev_name 1 rfl)) (ev_ixL (ev_name 0 rfl) (ev_name 2 rfl) hix)))))) (fun h2 => ?_) (fun h2 => ?_))
  · exact ws_one (w_ret ev_bool (by rw [leads, if_neg (by rw [h]; decide), if_pos h2]))
  refine ws_end (ws_one (w_ret (ev_and (ev_cmp c_ne (ev_row1 (ev_name 1 rfl)) (ev_glob hEND)) (fun _ => ev_one (ev_or (ev_cmp c_eq (ev_row3 (ev_name 1 rfl)) (ev_glob hNC)) (fun _ => ev_one (ev_chain c_lt c_lt (ev_name 2 rfl) (ev_row3 (ev_name 1 rfl)) (ev_len M.len (ev_name 0 rfl))))))) ?_))
  rw [leads, if_neg (by rw [h]; decide), if_neg (by rw [h2]; decide)]
abbrev sIC : Stmt := top at_is_called
theorem scIC : FnScope ["rows", "part"] ["rows", "part"] (defScope sIC) := ⟨rfl, rfl, rfl, by decide +kernel, rfl, by decide +kernel, by decide +kernel⟩
def called (rs : List Row) (p : Int) : Bool := ((rs.filter fun _ => true).map fun r => decide (r.2.2.2 = p)).any id
def SIC : SpD := fun K ps T => ∃ (rs : List Row) (p : Int), ps = [⟨rList rRow, rs⟩, ⟨rInt, p⟩] ∧ T = rtP K rBool (· = called rs p)
theorem ok_IC (M : Mods mg) (F : Fun K "is_called" "is_called" sIC f fd) (hm : mg "is_called" = some (.ref f)) (hb : Binds K fd ["rows", "part"] []) : Cal P w K mg base "is_called" 1 (spG SIC K) := by
  have nd := scIC.nd
  have ndc : List.Nodup [("row" : Str), "part"] := by decide
  refine fn_ok F scIC hm hb (fun qs T ⟨_, _, e, _⟩ => by rw [e]; rfl) (fun cdv A outer s H E qs T hr hS => ?_)
  obtain ⟨rs, p, rfl, rfl⟩ := hS
  exact ws_one (w_ret (ev_any M.any (EVL.im (evl_comp (own := ["row"]) (fr := ["part"]) (ix := [1]) (p := fun _ => true) (f := fun r => decide (r.2.2.2 = p)) (comp_mk (so := defScope sIC) (N0 := ["rows", "part"]) rfl rfl (fun x h => cell_has h) (by decide +kernel)) (iv_list (ev_name 0 rfl))
      (fun C s H ex => bg_name 0) (fun x => ⟨.inr rfl, .inl rfl, trivial⟩) (fun C s H ex x hx => tf_nil) (fun C s H ex x hx _ => ev_cmp c_eq (ev_row3 (ev_name 0 rfl)) (ev_name 1 rfl))))) rfl)
end
end K1

set_option Elab.async false
set_option linter.all false
set_option maxRecDepth 100000
set_option maxHeartbeats 4000000
namespace K1
open PySem L2 Fc
open PySem.Spec hiding Row
open PyProof.Rows hiding St
open PySem.Builtin.Int (intBits)
def mixV (n k : Int) : Int :=
  let m := (n * n + k * n + 7 * k * k) * 1103515245 % 2147483629
  m * m % 2147483587
def drawV (c m k b : Int) : Int := if m = 0 then mixV c (k + 1) * (mixV c (k + 1) + 2) % 2147483579 % b else c % b
def drawS (c m k b : Int) : List Int := [if m = 0 then c else c / b, m, k + 1]
theorem bits_ediv {a b : Int} {m : Nat} (hb : 0 < b) (ha : intBits a ≤ m) : intBits (a / b) ≤ m := by
  rw [← Int.fdiv_eq_ediv_of_nonneg a (Int.le_of_lt hb)]; exact bits_fdiv ha
theorem small_mul {x y : Int} (h0 : 0 ≤ x) (h1 : x < 4294967296) : IntMulOk x y := .of_left (intBits_le_64 (by omega) (by omega))
structure DSt (n : Int) (xs : List Int) : Prop where
  ex : ∃ c m k, xs = [c, m, k] ∧ intBits c ≤ 2 ^ 20 ∧ 0 ≤ k ∧ k ≤ n
theorem DSt.mono {n n' : Int} {xs : List Int} (h : DSt n xs) (hn : n ≤ n') : DSt n' xs := by
  obtain ⟨c, m, k, e, a, b, d⟩ := h.ex
  exact ⟨c, m, k, e, a, b, by omega⟩
section
variable {P : Program} {w : World} {K : PySem.W.Frag} {mg : Str → Option Value} {base : Heap} {f : Addr} {fd : FuncData}
abbrev sMX : Stmt := top at__law_mix
theorem scMX : FnScope ["_law_number", "_law_k", "_law_mixed"] ["_law_number", "_law_k"] (defScope sMX) := ⟨rfl, rfl, rfl, by decide +kernel, rfl, by decide +kernel, by decide +kernel⟩
def SMX : SpD := fun K ps T => ∃ n k : Int, ps = [⟨rInt, n⟩, ⟨rInt, k⟩] ∧ intBits n ≤ 2 ^ 20 ∧ 0 ≤ k ∧ k ≤ 1000000 ∧ T = rtP K rInt (· = mixV n k)
theorem ok_MX (F : Fun K "_law_mix" "_law_mix" sMX f fd) (hm : mg "_law_mix" = some (.ref f)) (hb : Binds K fd ["_law_number", "_law_k"] []) : Cal P w K mg base "_law_mix" 1 (spG SMX K) := by
  have nd := scMX.nd
  refine fn_ok F scMX hm hb (fun qs T ⟨n, k, e, _⟩ => by rw [e]; rfl) (fun cdv A outer s H E qs T hr hS => ?_)
  obtain ⟨n, k, rfl, hn, k0, k1, rfl⟩ := hS
  change WS _ _ [.im rInt n, .im rInt k, .no] _ _
  have m0 : 0 ≤ (n * n + k * n + 7 * k * k) * 1103515245 % 2147483629 := Int.emod_nonneg _ (by decide)
  have m1 : (n * n + k * n + 7 * k * k) * 1103515245 % 2147483629 < 2147483629 := Int.emod_lt_of_pos _ (by decide)
  refine ws_seq (w_set 2 (ev_mod (ev_mulG (ev_add (ev_add (ev_mulG (ev_name 0 rfl) (ev_name 0 rfl) (mulOk_of_bits hn hn (by decide))) (ev_mulG (ev_name 1 rfl) (ev_name 0 rfl) (small_mul k0 (by omega)))) (ev_mulG (ev_mulG ev_int (ev_name 1 rfl) (small_mul (by decide) (by decide))) (ev_name 1 rfl) (.of_right (intBits_le_64 (by omega) (by omega))))) ev_int (.of_right (by decide))) ev_int (by decide)) ?_)
  exact ws_one (w_ret (ev_mod (ev_mulG (ev_name 2 rfl) (ev_name 2 rfl) (small_mul m0 (by omega))) ev_int (by decide)) rfl)
abbrev sCA : Stmt := top at__law_cell_at
theorem scCA : FnScope ["_law_script", "_law_k"] ["_law_script", "_law_k"] (defScope sCA) := ⟨rfl, rfl, rfl, by decide +kernel, rfl, by decide +kernel, by decide +kernel⟩
def SCA : SpD := fun K ps T => ∃ (ns : List Int) (k : Int), ps = [⟨rScr, ns⟩, ⟨rInt, k⟩] ∧ 0 ≤ k ∧ T = rtP K rInt (· = ns.getD k.toNat 0)
theorem ok_CA (M : Mods mg) (F : Fun K "_law_cell_at" "_law_cell_at" sCA f fd) (hm : mg "_law_cell_at" = some (.ref f)) (hb : Binds K fd ["_law_script", "_law_k"] []) : Cal P w K mg base "_law_cell_at" 1 (spG SCA K) := by
  have nd := scCA.nd
  refine fn_ok F scCA hm hb (fun qs T ⟨n, k, e, _⟩ => by rw [e]; rfl) (fun cdv A outer s H E qs T hr hS => ?_)
  obtain ⟨ns, k, rfl, k0, rfl⟩ := hS
  change WS _ _ [.im rScr ns, .im rInt k] _ _
  refine ws_seq (w_if (tv_cmp c_lt (ev_name 1 rfl) (ev_lenS M.len (ev_name 0 rfl))) (fun h => ?_) (fun h => ws_end ?_))
  · have h := of_decide_eq_true h
    exact ws_one (w_ret (ev_ixS (ev_name 0 rfl) (ev_name 1 rfl) (atI_getD k0 h)) rfl)
  · have h := of_decide_eq_false h
    refine ws_one (w_ret ev_int ?_)
    show (0 : Int) = _
    rw [List.getD_eq_getElem?_getD, List.getElem?_eq_none (by omega)]; rfl
abbrev sLF : Stmt := top at__law_left
theorem scLF : FnScope ["_law_script", "_law_k", "_law_cell"] ["_law_script", "_law_k"] (defScope sLF) := ⟨rfl, rfl, rfl, by decide +kernel, rfl, by decide +kernel, by decide +kernel⟩
def leftV (c : Int) : List Int := if c < 10 ^ 18 then [c, 0, 0] else [c - 10 ^ 18, 1, 0]
def SLF : SpD := fun K ps T => ∃ (ns : List Int) (k : Int), ps = [⟨rScr, ns⟩, ⟨rInt, k⟩] ∧ 0 ≤ k ∧ T = rtL K rInt (· = leftV (ns.getD k.toNat 0))
theorem ok_LF (CC : Cal P w K mg base "_law_cell_at" 1 (spG SCA K)) (F : Fun K "_law_left" "_law_left" sLF f fd) (hm : mg "_law_left" = some (.ref f)) (hb : Binds K fd ["_law_script", "_law_k"] []) : Cal P w K mg base "_law_left" 2 (spG SLF K) := by
  have nd := scLF.nd
  refine fn_ok F scLF hm hb (fun qs T ⟨n, k, e, _⟩ => by rw [e]; rfl) (fun cdv A outer s H E qs T hr hS => ?_)
  obtain ⟨ns, k, rfl, k0, rfl⟩ := hS
  change WS _ _ [.im rScr ns, .im rInt k, .no] _ _
  refine ws_seq (w_set 2 (ev_call CC hr (ha_cons (ev_name 0 rfl) (ha_cons (ev_name 1 rfl) ha_nil)) ⟨_, _, rfl, k0, rfl⟩) ?_)
  refine ws_seq (w_if (tv_cmp c_lt (ev_name 2 rfl) (ev_pow ev_int ev_int ⟨by decide, by decide, by decide⟩)) (fun h => ?_) (fun h => ws_end ?_))
  · have h : ns.getD k.toNat 0 < 10 ^ 18 := of_decide_eq_true h
    exact ws_one (w_retL (evl_lst (ea_cons (ev_name 2 rfl) (ea_cons ev_int (ea_cons ev_int ea_nil))) (by show 3 ≤ sizeLine; decide)) (by show [ns.getD k.toNat 0, 0, 0] = _; rw [leftV, if_pos h]))
  · have h : ¬ ns.getD k.toNat 0 < 10 ^ 18 := of_decide_eq_false h
    exact ws_one (w_retL (evl_lst (ea_cons (ev_sub (ev_name 2 rfl) (ev_pow ev_int ev_int ⟨by decide, by decide, by decide⟩)) (ea_cons ev_int (ea_cons ev_int ea_nil))) (by show 3 ≤ sizeLine; decide)) (by rw [leftV, if_neg h]; rfl))
theorem bits_sub18 {c : Int} (h : intBits c ≤ 2 ^ 20) (h1 : ¬ c < 10 ^ 18) : intBits (c - 10 ^ 18) ≤ 2 ^ 20 := bits_of_natAbs_le (by omega) h
theorem left_st {ns : List Int} (hb : ∀ n ∈ ns, intBits n ≤ 2 ^ 20) (k : Nat) : DSt 0 (leftV (ns.getD k 0)) := by
  have hc : intBits (ns.getD k 0) ≤ 2 ^ 20 := by
    rw [List.getD_eq_getElem?_getD]
    cases e : ns[k]? with
    | none => show intBits 0 ≤ 2 ^ 20; decide
    | some n => exact hb n (List.mem_of_getElem? e)
  unfold leftV
  split
  · exact ⟨_, _, _, rfl, hc, by decide, by decide⟩
  · rename_i h
    exact ⟨_, _, _, rfl, bits_sub18 hc h, by decide, by decide⟩
abbrev sDR : Stmt := top at__law_draw
theorem scDR : FnScope ["_law_left_here", "_law_base", "_law_mixed", "_law_digit"] ["_law_left_here", "_law_base"] (defScope sDR) := ⟨rfl, rfl, rfl, by decide +kernel, rfl, by decide +kernel, by decide +kernel⟩
def SDR : SpM Int := fun K xs ps T => ∃ c m k b, xs = [c, m, k] ∧ intBits c ≤ 2 ^ 20 ∧ 0 ≤ k ∧ k < 1000000 ∧ ps = [⟨rInt, b⟩] ∧ 0 < b ∧ b < 1073741824 ∧ T = fun xs' => rtP K rInt fun y => xs' = drawS c m k b ∧ y = drawV c m k b
theorem ok_DR (CM : Cal P w K mg base "_law_mix" 1 (spG SMX K)) (F : Fun K "_law_draw" "_law_draw" sDR f fd) (hm : mg "_law_draw" = some (.ref f)) (hb : Binds K fd ["_law_left_here", "_law_base"] []) : Cal P w K mg base "_law_draw" 2 (spM rInt SDR K) := by
  have nd := scDR.nd
  refine fnM_ok F scDR hm hb (fun xs qs T ⟨c, m, k, b, _, _, _, _, e, _⟩ => by rw [e]; rfl) (fun cdv A outer s H E a xs qs T hr hS => ?_)
  obtain ⟨c, m, k, b, rfl, hc, k0, k1, rfl, b0, b1, rfl⟩ := hS
  change WS _ _ [.ob (bLst a rInt [c, m, k]), .im rInt b, .no, .no] _ _
  refine ws_seq (w_setixB 0 (j := 2) (ev_add (ev_ixB 0 ev_int rfl (y := k) rfl) ev_int) ev_int rfl rfl rfl ?_)
  show WS _ _ (.ob (bLst a rInt [c, m, k + 1]) :: _) _ _
  refine ws_seq (w_if (tv_cmp c_eq (ev_ixB 0 ev_int rfl (y := m) rfl) ev_int) (fun h => ?_) (fun h => ws_end ?_))
  · have h := of_decide_eq_true h
    refine ws_seq (w_set 2 (ev_call CM hr (ha_cons (ev_ixB 0 ev_int rfl (y := c) rfl) (ha_cons (ev_ixB 0 ev_int rfl (y := k + 1) rfl) ha_nil)) ⟨_, _, rfl, hc, by omega, by omega, rfl⟩) ?_)
    have m0 : 0 ≤ mixV c (k + 1) := Int.emod_nonneg _ (by decide)
    have m1 : mixV c (k + 1) < 2147483587 := Int.emod_lt_of_pos _ (by decide)
    refine ws_one (w_retM 0 (ev_mod (ev_mod (ev_mulG (ev_name 2 rfl) (ev_add (ev_name 2 rfl) ev_int) (small_mul m0 (by omega))) ev_int (by decide)) (ev_name 1 rfl) b0) rfl ⟨?_, ?_⟩)
    · rw [drawS, if_pos h]
    · rw [drawV, if_pos h]
  · have h := of_decide_eq_false h
    refine ws_seq (w_set 3 (ev_mod (ev_ixB 0 ev_int rfl (y := c) rfl) (ev_name 1 rfl) b0) ?_)
    refine ws_seq (w_setixB 0 (j := 0) (ev_fdiv (ev_ixB 0 ev_int rfl (y := c) rfl) (ev_name 1 rfl) ⟨b0, b1⟩) ev_int rfl rfl rfl ?_)
    refine ws_one (w_retM 0 (ev_name 3 rfl) rfl ⟨?_, ?_⟩)
    · rw [drawS, if_neg h]; rfl
    · rw [drawV, if_neg h]
theorem drawOk {n : Int} {xs : List Int} (h : DSt n xs) (hn : n < 1000000) {b : Int} (b0 : 0 < b) (b1 : b < 1073741824) : ∃ y st, 0 ≤ y ∧ y < b ∧ DSt (n + 1) st ∧ ∀ K, SDR K xs [⟨rInt, b⟩] (fun xs' => rtP K rInt fun z => xs' = st ∧ z = y) := by
  obtain ⟨c, m, k, rfl, hc, k0, k1⟩ := h.ex
  refine ⟨drawV c m k b, drawS c m k b, ?_, ?_, ⟨_, _, _, rfl, ?_, by omega, by omega⟩, fun K => ⟨c, m, k, b, rfl, hc, k0, by omega, rfl, b0, b1, rfl⟩⟩
  · unfold drawV; split <;> exact Int.emod_nonneg _ (by omega)
  · unfold drawV; split <;> exact Int.emod_lt_of_pos _ b0
  · split
    · exact hc
    · exact bits_ediv b0 hc
end
end K1

set_option Elab.async false
set_option linter.all false
set_option maxRecDepth 100000
set_option maxHeartbeats 4000000
namespace K1
open PySem L2 Fc
open PySem.Spec hiding Row
open PyProof.Rows hiding St
open PySem.Builtin.Int (intBits)
def bump (n : Int) (t : Int × Int) : Int × Int := (t.1 + (if decide (n ≤ t.1) then 1 else 0), t.2 + (if decide (n ≤ t.2) then 1 else 0))
def bumped (n : Int) (ties : List (Int × Int)) : List (Int × Int) := (ties.filter fun _ => true).map (bump n)
theorem bumped_eq (n : Int) (ties : List (Int × Int)) : bumped n ties = ties.map (bump n) := by unfold bumped; rw [List.filter_eq_self.mpr (by simp)]
inductive Made : Nat → Int → List (Int × Int) → Prop
  | base : Made 0 2 [(0, 1)]
  | split {n : Nat} {many : Int} {ties : List (Int × Int)} {at_ : Nat} {new : Int} {t : Int × Int} : Made n many ties → (bumped new ties)[at_]? = some t → 2 ≤ new → new ≤ many → Made (n + 1) (many + 1) ((bumped new ties ++ [(new, t.2)]).set at_ (t.1, new))
  | tie {n : Nat} {many : Int} {ties : List (Int × Int)} {start e : Int} : Made n many ties → 0 ≤ start → start < many - 1 → 0 ≤ e → e < many → Made (n + 1) many (ties ++ [(start + (if decide (0 < start) then 1 else 0), e)])
theorem Made.sizes {n : Nat} {many : Int} {ties : List (Int × Int)} (h : Made n many ties) : 2 ≤ many ∧ many ≤ 2 + n ∧ ties.length = n + 1 := by
  induction h with
  | base => exact ⟨by decide, by decide, rfl⟩
  | split h e a b ih =>
    refine ⟨by omega, by push_cast; omega, ?_⟩
    rw [List.length_set, List.length_append, bumped_eq, List.length_map, ih.2.2]; rfl
  | tie h a b c d ih => exact ⟨ih.1, by push_cast; omega, by rw [List.length_append, ih.2.2]; rfl⟩
theorem ixN_of {n : Nat} {i : Int} (h0 : 0 ≤ i) (h1 : i < n) : ixN n i = some i.toNat := by unfold ixN; rw [if_pos h0, if_pos h1]
abbrev rTie : Rep (Int × Int) := rPair rInt rInt
section
variable {P : Program} {w : World} {K : PySem.W.Frag} {mg : Str → Option Value} {base : Heap} {f : Addr} {fd : FuncData}
abbrev sPT : Stmt := top at__law_part
abbrev nPT : List Str := ["_law_left_here", "_law_most", "_law_many", "_law_ties", "_law_turn", "_law_at", "_law_new", "_law_start"]
theorem scPT : FnScope nPT ["_law_left_here", "_law_most"] (defScope sPT) := ⟨rfl, rfl, rfl, by decide +kernel, rfl, by decide +kernel, by decide +kernel⟩
def SPT : SpM Int := fun K xs ps T => ∃ most : Int, DSt 0 xs ∧ ps = [⟨rInt, most⟩] ∧ 0 ≤ most ∧ most ≤ 1000 ∧ T = fun _ => rtP K (rPair rInt (rList rTie)) fun z => ∃ n : Nat, (n : Int) ≤ most ∧ Made n z.1 z.2
theorem ok_PT (M : Mods mg) (CD : Cal P w K mg base "_law_draw" 2 (spM rInt SDR K)) (F : Fun K "_law_part" "_law_part" sPT f fd) (hm : mg "_law_part" = some (.ref f)) (hb : Binds K fd ["_law_left_here", "_law_most"] []) : Cal P w K mg base "_law_part" 3 (spM rInt SPT K) := by
  have nd := scPT.nd
  have ndc : List.Nodup [("_law_a" : Str), "_law_b", "_law_new"] := by decide
  refine fnM_ok F scPT hm hb (fun xs qs T ⟨most, _, e, _⟩ => by rw [e]; rfl) (fun cdv A outer s H E a xs qs T hr hS => ?_)
  obtain ⟨most, hD, rfl, h0, h1, rfl⟩ := hS
  change WS _ _ [.ob (bLst a rInt xs), .im rInt most, .no, .no, .no, .no, .no, .no] _ _
  refine ws_seq (w_set 2 ev_int (ws_seq (w_setL 3 (evl_lst (ea_cons (ev_pair (ha_cons ev_int (ha_cons ev_int ha_nil))) ea_nil) (by show 1 ≤ sizeLine; decide)) ?_)))
  obtain ⟨n, st, n0, n1, hD1, hS⟩ := drawOk hD (by decide) (b := most + 1) (by omega) (by omega)
  refine ws_seq (w_forI (r := rInt) (fun i Γ => ∃ st many ties v4 v5 v6 v7, Γ = [.ob (bLst a rInt st), .im rInt most, .im rInt many, .mu rTie ties, v4, v5, v6, v7] ∧ DSt (1 + 4 * i) st ∧ Made i many ties)
    (iv_range1 M.range (ev_callMB 0 CD hr (ha_cons (ev_add (ev_name 1 rfl) ev_int) ha_nil) rfl (hS _)) ⟨by omega, by omega⟩) (bg_name 4) ⟨st, 2, [(0, 1)], .no, .no, .no, .no, rfl, hD1.mono (by decide), .base⟩ ?_ ?_)
  · rintro i x Γ hx ⟨st, many, ties, v4, v5, v6, v7, rfl, hD, hM⟩
    obtain ⟨hi, rfl⟩ := ups_at hx
    obtain ⟨s1, s2, s3⟩ := hM.sizes
    have hin : (i : Int) < n := by omega
    obtain ⟨c, st1, c0, c1, hD1, hS1⟩ := drawOk hD (by omega) (b := 2) (by decide) (by decide)
    refine ws_one (w_if (tv_cmp c_eq (ev_callMB 0 CD hr (ha_cons ev_int ha_nil) rfl (hS1 _)) ev_int) (fun h => ?_) (fun h => ?_))
    · obtain ⟨k, st2, k0, k1, hD2, hS2⟩ := drawOk hD1 (by omega) (b := (ties.length : Int)) (by omega) (by omega)
      refine ws_seq (w_set 5 (ev_callMB 0 CD hr (ha_cons (ev_lenM 3 M.len rfl) ha_nil) rfl (hS2 _)) ?_)
      obtain ⟨d, st3, d0, d1, hD3, hS3⟩ := drawOk hD2 (by omega) (b := many - 1) (by omega) (by omega)
      refine ws_seq (w_set 6 (ev_add ev_int (ev_callMB 0 CD hr (ha_cons (ev_sub (ev_name 2 rfl) ev_int) ha_nil) rfl (hS3 _))) ?_)
      refine ws_seq (w_comp 3 (own := ["_law_a", "_law_b"]) (fr := ["_law_new"]) (ix := [6]) (p := fun _ => true) (f := bump (2 + d)) (comp_mk (so := defScope sPT) (N0 := nPT) rfl rfl (fun x h => cell_has h) (by decide +kernel)) (iv_list (ev_own 3 rfl (by rw [s3]; exact Nat.le_trans (show i + 1 ≤ 2000 by omega) (by decide))))
        (fun C s H ex => bg_pair 0 1) (fun x => ⟨.inr rfl, .inr rfl, .inl rfl, trivial⟩) (fun C s H ex x hx => tf_nil)
        (fun C s H ex x hx _ => ev_pair (ha_cons (ev_add (ev_name 0 rfl) (ev_intB M.int (ev_cmp c_ge (ev_name 0 rfl) (ev_name 2 rfl)))) (ha_cons (ev_add (ev_name 1 rfl) (ev_intB M.int (ev_cmp c_ge (ev_name 1 rfl) (ev_name 2 rfl)))) ha_nil))) ?_)
      change WS _ _ [.ob (bLst a rInt st3), .im rInt most, .im rInt many, .mu rTie (bumped (2 + d) ties), .im rInt (0 + (i : Int)), .im rInt k, .im rInt (2 + d), v7] _ _
      have lb : (bumped (2 + d) ties).length = ties.length := by rw [bumped_eq, List.length_map]
      obtain ⟨t, ht⟩ : ∃ t, (bumped (2 + d) ties)[k.toNat]? = some t := ⟨_, List.getElem?_eq_getElem (by omega)⟩
      have at1 : atI (bumped (2 + d) ties) k = some t := by rw [atI_of k0 (by omega), ht]
      have hsz : (bumped (2 + d) ties).length < sizeLine := by rw [lb, s3]; exact Nat.lt_of_lt_of_le (show i + 1 < 2000 by omega) (by decide)
      refine ws_seq (w_append 3 (ev_pair (ha_cons (ev_name 6 rfl) (ha_cons (ev_snd (ev_ixM 3 (ev_name 5 rfl) rfl rfl at1)) ha_nil))) rfl rfl hsz ?_)
      have at2 : atI (bumped (2 + d) ties ++ [(2 + d, t.2)]) k = some t := by
        rw [atI_of k0 (by rw [List.length_append]; simp; omega), List.getElem?_append_left (by omega), ht]
      have ixk : ixN (bumped (2 + d) ties ++ [(2 + d, t.2)]).length k = some k.toNat := ixN_of k0 (by rw [List.length_append, lb]; simp; omega)
      refine ws_seq (w_setix 3 (ev_pair (ha_cons (ev_fst (ev_ixM 3 (ev_name 5 rfl) rfl rfl at2)) (ha_cons (ev_name 6 rfl) ha_nil))) (ev_name 5 rfl) rfl rfl ixk ?_)
      refine ws_one (w_set 2 (ev_add (ev_name 2 rfl) ev_int) ?_)
      exact ⟨st3, _, _, _, _, _, _, rfl, hD3.mono (by push_cast; omega), hM.split ht (by omega) (by omega)⟩
    · obtain ⟨k, st2, k0, k1, hD2, hS2⟩ := drawOk hD1 (by omega) (b := many - 1) (by omega) (by omega)
      refine ws_seq (w_set 7 (ev_callMB 0 CD hr (ha_cons (ev_sub (ev_name 2 rfl) ev_int) ha_nil) rfl (hS2 _)) ?_)
      obtain ⟨d, st3, d0, d1, hD3, hS3⟩ := drawOk hD2 (by omega) (b := many) (by omega) (by omega)
      refine ws_one (w_append 3 (ev_pair (ha_cons (ev_add (ev_name 7 rfl) (ev_intB M.int (ev_cmp c_gt (ev_name 7 rfl) ev_int))) (ha_cons (ev_callMB 0 CD hr (ha_cons (ev_name 2 rfl) ha_nil) rfl (hS3 _)) ha_nil))) rfl rfl (by rw [s3]; exact Nat.lt_of_lt_of_le (show i + 1 < 2000 by omega) (by decide)) ?_)
      exact ⟨st3, _, _, _, _, _, _, rfl, hD3.mono (by push_cast; omega), hM.tie k0 k1 d0 d1⟩
  · rintro Γ ⟨st, many, ties, v4, v5, v6, v7, rfl, hD, hM⟩
    rw [ups_length] at hM
    obtain ⟨s1, s2, s3⟩ := hM.sizes
    exact ws_one (w_retM 0 (P := fun _ z => ∃ n : Nat, (n : Int) ≤ most ∧ Made n z.1 z.2) (ev_pair (ha_cons (ev_name 2 rfl) (ha_cons (ev_own 3 rfl (by rw [s3]; exact Nat.le_trans (show n.toNat + 1 ≤ 2000 by omega) (by decide))) ha_nil))) rfl ⟨n.toNat, by omega, hM⟩)
end
end K1

set_option Elab.async false
set_option linter.all false
set_option maxRecDepth 100000
set_option maxHeartbeats 4000000
namespace Fc
open PySem PySem.Spec L2
open PyProof.Rows hiding St
section
variable {X : Cx} {Γ Γ1 Γ2 Γ3 : Ga} {α β γ δ : Type} {N : Ga → Prop} {T : RT}
theorem EV.rep {e : Expr} {r : Rep α} {x : α} {r' : Rep β} {y : β} (h : EV X e Γ r x Γ1) (c : ∀ (R : Hp) v, r.R X.K R v x → r'.R X.K R v y) : EV X e Γ r' y Γ1 := fun σ H0 R0 H R E Q q => h σ H0 R0 H R E Q fun v H' R' E' s' e' => q v H' R' E' s' (c R' v e')
theorem ev_colA {a : Expr} {c : Int} {j : Nat} {p1 pos : Pos} {x : Addr × Row} {y : Int} (ha : EV X a Γ rAR x Γ1) (hy : atI (rowL x.2) c = some (.int y)) : EV X (.Subscript a (.Constant (.int c) j p1) pos) Γ rInt y Γ1 := by
  intro σ H0 R0 H R E Q q
  refine eS (pe_ix ix_list peS pe_int (fun _ _ => rfl)) (ha σ H0 R0 H R E _ fun v H1 R1 E1 s1 e1 => ?_)
  obtain ⟨rfl, hp⟩ := e1
  exact ⟨_, _, c, _, rfl, rfl, SqL.of (E1.sub _ _ hp), hy, q _ H1 R1 E1 s1 rfl⟩
def HAq (X : Cx) (es : List Expr) (Γ : Ga) (ps : List Pk) : Prop := ∀ (σ : St) (H0 R0 H R : Hp), EnvOk X.K σ H0 R0 H R Γ → ∀ Q : List V → Hp → Prop, (∀ us, Pks X.K R us ps → Q us H) → semA X es σ H Q
theorem haq_nil : HAq X [] Γ [] := fun σ H0 R0 H R E Q q => aS pa_nil (q [] .nil)
theorem haq_name (i : Nat) {x : Str} {p1 : Pos} {es : List Expr} {ps : List Pk} {r : Rep α} {y : α} (hΓ : Γ[i]? = some (.im r y)) (h : HAq X es Γ ps) (hN : X.N[i]? = some x := by rfl) (hv : Vis X.env.scope x := by first | exact Or.inl rfl | exact Or.inr (Or.inl rfl) | exact Or.inr (Or.inr rfl))
    (hd : (x == ("__debug__" : Str)) = false := by decide) (hcd : (x == ("__classdict__" : Str)) = false := by decide) (hs : starEach (.Name x p1 :: es) X.env = (false, eval (.Name x p1) X.env) :: starEach es X.env := by rfl) : HAq X (.Name x p1 :: es) Γ (⟨r, y⟩ :: ps) := fun σ H0 R0 H R E Q q => by
  obtain ⟨v, e, hr⟩ := E.ent i _ hΓ
  exact aS (pa_cons (pe_var hN hv hd hcd) paS hs) ⟨v, at_of e, h σ H0 R0 H R E _ fun us p => q (v :: us) (.cons hr p)⟩
theorem w_callMF {tg : Expr} {r : Rep α} {S : SpM α} {x : Str} {k : Nat} {e0 : Expr} {es : List Expr} {p p2 pos : Pos} {ps : List Pk} {xs : List α} {rr : Rep β} {Pd : List α → β → Prop} {bf : β → Ga → Ga} (C : Cal X.prog X.w X.K X.mg X.base x k (spM r S X.K)) (hr : Room k X.A) (h0 : EVL X e0 Γ r xs Γ1) (ha : HAq X es Γ1 ps) (hS : S X.K xs ps (fun xs' => rtP X.K rr (Pd xs'))) (hb : BG X tg rr bf) (h : ∀ xs' z, Pd xs' z → N (bf z Γ1))
    (hg : Gl X x := by rfl) (hdb : (x == ("__debug__" : Str)) = false := by decide) (he : starEach (e0 :: es) X.env = (false, eval e0 X.env) :: starEach es X.env := by rfl) (hpl : (backTo p2 (starEach es X.env)).any (·.1) = false := by rfl)
    (hs : swapsWithSole [tg] (.Call (.Name x p) (e0 :: es) [] p2) pos.line X.env = pure false := by rfl) (hw : swappedStores [tg] (.Call (.Name x p) (e0 :: es) [] p2) X.env = pure none := by rfl) (h1 : (assignEach [tg] X.env).map (·.2) = [assign tg X.env] := by rfl) :
    W1 X (.Assign [tg] (.Call (.Name x p) (e0 :: es) [] p2) pos) Γ N T := fun σ H0 R0 H R E D dn dr =>
  sS (ps_asg peS pgS hs hw h1) (ev_callMF C hr h0 (fun H1 R1 E1 Q q => ha σ H0 R0 H1 R1 E1 Q q) hS E (fun H1 v H' R' xs' E' s' t => by
    obtain ⟨z, e1, hz⟩ := t
    exact hb σ H0 R0 H' R' Γ1 v z E' e1 _ fun σ' E'' => dn σ' H' R' _ E'' s' (h xs' z hz)) hg hdb he hpl)
theorem frzRows1 {i : Nat} {a : Addr} {as : List Addr} {rs : List Row} (hΓ : Γ[i]? = some (.ob (bRows a as rs))) (hz : as.length ≤ sizeLine) (σ : St) (H0 R0 H R : Hp) (E : EnvOk X.K σ H0 R0 H R Γ) : EnvOk X.K σ H H H H ((Γ.map lentE).set i (.im (rList rAR) (as.zip rs))) := by
  obtain ⟨⟨v, ea, rfl, ha, hr, nd⟩, hR⟩ := E.ent i _ hΓ
  refine E.frz.tellG (i := i) (e0 := .no) (by rw [List.getElem?_map, hΓ]; rfl) ⟨.ref a, ea, a, _, rfl, ha, paired_ars hr, ?_⟩ fun b w => by cases w
  rw [List.length_zip, hr.1, Nat.min_self, ← hr.1]; exact hz
end
end Fc
namespace K1
open PySem L2 Fc
open PySem.Spec hiding Row
open PyProof.Rows hiding St
open PySem.Builtin.Int (intBits)
inductive Ins (p : Int) (rs : List Row) : List (Int × Int) → List Row → Prop
  | nil : Ins p rs [] rs
  | snoc {ts : List (Int × Int)} {cur : List Row} {k : Nat} {t : Int × Int} : Ins p rs ts cur → k ≤ cur.length → Ins p rs (ts ++ [t]) (insAt k (p, t.1, t.2, -1) cur)
inductive Webs (most : Int) : Nat → List Int → List Row → Prop
  | nil : Webs most 0 [] []
  | first {n : Nat} {many : Int} {ties : List (Int × Int)} {rs' : List Row} : Made n many ties → (n : Int) ≤ most → Ins 0 [] ties rs' → Webs most 1 [many] rs'
  | more {i : Nat} {places : List Int} {rs : List Row} {j : Nat} {r : Row} {n : Nat} {many : Int} {ties : List (Int × Int)} {rs' : List Row} : Webs most i places rs → 0 < i → rs[j]? = some r → r.2.2.2 = -1 → Made n many ties → (n : Int) ≤ most →
      Ins i (rs.set j (r.1, r.2.1, r.2.2.1, (i : Int))) ties rs' → Webs most (i + 1) (places ++ [many]) rs'
theorem Ins.mem {p : Int} {rs : List Row} {ts : List (Int × Int)} {cur : List Row} (h : Ins p rs ts cur) : ∀ r, r ∈ cur ↔ r ∈ rs ∨ ∃ t ∈ ts, r = (p, t.1, t.2, -1) := by
  induction h with
  | nil => intro r; simp
  | snoc h hk ih =>
    intro r
    rw [insAt_mem, ih]
    constructor
    · rintro (h | h | ⟨t, ht, e⟩)
      · exact .inr ⟨_, List.mem_append_right _ (List.mem_singleton.mpr rfl), h⟩
      · exact .inl h
      · exact .inr ⟨t, List.mem_append_left _ ht, e⟩
    · rintro (h | ⟨t, ht, e⟩)
      · exact .inr (.inl h)
      · rcases List.mem_append.mp ht with q | q
        · exact .inr (.inr ⟨t, q, e⟩)
        · rw [List.mem_singleton.mp q] at e; exact .inl e
theorem Ins.length {p : Int} {rs : List Row} {ts : List (Int × Int)} {cur : List Row} (h : Ins p rs ts cur) : cur.length = rs.length + ts.length := by
  induction h with
  | nil => rfl
  | snoc h hk ih => rw [insAt_length, ih, List.length_append]; rfl
structure WFacts (most : Int) (i : Nat) (places : List Int) (rs : List Row) : Prop where
  len : places.length = i
  sizes : ∀ m ∈ places, 2 ≤ m ∧ m ≤ 2 + most
  part : ∀ r ∈ rs, 0 ≤ r.1 ∧ r.1 < (i : Int)
  free : 0 < i → ∃ r ∈ rs, r.2.2.2 = -1
  many : (rs.length : Int) ≤ (i : Int) * (1 + most)
theorem Webs.facts {most : Int} {i : Nat} {places : List Int} {rs : List Row} (h : Webs most i places rs) : WFacts most i places rs := by
  induction h with
  | nil => exact ⟨rfl, by simp, by simp, by omega, by simp⟩
  | @first n many ties rs' hM hn hI =>
    obtain ⟨a, b, c⟩ := hM.sizes
    refine ⟨rfl, fun m hm => ?_, fun r hr => ?_, fun _ => ?_, ?_⟩
    · rw [List.mem_singleton.mp hm]; exact ⟨a, by omega⟩
    · rcases (hI.mem r).mp hr with q | ⟨t, _, e⟩
      · cases q
      · rw [e]; exact ⟨Int.le_refl _, by show (0 : Int) < 1; decide⟩
    · cases ties with
      | nil => simp at c
      | cons t ts => exact ⟨_, (hI.mem _).mpr (.inr ⟨t, List.mem_cons_self, rfl⟩), rfl⟩
    · rw [hI.length, c]; simp; omega
  | @more i places rs j r n many ties rs' hW hi hr hc hM hn hI ih =>
    obtain ⟨a, b, c⟩ := hM.sizes
    refine ⟨by rw [List.length_append, ih.len]; rfl, fun m hm => ?_, fun q hq => ?_, fun _ => ?_, ?_⟩
    · rcases List.mem_append.mp hm with q | q
      · exact ih.sizes m q
      · rw [List.mem_singleton.mp q]; exact ⟨a, by omega⟩
    · rcases (hI.mem q).mp hq with z | ⟨t, _, e⟩
      · rcases List.mem_or_eq_of_mem_set z with z | z
        · have := ih.part q z; push_cast; omega
        · rw [z]; have := ih.part r (List.mem_of_getElem? hr); push_cast; exact ⟨this.1, by show r.1 < _; omega⟩
      · rw [e]; push_cast; exact ⟨by omega, by show (i : Int) < _; omega⟩
    · cases ties with
      | nil => simp at c
      | cons t ts => exact ⟨_, (hI.mem _).mpr (.inr ⟨t, List.mem_cons_self, rfl⟩), rfl⟩
    · rw [hI.length, List.length_set, c]
      have := ih.many
      have e : ((i + 1 : Nat) : Int) * (1 + most) = (i : Int) * (1 + most) + (1 + most) := by push_cast; rw [Int.add_mul, Int.one_mul]
      rw [e]; push_cast; omega
structure FinR (parts : Int) (i : Nat) (rs0 rs : List Row) : Prop where
  len : rs.length = rs0.length
  row : ∀ (j : Nat) (r0 r : Row), rs0[j]? = some r0 → rs[j]? = some r → r = r0 ∨ (r0.2.2.2 = -1 ∧ r0.1 < r.2.2.2 ∧ r.2.2.2 < parts ∧ r = (r0.1, r0.2.1, r0.2.2.1, r.2.2.2))
  later : ∀ (j : Nat), i ≤ j → rs[j]? = rs0[j]?
def WebOk (pm most : Int) (v : Web) : Prop := ∃ (k : Nat) (rs0 : List Row), 0 < k ∧ (k : Int) ≤ pm ∧ Webs most k v.1 rs0 ∧ FinR k rs0.length rs0 v.2
end K1

set_option Elab.async false
set_option linter.all false
set_option maxRecDepth 100000
set_option maxHeartbeats 4000000
namespace K1
open PySem L2 Fc
open PySem.Spec hiding Row
open PyProof.Rows hiding St
open PySem.Builtin.Int (intBits)
section
variable {P : Program} {w : World} {K : PySem.W.Frag} {mg : Str → Option Value} {base : Heap} {f : Addr} {fd : FuncData}
abbrev sWB : Stmt := top at__law_web
abbrev nWB : List Str := ["_law_script", "_law_parts_most", "_law_most", "_law_first_here", "_law_parts", "_law_places", "_law_rows", "_law_part_here", "_law_many", "_law_ties", "_law_row", "_law_some", "_law_start", "_law_end", "_law_later"]
theorem scWB : FnScope nWB ["_law_script", "_law_parts_most", "_law_most"] (defScope sWB) := ⟨rfl, rfl, rfl, by decide +kernel, rfl, by decide +kernel, by decide +kernel⟩
def SWB : SpD := fun K ps T => ∃ (ns : List Int) (pm most : Int), ps = [⟨rScr, ns⟩, ⟨rInt, pm⟩, ⟨rInt, most⟩] ∧ (∀ n ∈ ns, intBits n ≤ 2 ^ 20) ∧ 0 < pm ∧ pm ≤ 100 ∧ 0 ≤ most ∧ most ≤ 1000 ∧ T = rtP K rWeb (WebOk pm most)
theorem picked {as : List Addr} {rs : List Row} {b : Addr} (h : b ∈ ((as.zip rs).filter fun x => decide (x.2.2.2.2 = -1)).map (·.1)) : ∃ (j : Nat) (r : Row), as[j]? = some b ∧ rs[j]? = some r ∧ r.2.2.2 = -1 := by
  obtain ⟨⟨b', r⟩, hm, rfl⟩ := List.mem_map.mp h
  obtain ⟨h1, h2⟩ := List.mem_filter.mp hm
  obtain ⟨j, hj⟩ := List.mem_iff_getElem?.mp h1
  rw [List.getElem?_zip_eq_some] at hj
  exact ⟨j, r, hj.1, hj.2, of_decide_eq_true h2⟩
theorem some_pick {as : List Addr} {rs : List Row} (hl : as.length = rs.length) (h : ∃ r ∈ rs, r.2.2.2 = -1) : 0 < (((as.zip rs).filter fun x => decide (x.2.2.2.2 = -1)).map (·.1)).length := by
  obtain ⟨r, hr, hc⟩ := h
  obtain ⟨j, hj⟩ := List.mem_iff_getElem?.mp hr
  have hjl : j < as.length := by rw [hl]; exact (List.getElem?_eq_some_iff.mp hj).1
  refine List.length_pos_of_mem (a := as[j]) (List.mem_map.mpr ⟨(as[j], r), List.mem_filter.mpr ⟨?_, decide_eq_true hc⟩, rfl⟩)
  exact List.mem_iff_getElem?.mpr ⟨j, by rw [List.getElem?_zip_eq_some]; exact ⟨List.getElem?_eq_getElem hjl, hj⟩⟩
theorem pick_le (as : List Addr) (rs : List Row) : (((as.zip rs).filter fun x => decide (x.2.2.2.2 = -1)).map (·.1)).length ≤ rs.length := by
  rw [List.length_map]
  refine Nat.le_trans (List.length_filter_le _ _) ?_
  rw [List.length_zip]; exact Nat.min_le_right _ _
theorem ok_WB (M : Mods mg) (CL : Cal P w K mg base "_law_left" 2 (spG SLF K)) (CD : Cal P w K mg base "_law_draw" 2 (spM rInt SDR K)) (CP : Cal P w K mg base "_law_part" 3 (spM rInt SPT K)) (F : Fun K "_law_web" "_law_web" sWB f fd) (hm : mg "_law_web" = some (.ref f)) (hb : Binds K fd ["_law_script", "_law_parts_most", "_law_most"] []) : Cal P w K mg base "_law_web" 4 (spG SWB K) := by
  have nd := scWB.nd
  have ndc : List.Nodup [("_law_row" : Str)] := by decide
  have CL := CL.mono (show 2 ≤ 3 by decide)
  have CD := CD.mono (show 2 ≤ 3 by decide)
  refine fn_ok F scWB hm hb (fun qs T ⟨_, _, _, e, _⟩ => by rw [e]; rfl) (fun cdv A outer s H E qs T hr hS => ?_)
  obtain ⟨ns, pm, most, rfl, hbits, p0, p1, m0, m1, rfl⟩ := hS
  change WS _ _ [.im rScr ns, .im rInt pm, .im rInt most, .no, .no, .no, .no, .no, .no, .no, .no, .no, .no, .no, .no] _ _
  refine ws_seq (w_setL 3 (evl_call CL hr (ha_cons (ev_name 0 rfl) (ha_cons ev_int ha_nil)) ⟨_, _, rfl, by decide, rfl⟩) ?_)
  obtain ⟨d, st, d0, d1, hD, hS⟩ := drawOk (left_st hbits 0) (by decide) (b := pm) p0 (by omega)
  refine ws_seq (w_set 4 (ev_add ev_int (ev_callM 3 CD hr (ha_cons (ev_name 1 rfl) ha_nil) rfl rfl (hS _))) ?_)
  refine ws_seq (w_setL 5 (r := rInt) (evl_lst ea_nil (by decide)) (ws_seq (w_setL 6 (r := rInt) (evl_lst ea_nil (by decide)) ?_)))
  refine WS.boxRows 6 rfl fun a => ?_
  have hz : ∀ {n : Nat}, n ≤ 200000 → n ≤ sizeLine := fun h => Nat.le_trans h (by decide)
  have hzl : ∀ {n : Nat}, n ≤ 200000 → n < sizeLine := fun h => Nat.lt_of_le_of_lt h (by decide)
  have mulb : ∀ i : Nat, (i : Int) ≤ 100 → (i : Int) * (1 + most) ≤ 100100 := fun i hi => by
    have h1 : (i : Int) * (1 + most) ≤ 100 * (1 + most) := Int.mul_le_mul_of_nonneg_right hi (by omega)
    omega
  refine ws_seq (w_forI (r := rInt) (fun i Γ => ∃ st places as rs v7 v8 v9 v10 v11 v12 v13 v14, Γ = [.im rScr ns, .im rInt pm, .im rInt most, .mu rInt st, .im rInt (1 + d), .mu rInt places, .ob (bRows a as rs), v7, v8, v9, v10, v11, v12, v13, v14] ∧ DSt (1 + i + rs.length) st ∧ as.length = rs.length ∧ Webs most i places rs)
    (iv_range1 M.range (ev_name 4 rfl) ⟨by omega, by omega⟩) (bg_name 7) ⟨st, [], [], [], .no, .no, .no, .no, .no, .no, .no, .no, rfl, hD.mono (by simp), rfl, .nil⟩ ?_ ?_)
  · rintro i x Γ hx ⟨st, places, as, rs, v7, v8, v9, v10, v11, v12, v13, v14, rfl, hD, hl, hW⟩
    obtain ⟨hi, rfl⟩ := ups_at hx
    have hi' : (i : Int) < 1 + d := by omega
    have fa := hW.facts
    have rsl : (rs.length : Int) ≤ 100100 := Int.le_trans fa.many (mulb i (by omega))
    change WS _ _ [.im rScr ns, .im rInt pm, .im rInt most, .mu rInt st, .im rInt (1 + d), .mu rInt places, .ob (bRows a as rs), .im rInt (0 + (i : Int)), v8, v9, v10, v11, v12, v13, v14] _ _
    rw [Int.zero_add]
    refine ws_seq (w_callMF CP hr (evl_call CL hr (ha_cons (ev_name 0 rfl) (ha_cons (ev_add ev_int (ev_name 7 rfl)) ha_nil)) ⟨_, _, rfl, by omega, rfl⟩) (haq_name 2 rfl haq_nil) ⟨most, left_st hbits _, rfl, m0, m1, rfl⟩ (bg_pair 8 9) ?_)
    rintro _ ⟨many, ties⟩ ⟨n, hn, hM⟩
    replace hM : Made n many ties := hM
    obtain ⟨z1, z2, z3⟩ := hM.sizes
    refine ws_seq (w_append 5 (ev_name 8 rfl) rfl rfl (hzl (by rw [fa.len]; omega)) ?_)
    -- the loop over the ties, from some rows on
    have tail : ∀ (st1 : List Int) (rs1 : List Row) (w10 w11 : Ent), DSt (2 + i + rs1.length) st1 → as.length = rs1.length → rs1.length = rs.length → (∀ rs', Ins i rs1 ties rs' → Webs most (i + 1) (places ++ [many]) rs') →
        WS (cxOf CX0 P w K mg base nWB "_law_web" (defScope sWB) f cdv A outer s H E).nox
          [((defBody sWB).getD 4 (.Pass ⟨0, 0, 0, 0⟩) |> fun | .For _ _ b _ _ => b.getD 3 (.Pass ⟨0, 0, 0, 0⟩) | _ => .Pass ⟨0, 0, 0, 0⟩)]
          [.im rScr ns, .im rInt pm, .im rInt most, .mu rInt st1, .im rInt (1 + d), .mu rInt (places ++ [many]), .ob (bRows a as rs1), .im rInt (i : Int), .im rInt many, .im (rList rTie) ties, w10, w11, v12, v13, v14]
          (fun Γ => ∃ st places as rs v7 v8 v9 v10 v11 v12 v13 v14, Γ = [.im rScr ns, .im rInt pm, .im rInt most, .mu rInt st, .im rInt (1 + d), .mu rInt places, .ob (bRows a as rs), v7, v8, v9, v10, v11, v12, v13, v14] ∧ DSt (1 + ((i + 1 : Nat) : Int) + rs.length) st ∧ as.length = rs.length ∧ Webs most (i + 1) places rs)
          (rtP K rWeb (WebOk pm most)) := by
      intro st1 rs1 w10 w11 hD1 hl1 hlr hfin
      refine ws_one (w_forI (r := rTie) (fun k Γ => ∃ st as rs' v12 v13, Γ = [.im rScr ns, .im rInt pm, .im rInt most, .mu rInt st, .im rInt (1 + d), .mu rInt (places ++ [many]), .ob (bRows a as rs'), .im rInt (i : Int), .im rInt many, .im (rList rTie) ties, w10, w11, v12, v13, v14] ∧ DSt (2 + i + rs'.length) st ∧ as.length = rs'.length ∧ Ins i rs1 (ties.take k) rs')
        (iv_list (ev_name 9 rfl)) (bg_pair 12 13) ⟨st1, as, rs1, v12, v13, rfl, hD1, hl1, .nil⟩ ?_ ?_)
      · rintro k t Γ ht ⟨st2, as2, rs2, u12, u13, rfl, hD2, hl2, hI⟩
        have hlen := hI.length
        have hk : k < ties.length := (List.getElem?_eq_some_iff.mp ht).1
        rw [List.length_take] at hlen
        have r2 : (rs2.length : Int) ≤ 150000 := by omega
        obtain ⟨q, st3, q0, q1, hD3, hS3⟩ := drawOk hD2 (by omega) (b := (rs2.length : Int) + 1) (by omega) (by omega)
        refine ws_one (w_insert 6 (r := ((i : Int), t.1, t.2, -1)) (ev_callM 3 CD hr (ha_cons (ev_add (ev_lenRows 6 M.len rfl) ev_int) ha_nil) rfl rfl (hS3 _)) (evl_lst (ea_cons (ev_name 7 rfl) (ea_cons (ev_name 12 rfl) (ea_cons (ev_name 13 rfl) (ea_cons (ev_neg ev_int) ea_nil)))) (by show 4 ≤ sizeLine; decide)) rfl rfl q0 (by omega) (hzl (by omega)) fun b => ?_)
        refine ⟨st3, _, _, _, _, rfl, hD3.mono (by rw [insAt_length]; push_cast; omega), by rw [insAt_length, insAt_length, hl2], ?_⟩
        have tk : ties.take (k + 1) = ties.take k ++ [t] := by rw [List.take_succ, ht]; rfl
        rw [tk]
        exact hI.snoc (by omega)
      · rintro Γ ⟨st2, as2, rs2, u12, u13, rfl, hD2, hl2, hI⟩
        rw [List.take_length] at hI
        exact ⟨st2, _, as2, rs2, _, _, _, _, _, _, _, _, rfl, hD2.mono (by push_cast; omega), hl2, hfin rs2 hI⟩
    refine ws_seq (w_if (tv_cmp c_gt (ev_name 7 rfl) ev_int) (fun h => ?_) (fun h => ws_end ?_))
    · have h : 0 < (i : Int) := of_decide_eq_true h
      have hfree := fa.free (by omega)
      have lpos := some_pick (as := as) hl hfree
      have lle := pick_le as rs
      refine ws_seq (w_compF 11 (frzRows1 (i := 6) rfl (hz (by omega))) (own := ["_law_row"]) (fr := []) (ix := []) (ra := rAR) (rb := rRef) (xs := as.zip rs) (p := fun x => decide (x.2.2.2.2 = -1)) (f := (·.1)) (fun _ _ _ _ _ h => h) (comp_mk (so := defScope sWB) (N0 := nWB) rfl rfl (fun x h => cell_has h) (by decide +kernel)) (iv_list (ev_name 6 rfl))
        (fun C s H ex => bg_name 0) (fun x => ⟨.inr rfl, trivial⟩) (fun C s H ex x hx => tf_one (tv_cmp c_eq (ev_colA (ev_name 0 rfl) rfl) (ev_neg ev_int))) (fun C s H ex x hx _ => EV.rep (ev_name 0 rfl) fun R v hv => hv.1) ?_)
      generalize hLd : ((as.zip rs).filter fun x => decide (x.2.2.2.2 = -1)).map (·.1) = L at lpos lle ⊢
      obtain ⟨q, st3, q0, q1, hD3, hS3⟩ := drawOk hD (by omega) (b := (L.length : Int)) (by omega) (by omega)
      obtain ⟨b, hbL⟩ : ∃ b, L[q.toNat]? = some b := ⟨_, List.getElem?_eq_getElem (by omega)⟩
      have hbm : b ∈ L := List.mem_of_getElem? hbL
      rw [← hLd] at hbm
      obtain ⟨j, r, hj1, hj2, hj3⟩ := picked hbm
      refine ws_one (w_setRow 6 (ev_name 7 rfl) (ev_ixM 11 (ev_callM 3 CD hr (ha_cons (ev_lenM 11 M.len rfl) ha_nil) rfl rfl (hS3 _)) rfl rfl (by rw [atI_of q0 (by omega)]; exact hbL)) rfl (hasRow1 hj1 hj2) ?_)
      exact tail st3 (rs.set j (r.1, r.2.1, r.2.2.1, (i : Int))) _ _ (hD3.mono (by rw [List.length_set]; omega)) (by rw [List.length_set]; exact hl) (List.length_set ..) fun rs' hI => hW.more (by omega) hj2 hj3 hM hn hI
    · have h : ¬ 0 < (i : Int) := of_decide_eq_false h
      have hi0 : i = 0 := by omega
      subst hi0
      cases hW
      exact tail st [] _ _ (hD.mono (by simp)) hl rfl fun rs' hI => .first hM hn hI
  · rintro Γ ⟨st, places, as, rs, v7, v8, v9, v10, v11, v12, v13, v14, rfl, hD, hl, hW⟩
    rw [ups_length] at hW hD
    have hk : ((1 + d).toNat : Int) = 1 + d := by omega
    have fa := hW.facts
    have rsl : (rs.length : Int) ≤ 100100 := Int.le_trans fa.many (mulb _ (by omega))
    refine WS.outer 6 rfl ?_
    refine ws_seq (w_forI (r := rRef) (fun i Γ => ∃ st rs' v10 v14, Γ = [.im rScr ns, .im rInt pm, .im rInt most, .mu rInt st, .im rInt (1 + d), .mu rInt places, .ob (bRows2 a as rs'), v7, v8, v9, v10, v11, v12, v13, v14] ∧ DSt (1 + (1 + d) + rs.length + i) st ∧ FinR (1 + d) i rs rs')
      (iv_list (ev_refs 6 rfl (hz (by omega)))) (bg_name 10) ⟨st, rs, v10, v14, rfl, hD.mono (by rw [hk]; simp), ⟨rfl, fun j r0 r h1 h2 => .inl (by rw [h1] at h2; exact (Option.some.inj h2).symm), fun j _ => rfl⟩⟩ ?_ ?_)
    · rintro i b Γ hib ⟨st1, rs1, u10, u14, rfl, hD1, hF⟩
      have hil : i < as.length := (List.getElem?_eq_some_iff.mp hib).1
      obtain ⟨r, hr0⟩ : ∃ r, rs[i]? = some r := ⟨_, List.getElem?_eq_getElem (by omega)⟩
      have hr1 : rs1[i]? = some r := by rw [hF.later i (Nat.le_refl _)]; exact hr0
      have pr := fa.part r (List.mem_of_getElem? hr0)
      obtain ⟨q, st3, q0, q1, hD3, hS3⟩ := drawOk hD1 (by omega) (b := 1 + d - r.1) (by omega) (by omega)
      refine ws_seq (w_set 14 (ev_callM 3 CD hr (ha_cons (ev_sub (ev_name 4 rfl) (ev_col 6 (ev_name 10 rfl) rfl (hasRow2 (r' := r) hib hr1) rfl)) ha_nil) rfl rfl (hS3 _)) ?_)
      refine ws_one (w_if (TW.tv (tw_and (tv_cmp c_eq (ev_col 6 (ev_name 10 rfl) rfl (hasRow2 (r' := r) hib hr1) rfl) (ev_neg ev_int)) (fun _ => tw_and1 (tv_cmp c_gt (ev_name 14 rfl) ev_int)))) (fun h => ?_) (fun h => ws_end ?_))
      · rw [Bool.and_eq_true] at h
        have hc : r.2.2.2 = -1 := of_decide_eq_true h.1
        have hq : 0 < q := of_decide_eq_true h.2
        refine ws_one (w_setRow 6 (ev_add (ev_col 6 (ev_name 10 rfl) rfl (hasRow2 (r' := r) hib hr1) rfl) (ev_name 14 rfl)) (ev_name 10 rfl) rfl (hasRow2 hib hr1) ?_)
        refine ⟨st3, _, _, _, rfl, hD3.mono (by push_cast; omega), ⟨by rw [List.length_set]; exact hF.len, fun j r0 rr h1 h2 => ?_, fun j hj => ?_⟩⟩
        · by_cases hji : j = i
          · subst hji
            rw [List.getElem?_set_self (by rw [hF.len]; omega)] at h2
            rw [hr0] at h1
            cases h1; cases h2
            exact .inr ⟨hc, by show r.1 < r.1 + q; omega, by show r.1 + q < 1 + d; omega, rfl⟩
          · rw [List.getElem?_set_ne (Ne.symm hji)] at h2
            exact hF.row j r0 rr h1 h2
        · rw [List.getElem?_set_ne (by omega)]
          exact hF.later j (by omega)
      · exact ⟨st3, rs1, _, _, rfl, hD3.mono (by push_cast; omega), ⟨hF.len, hF.row, fun j hj => hF.later j (by omega)⟩⟩
    · rintro Γ ⟨st1, rs1, u10, u14, rfl, hD1, hF⟩
      refine WS.frzRows 6 rfl (hz (by rw [hF.len]; omega)) ?_
      refine ws_one (w_ret (ev_pair (ha_cons (ev_own 5 rfl (hz (by rw [fa.len]; omega))) (ha_cons (EVL.im (evl_comp (own := ["_law_row"]) (fr := []) (ix := []) (p := fun _ => true) (f := id) (comp_mk (so := defScope sWB) (N0 := nWB) rfl rfl (fun x h => cell_has h) (by decide +kernel)) (iv_list (ev_name 6 rfl))
        (fun C s H ex => bg_name 0) (fun x => ⟨.inr rfl, trivial⟩) (fun C s H ex x hx => tf_nil) (fun C s H ex x hx _ => ev_tupRow M.tuple (ev_name 0 rfl)))) ha_nil))) ?_)
      refine ⟨(1 + d).toNat, rs, by omega, by omega, hW, ?_⟩
      rw [hk]
      have e : ((rs1.filter fun _ => true).map id) = rs1 := by rw [List.map_id, List.filter_eq_self.mpr (by simp)]
      show FinR (1 + d) rs.length rs ((rs1.filter fun _ => true).map id)
      rw [e]
      have hll : as.length = rs.length := hl
      rw [hll] at hF
      exact hF
end
end K1

set_option Elab.async false
set_option linter.all false
set_option maxRecDepth 100000
set_option maxHeartbeats 4000000
namespace K1
open PySem L2 Fc
open PySem.Spec hiding Row
open PyProof.Rows hiding St
open PySem.Builtin.Int (intBits)
theorem nodup_le {α : Type} [DecidableEq α] : ∀ {xs ys : List α}, xs.Nodup → (∀ x ∈ xs, x ∈ ys) → xs.length ≤ ys.length
  | [], _, _, _ => Nat.zero_le _
  | x :: xs, ys, h, hs => by
    obtain ⟨h1, h2⟩ := List.nodup_cons.mp h
    have hx : x ∈ ys := hs x List.mem_cons_self
    have := nodup_le (xs := xs) (ys := ys.erase x) h2 fun y hy => (List.mem_erase_of_ne (show y ≠ x from fun e => h1 (e ▸ hy))).mpr (hs y (List.mem_cons_of_mem _ hy))
    rw [List.length_erase_of_mem hx] at this
    have := List.length_pos_of_mem hx
    rw [List.length_cons]
    omega
theorem nodup_len {α : Type} [DecidableEq α] {xs ys : List α} (h : xs.Nodup) (h' : ys.Nodup) (e : ∀ x, x ∈ xs ↔ x ∈ ys) : xs.length = ys.length :=
  Nat.le_antisymm (nodup_le h fun x hx => (e x).mp hx) (nodup_le h' fun x hx => (e x).mpr hx)
def dOf (ks : List Int) : List (Int × V) := ks.map fun k => (k, .bl true)
theorem dOf_has (ks : List Int) (k : Int) : dHas (dOf ks) k = decide (k ∈ ks) := by
  unfold dHas dOf
  rw [List.any_map, Bool.eq_iff_iff, List.any_eq_true]
  simp
structure Srch (es : List (Int × Int)) (s : Int) (ks ws : List Int) : Prop where
  nd : ks.Nodup
  re : ∀ k ∈ ks, Reach es s k
  st : s ∈ ks
  wt : ∀ k ∈ ws, k ∈ ks
  bd : ∀ k ∈ ks, k ∈ s :: es.map (·.2)
theorem Srch.le {es : List (Int × Int)} {s : Int} {ks ws : List Int} (h : Srch es s ks ws) : ks.length ≤ es.length + 1 := by
  have := nodup_le h.nd h.bd
  simpa using this
section
variable {P : Program} {w : World} {K : PySem.W.Frag} {mg : Str → Option Value} {base : Heap} {f : Addr} {fd : FuncData}
abbrev sRE : Stmt := top at_reached
abbrev nRE : List Str := ["leads", "start", "found", "waiting", "place", "lead"]
theorem scRE : FnScope nRE ["leads", "start"] (defScope sRE) := ⟨rfl, rfl, rfl, by decide +kernel, rfl, by decide +kernel, by decide +kernel⟩
def SRE : SpD := fun K ps T => ∃ (es : List (Int × Int)) (s : Int), ps = [⟨rList rTie, es⟩, ⟨rInt, s⟩] ∧ es.length ≤ 100000 ∧ T = rtP K rDict fun kvs => (kvs.map (·.1)).Nodup ∧ ∀ k, k ∈ kvs.map (·.1) ↔ Reach es s k
theorem ok_RE (F : Fun K "reached" "reached" sRE f fd) (hm : mg "reached" = some (.ref f)) (hb : Binds K fd ["leads", "start"] []) : Cal P w K mg base "reached" 1 (spG SRE K) := by
  have nd := scRE.nd
  refine fn_ok F scRE hm hb (fun qs T ⟨_, _, e, _⟩ => by rw [e]; rfl) (fun cdv A outer s H E qs T hr hS => ?_)
  obtain ⟨es, s0, rfl, hlen, rfl⟩ := hS
  have hu := hu_of hr
  change WS _ _ [.im (rList rTie) es, .im rInt s0, .no, .no, .no, .no] _ _
  refine ws_seq (w_dict1 2 (quick_name 1 rfl) pe_bl (ws_seq (w_setL 3 (evl_lst (ea_cons (ev_name 1 rfl) ea_nil) (by show 1 ≤ sizeLine; decide)) ?_)))
  refine ws_seq (w_while (fun m Γ => ∃ ks ws v4 v5, Γ = [.im (rList rTie) es, .im rInt s0, .di (dOf ks), .mu rInt ws, v4, v5] ∧ Srch es s0 ks ws ∧ m = 2 * (es.length + 1 - ks.length) + ws.length ∧ m ≤ 2 * es.length + 1 ∧ ∀ k ∈ ks, k ∉ ws → ∀ b, (k, b) ∈ es → b ∈ ks) (m0 := 2 * (es.length + 1 - 1) + 1)
    ⟨[s0], [s0], .no, .no, rfl, ⟨by simp, fun k hk => by rw [List.mem_singleton.mp hk]; exact .base, List.mem_singleton.mpr rfl, fun k hk => hk, fun k hk => by rw [List.mem_singleton.mp hk]; exact List.mem_cons_self⟩, rfl, Nat.le_refl _, fun k hk hn => absurd hk hn⟩ ?_)
  rintro m Γ ⟨ks, ws, v4, v5, rfl, hI, rfl, hmb, hcl⟩
  refine ⟨!ws.isEmpty, _, tv_own 3 rfl, fun hne => ?_, fun he => ?_⟩
  · have hws : ws ≠ [] := by intro e; rw [e] at hne; exact absurd hne (by decide)
    have hpos : 0 < ws.length := List.length_pos_iff.mpr hws
    obtain ⟨p, hp⟩ : ∃ p, ws[ws.length - 1]? = some p := ⟨_, List.getElem?_eq_getElem (by omega)⟩
    have hpm : p ∈ ws := List.mem_of_getElem? hp
    have hsplit : ws = ws.dropLast ++ [p] := by
      have e := List.dropLast_concat_getLast hws
      rw [List.getLast_eq_getElem, ] at e
      rw [List.getElem?_eq_getElem (by omega)] at hp
      rw [Option.some.inj hp] at e
      exact e.symm
    have hdl : ws.dropLast.length = ws.length - 1 := List.length_dropLast
    refine ws_seq (w_set 4 (ev_pop 3 rfl hp) ?_)
    refine ws_one (w_forI (r := rTie) (fun i Γ => ∃ ks1 ws1 v5, Γ = [.im (rList rTie) es, .im rInt s0, .di (dOf ks1), .mu rInt ws1, .im rInt p, v5] ∧ Srch es s0 ks1 ws1 ∧ p ∈ ks1 ∧ 2 * (es.length + 1 - ks1.length) + ws1.length < 2 * (es.length + 1 - ks.length) + ws.length ∧ (∀ k ∈ ks1, k ∉ ws1 → k ≠ p → ∀ b, (k, b) ∈ es → b ∈ ks1) ∧ ∀ (j : Nat) b, j < i → es[j]? = some (p, b) → b ∈ ks1)
      (iv_list (ev_name 0 rfl)) (bg_name 5) ⟨ks, ws.dropLast, v5, rfl, ⟨hI.nd, hI.re, hI.st, fun k hk => hI.wt k (List.dropLast_subset _ hk), hI.bd⟩, hI.wt p hpm, by omega, fun k hk hn hkp => hcl k hk fun hw => ?_, fun j b hj => absurd hj (Nat.not_lt_zero _)⟩ ?_ ?_)
    · rw [hsplit] at hw
      rcases List.mem_append.mp hw with q | q
      · exact hn q
      · exact hkp (List.mem_singleton.mp q)
    · rintro i t Γ ht ⟨ks1, ws1, u5, rfl, hJ, hp1, hme, hc1, hc2⟩
      have htm : t ∈ es := List.mem_of_getElem? ht
      refine ws_one (w_if (TW.tv (tw_and (tv_cmp c_eq (ev_fst (ev_name 5 rfl)) (ev_name 4 rfl)) (fun _ => tw_and1 (tv_dinM 2 true hu (ev_snd (ev_name 5 rfl)) rfl)))) (fun h => ?_) (fun h => ws_end ?_))
      · rw [Bool.and_eq_true] at h
        have h1 : t.1 = p := of_decide_eq_true h.1
        have h2 : t.2 ∉ ks1 := by
          have := h.2
          rw [if_pos rfl, dOf_has] at this
          simpa using this
        have hJ' : Srch es s0 (ks1 ++ [t.2]) (ws1 ++ [t.2]) := by
          refine ⟨nd_snoc hJ.nd h2, fun k hk => ?_, List.mem_append_left _ hJ.st, fun k hk => ?_, fun k hk => ?_⟩
          · rcases List.mem_append.mp hk with q | q
            · exact hJ.re k q
            · rw [List.mem_singleton.mp q]
              exact .step (hJ.re p hp1) (by rw [← h1]; exact htm)
          · rcases List.mem_append.mp hk with q | q
            · exact List.mem_append_left _ (hJ.wt k q)
            · exact List.mem_append_right _ q
          · rcases List.mem_append.mp hk with q | q
            · exact hJ.bd k q
            · rw [List.mem_singleton.mp q]
              exact List.mem_cons_of_mem _ (List.mem_map.mpr ⟨t, htm, rfl⟩)
        have hle := hJ'.le
        have hle1 := hJ.le
        rw [List.length_append, List.length_singleton] at hle
        refine ws_seq (w_dputNew 2 hu (ev_snd (ev_name 5 rfl)) pe_bl rfl (by rw [dOf_has]; exact decide_eq_false h2) (by unfold dOf; rw [List.length_map]; exact Nat.lt_of_le_of_lt (show ks1.length ≤ 100001 by omega) (by decide)) ?_)
        have ed : dOf ks1 ++ [(t.2, V.bl true)] = dOf (ks1 ++ [t.2]) := by unfold dOf; rw [List.map_append]; rfl
        rw [ed]
        have hwl : ws1.length ≤ 400000 := by
          omega
        refine ws_one (w_append 3 (ev_snd (ev_name 5 rfl)) rfl rfl (Nat.lt_of_le_of_lt hwl (by decide)) ?_)
        refine ⟨ks1 ++ [t.2], ws1 ++ [t.2], _, rfl, hJ', List.mem_append_left _ hp1, ?_, fun k hk hn hkp b hb => ?_, fun j b hj hjb => ?_⟩
        · rw [List.length_append, List.length_append, List.length_singleton]; omega
        · rcases List.mem_append.mp hk with q | q
          · exact List.mem_append_left _ (hc1 k q (fun z => hn (List.mem_append_left _ z)) hkp b hb)
          · exact absurd (List.mem_append_right _ q) hn
        · rcases Nat.lt_or_ge j i with q | q
          · exact List.mem_append_left _ (hc2 j b q hjb)
          · have : j = i := by omega
            subst this
            rw [ht] at hjb
            cases hjb
            exact List.mem_append_right _ (List.mem_singleton.mpr rfl)
      · refine ⟨ks1, ws1, _, rfl, hJ, hp1, hme, hc1, fun j b hj hjb => ?_⟩
        rcases Nat.lt_or_ge j i with q | q
        · exact hc2 j b q hjb
        · have : j = i := by omega
          subst this
          rw [ht] at hjb
          cases hjb
          have h' := h
          rw [Bool.and_eq_false_iff] at h'
          rcases h' with z | z
          · exact absurd rfl (of_decide_eq_false z)
          · rw [if_pos rfl, dOf_has] at z
            simpa using z
    · rintro Γ ⟨ks1, ws1, u5, rfl, hJ, hp1, hme, hc1, hc2⟩
      refine ⟨_, hme, ks1, ws1, _, _, rfl, hJ, rfl, by omega, fun k hk hn b hb => ?_⟩
      by_cases hkp : k = p
      · subst hkp
        obtain ⟨j, hj⟩ := List.mem_iff_getElem?.mp hb
        exact hc2 j b (List.getElem?_eq_some_iff.mp hj).1 hj
      · exact hc1 k hk hn hkp b hb
  · have hws : ws = [] := by
      cases ws with
      | nil => rfl
      | cons _ _ => simp at he
    subst hws
    refine ws_one (w_retD 2 rfl ?_)
    have em : (dOf ks).map (·.1) = ks := by unfold dOf; rw [List.map_map]; exact List.map_id ks
    rw [em]
    exact ⟨hI.nd, fun k => ⟨hI.re k, fun hk => Reach.sub (P := fun k => k ∈ ks) hI.st (fun a b ha hab => hcl a ha (by simp) b hab) hk⟩⟩
open Classical in
noncomputable def reachN (es : List (Int × Int)) (s n : Int) : Bool := decide (∃ ks : List Int, ks.Nodup ∧ (∀ k, k ∈ ks ↔ Reach es s k) ∧ (ks.length : Int) = n)
open Classical in
theorem reachN_is {es : List (Int × Int)} {s n : Int} {ks : List Int} (h : ks.Nodup) (e : ∀ k, k ∈ ks ↔ Reach es s k) : decide ((ks.length : Int) = n) = reachN es s n := by
  unfold reachN
  by_cases hn : (ks.length : Int) = n
  · rw [decide_eq_true hn, decide_eq_true]; exact ⟨ks, h, e, hn⟩
  · rw [decide_eq_false hn, decide_eq_false]
    rintro ⟨ks', h', e', hn'⟩
    exact hn (by rw [← hn', nodup_len h h' fun k => (e k).trans (e' k).symm])
def fwd (rs : List Row) (p : Int) : List (Int × Int) := (rs.filter fun r => decide (r.1 = p)).map fun r => (r.2.1, r.2.2.1)
def bwd (rs : List Row) (p : Int) : List (Int × Int) := (rs.filter fun r => decide (r.1 = p)).map fun r => (r.2.2.1, r.2.1)
noncomputable def lieF (rs : List Row) (p n : Int) : Bool := reachN (fwd rs p) 0 n && reachN (bwd rs p) 1 n
abbrev sLO : Stmt := top at_lies_on_ways
abbrev nLO : List Str := ["rows", "part", "size", "ahead", "behind"]
theorem scLO : FnScope nLO ["rows", "part", "size"] (defScope sLO) := ⟨rfl, rfl, rfl, by decide +kernel, rfl, by decide +kernel, by decide +kernel⟩
def SLO : SpD := fun K ps T => ∃ (rs : List Row) (p n : Int), ps = [⟨rList rRow, rs⟩, ⟨rInt, p⟩, ⟨rInt, n⟩] ∧ rs.length ≤ 1000 ∧ T = rtP K rBool (· = lieF rs p n)
theorem ok_LO (M : Mods mg) (CR : Cal P w K mg base "reached" 1 (spG SRE K)) (F : Fun K "lies_on_ways" "lies_on_ways" sLO f fd) (hm : mg "lies_on_ways" = some (.ref f)) (hb : Binds K fd ["rows", "part", "size"] []) : Cal P w K mg base "lies_on_ways" 2 (spG SLO K) := by
  have nd := scLO.nd
  have ndc : List.Nodup [("row" : Str), "part"] := by decide
  obtain ⟨t1, hB⟩ := M.begin_
  obtain ⟨t2, hE⟩ := M.end_
  refine fn_ok F scLO hm hb (fun qs T ⟨_, _, _, e, _⟩ => by rw [e]; rfl) (fun cdv A outer s H E qs T hr hS => ?_)
  obtain ⟨rs, p, n, rfl, hl, rfl⟩ := hS
  change WS _ _ [.im (rList rRow) rs, .im rInt p, .im rInt n, .no, .no] _ _
  have lf : ∀ g : Row → Int × Int, ((rs.filter fun r => decide (r.1 = p)).map g).length ≤ 100000 := fun g => by
    rw [List.length_map]
    have := List.length_filter_le (fun r : Row => decide (r.1 = p)) rs
    omega
  refine ws_seq (w_callP 3 CR hr (ha_cons (EVL.im (evl_comp (own := ["row"]) (fr := ["part"]) (ix := [1]) (p := fun r => decide (r.1 = p)) (f := fun r => (r.2.1, r.2.2.1)) (comp_mk (so := defScope sLO) (N0 := nLO) rfl rfl (fun x h => cell_has h) (by decide +kernel)) (iv_list (ev_name 0 rfl))
      (fun C s H ex => bg_name 0) (fun x => ⟨.inr rfl, .inl rfl, trivial⟩) (fun C s H ex x hx => tf_one (tv_cmp c_eq (ev_row0 (ev_name 0 rfl)) (ev_name 1 rfl))) (fun C s H ex x hx _ => ev_pair (ha_cons (ev_row1 (ev_name 0 rfl)) (ha_cons (ev_row2 (ev_name 0 rfl)) ha_nil))))) (ha_cons (ev_glob hB) ha_nil)) ⟨_, _, rfl, lf _, rfl⟩ ?_)
  rintro kv1 ⟨n1, e1⟩
  refine ws_seq (w_callP 4 CR hr (ha_cons (EVL.im (evl_comp (own := ["row"]) (fr := ["part"]) (ix := [1]) (p := fun r => decide (r.1 = p)) (f := fun r => (r.2.2.1, r.2.1)) (comp_mk (so := defScope sLO) (N0 := nLO) rfl rfl (fun x h => cell_has h) (by decide +kernel)) (iv_list (ev_name 0 rfl))
      (fun C s H ex => bg_name 0) (fun x => ⟨.inr rfl, .inl rfl, trivial⟩) (fun C s H ex x hx => tf_one (tv_cmp c_eq (ev_row0 (ev_name 0 rfl)) (ev_name 1 rfl))) (fun C s H ex x hx _ => ev_pair (ha_cons (ev_row2 (ev_name 0 rfl)) (ha_cons (ev_row1 (ev_name 0 rfl)) ha_nil))))) (ha_cons (ev_glob hE) ha_nil)) ⟨_, _, rfl, lf _, rfl⟩ ?_)
  rintro kv2 ⟨n2, e2⟩
  refine ws_one (w_ret (ev_and (ev_cmp c_eq (ev_lenD M.len (ev_name 3 rfl)) (ev_name 2 rfl)) (fun _ => ev_one (ev_cmp c_eq (ev_lenD M.len (ev_name 4 rfl)) (ev_name 2 rfl)))) ?_)
  have q1 := reachN_is (n := n) n1 e1
  have q2 := reachN_is (n := n) n2 e2
  rw [List.length_map] at q1 q2
  show (decide ((kv1.length : Int) = n) && decide ((kv2.length : Int) = n)) = lieF rs p n
  rw [q1, q2]; rfl
abbrev sWE : Stmt := top at_is_web
abbrev nWE : List Str := ["web", "places", "rows"]
theorem scWE : FnScope nWE ["web"] (defScope sWE) := ⟨rfl, rfl, rfl, by decide +kernel, rfl, by decide +kernel, by decide +kernel⟩
noncomputable def webF (v : Web) : Bool :=
  if !sizes v then false
  else if !((v.2.filter fun _ => true).map (leads v.1)).all id then false
  else if !(((ups (0 + 1) ((v.1.length : Int) - (0 + 1)).toNat).filter fun _ => true).map (called v.2)).all id then false
  else (((nums v.1).filter fun _ => true).map fun x => lieF v.2 x.1 x.2).all id
def SWE : SpD := fun K ps T => ∃ v : Web, ps = [⟨rWeb, v⟩] ∧ v.1.length ≤ 1000 ∧ v.2.length ≤ 1000 ∧ T = rtP K rBool (· = webF v)
theorem ok_WE (M : Mods mg) (C1 : Cal P w K mg base "has_web_form" 4 (spG SWF K)) (C2 : Cal P w K mg base "has_web_sizes" 1 (spG SWZ K)) (C3 : Cal P w K mg base "leads_within" 1 (spG SLW K)) (C4 : Cal P w K mg base "is_called" 1 (spG SIC K)) (C5 : Cal P w K mg base "lies_on_ways" 2 (spG SLO K)) (F : Fun K "is_web" "is_web" sWE f fd) (hm : mg "is_web" = some (.ref f)) (hb : Binds K fd ["web"] []) : Cal P w K mg base "is_web" 5 (spG SWE K) := by
  have nd := scWE.nd
  have C2 := C2.mono (show 1 ≤ 4 by decide)
  have C3 := C3.mono (show 1 ≤ 4 by decide)
  have C4 := C4.mono (show 1 ≤ 4 by decide)
  have C5 := C5.mono (show 2 ≤ 4 by decide)
  have nd1 : List.Nodup [("row" : Str), "places"] := by decide
  have nd2 : List.Nodup [("part" : Str), "rows"] := by decide
  have nd3 : List.Nodup [("part" : Str), "size", "rows"] := by decide
  obtain ⟨t1, hFP⟩ := M.firstPart
  refine fn_ok F scWE hm hb (fun qs T ⟨_, e, _⟩ => by rw [e]; rfl) (fun cdv A outer s H E qs T hr hS => ?_)
  obtain ⟨v, rfl, l1, l2, rfl⟩ := hS
  change WS _ _ [.im rWeb v, .no, .no] _ _
  refine ws_seq (w_if (TW.tv (tw_or (tv_not (tv_bool (ev_call C1 hr (ha_cons (ev_name 0 rfl) ha_nil) ⟨v, rfl, rfl⟩))) (fun _ => tw_or1 (tv_not (tv_bool (ev_call C2 hr (ha_cons (ev_name 0 rfl) ha_nil) ⟨v, rfl, rfl⟩)))))) (fun h => ?_) (fun h => ws_end ?_))
  · have h : (!sizes v) = true := by simpa using h
    exact ws_one (w_ret ev_bool (by rw [webF, if_pos h]))
  have h1 : (!sizes v) = false := by simpa using h
  refine ws_seq (w_set 1 (ev_fst (r := rList rInt) (r' := rList rRow) (ev_name 0 rfl)) (ws_seq (w_set 2 (ev_snd (r := rList rInt) (r' := rList rRow) (ev_name 0 rfl)) ?_)))
  refine ws_seq (w_if (tv_not (tv_bool (ev_all M.all (EVL.im (evl_comp (own := ["row"]) (fr := ["places"]) (ix := [1]) (p := fun _ => true) (f := leads v.1) (comp_mk (so := defScope sWE) (N0 := nWE) rfl rfl (fun x h => cell_has h) (by decide +kernel)) (iv_list (ev_name 2 rfl))
      (fun C s H ex => bg_name 0) (fun x => ⟨.inr rfl, .inl rfl, trivial⟩) (fun C s H ex x hx => tf_nil) (fun C s H ex x hx _ => ev_call C3 hr (ha_cons (ev_name 1 rfl) (ha_cons (ev_name 0 rfl) ha_nil)) ⟨_, _, rfl, rfl⟩)))))) (fun h => ?_) (fun h => ws_end ?_))
  · exact ws_one (w_ret ev_bool (by rw [webF, if_neg (by rw [h1]; decide), if_pos h]))
  have h2 := h
  refine ws_seq (w_if (tv_not (tv_bool (ev_all M.all (EVL.im (evl_comp (own := ["part"]) (fr := ["rows"]) (ix := [2]) (p := fun _ => true) (f := called v.2) (comp_mk (so := defScope sWE) (N0 := nWE) rfl rfl (fun x h => cell_has h) (by decide +kernel)) (iv_range2 M.range (ev_add (ev_glob hFP) ev_int) (ev_len M.len (ev_name 1 rfl)) ⟨by decide, by decide, by omega, by omega⟩)
      (fun C s H ex => bg_name 0) (fun x => ⟨.inr rfl, .inl rfl, trivial⟩) (fun C s H ex x hx => tf_nil) (fun C s H ex x hx _ => ev_call C4 hr (ha_cons (ev_name 1 rfl) (ha_cons (ev_name 0 rfl) ha_nil)) ⟨_, _, rfl, rfl⟩)))))) (fun h => ?_) (fun h => ws_end ?_))
  · exact ws_one (w_ret ev_bool (by rw [webF, if_neg (by rw [h1]; decide), if_neg (by rw [h2]; decide), if_pos h]))
  have h3 := h
  refine ws_one (w_ret (ev_all M.all (EVL.im (evl_comp (own := ["part", "size"]) (fr := ["rows"]) (ix := [2]) (p := fun _ => true) (f := fun x => lieF v.2 x.1 x.2) (comp_mk (so := defScope sWE) (N0 := nWE) rfl rfl (fun x h => cell_has h) (by decide +kernel)) (iv_enum M.enumerate (ev_name 1 rfl))
      (fun C s H ex => bg_pair 0 1) (fun x => ⟨.inr rfl, .inr rfl, .inl rfl, trivial⟩) (fun C s H ex x hx => tf_nil) (fun C s H ex x hx _ => ev_call C5 hr (ha_cons (ev_name 2 rfl) (ha_cons (ev_name 0 rfl) (ha_cons (ev_name 1 rfl) ha_nil))) ⟨_, _, _, rfl, l2, rfl⟩)))) ?_)
  rw [webF, if_neg (by rw [h1]; decide), if_neg (by rw [h2]; decide), if_neg (by rw [h3]; decide)]
end
end K1

set_option Elab.async false
set_option linter.all false
set_option maxRecDepth 100000
set_option maxHeartbeats 4000000
namespace Fc
open PySem PySem.Spec L2
open PyProof.Rows hiding St
section
variable {X : Cx} {Γ Γ1 Γ2 Γ3 : Ga} {α β γ δ : Type} {N : Ga → Prop} {T : RT}
end
end Fc
namespace K1
open PySem L2 Fc
open PySem.Spec hiding Row
open PyProof.Rows hiding St
open PySem.Builtin.Int (intBits)
theorem ups_mem {n : Nat} {k : Int} : k ∈ ups 0 n ↔ 0 ≤ k ∧ k < n := by
  unfold ups
  rw [List.mem_map]
  constructor
  · rintro ⟨j, hj, rfl⟩
    have := List.mem_range.mp hj
    omega
  · rintro ⟨h0, h1⟩
    exact ⟨k.toNat, List.mem_range.mpr (by omega), by omega⟩
section
variable {P : Program} {w : World} {K : PySem.W.Frag} {mg : Str → Option Value} {base : Heap} {f : Addr} {fd : FuncData}
abbrev sCP : Stmt := top at__law_copy
theorem scCP : FnScope ["_law_web_here"] ["_law_web_here"] (defScope sCP) := ⟨rfl, rfl, rfl, by decide +kernel, rfl, by decide +kernel, by decide +kernel⟩
def SCP : SpD := fun K ps T => ∃ v : Web, ps = [⟨rWeb, v⟩] ∧ T = rtP K rWeb (· = v)
theorem ok_CP (M : Mods mg) (F : Fun K "_law_copy" "_law_copy" sCP f fd) (hm : mg "_law_copy" = some (.ref f)) (hb : Binds K fd ["_law_web_here"] []) : Cal P w K mg base "_law_copy" 1 (spG SCP K) := by
  have nd := scCP.nd
  refine fn_ok F scCP hm hb (fun qs T ⟨_, e, _⟩ => by rw [e]; rfl) (fun cdv A outer s H E qs T hr hS => ?_)
  obtain ⟨v, rfl, rfl⟩ := hS
  change WS _ _ [.im rWeb v] _ _
  exact ws_one (w_ret (r := rPair (rList rInt) (rList rRow)) (ev_pair (ha_cons (EVL.im (evl_list M.list (ev_fst (r := rList rInt) (r' := rList rRow) (ev_name 0 rfl)))) (ha_cons (EVL.im (evl_list M.list (ev_snd (r := rList rInt) (r' := rList rRow) (ev_name 0 rfl)))) ha_nil))) rfl)
end
end K1

set_option Elab.async false
set_option linter.all false
set_option maxRecDepth 100000
set_option maxHeartbeats 4000000
namespace K1
open PySem L2 Fc
open PySem.Spec hiding Row
open PyProof.Rows hiding St
theorem Fc_reach_mono {es es' : List (Int × Int)} {s : Int} (h : ∀ t ∈ es, t ∈ es') : ∀ {k : Int}, Reach es s k → Reach es' s k
  | _, .base => .base
  | _, .step r m => .step (Fc_reach_mono h r) (h _ m)
def swp (t : Int × Int) : Int × Int := (t.2, t.1)
theorem swp_mem {es : List (Int × Int)} {a b : Int} : (a, b) ∈ es.map swp ↔ (b, a) ∈ es := by
  rw [List.mem_map]
  constructor
  · rintro ⟨⟨x, y⟩, h, e⟩
    simp [swp] at e
    rw [← e.1, ← e.2]; exact h
  · intro h; exact ⟨(b, a), h, rfl⟩
structure MGood (many : Int) (ties : List (Int × Int)) : Prop where
  m2 : 2 ≤ many
  bd : ∀ t ∈ ties, 0 ≤ t.1 ∧ t.1 < many ∧ t.1 ≠ 1 ∧ 0 ≤ t.2 ∧ t.2 < many
  fw : ∀ k, 0 ≤ k → k < many → Reach ties 0 k
  bw : ∀ k, 0 ≤ k → k < many → Reach (ties.map swp) 1 k
def bmp (n k : Int) : Int := k + (if decide (n ≤ k) then 1 else 0)
theorem bmp_lt {n k : Int} (h : k < n) : bmp n k = k := by unfold bmp; rw [decide_eq_false (by omega)]; simp
theorem bmp_ge {n k : Int} (h : n ≤ k) : bmp n k = k + 1 := by unfold bmp; rw [decide_eq_true h]; simp
theorem split_reach {n : Int} {ties : List (Int × Int)} {at_ : Nat} {t : Int × Int} (ht : (bumped n ties)[at_]? = some t) {s : Int} :
    ∀ {k : Int}, Reach ties s k → Reach ((bumped n ties ++ [(n, t.2)]).set at_ (t.1, n)) (bmp n s) (bmp n k)
  | _, .base => .base
  | _, .step (a := x) (b := y) r m => by
    have ih := split_reach ht r
    obtain ⟨j, hj⟩ := List.mem_iff_getElem?.mp m
    have hb : (bumped n ties)[j]? = some (bmp n x, bmp n y) := by rw [bumped_eq, List.getElem?_map, hj]; rfl
    have hjl : j < (bumped n ties).length := (List.getElem?_eq_some_iff.mp hb).1
    have hal : at_ < (bumped n ties).length := (List.getElem?_eq_some_iff.mp ht).1
    by_cases e : j = at_
    · subst e
      rw [ht] at hb
      have e1 : t.1 = bmp n x := by rw [Option.some.inj hb]
      have e2 : t.2 = bmp n y := by rw [Option.some.inj hb]
      refine .step (.step ih (b := n) ?_) ?_
      · refine List.mem_iff_getElem?.mpr ⟨j, ?_⟩
        rw [List.getElem?_set_self (by rw [List.length_append]; omega), e1]
      · refine List.mem_iff_getElem?.mpr ⟨(bumped n ties).length, ?_⟩
        rw [List.getElem?_set_ne (by omega), List.getElem?_append_right (Nat.le_refl _), Nat.sub_self, e2]; rfl
    · refine .step ih (List.mem_iff_getElem?.mpr ⟨j, ?_⟩)
      rw [List.getElem?_set_ne (by omega), List.getElem?_append_left hjl, hb]
theorem split_back {n : Int} {ties : List (Int × Int)} {at_ : Nat} {t : Int × Int} (ht : (bumped n ties)[at_]? = some t) {s : Int} :
    ∀ {k : Int}, Reach (ties.map swp) s k → Reach (((bumped n ties ++ [(n, t.2)]).set at_ (t.1, n)).map swp) (bmp n s) (bmp n k)
  | _, .base => .base
  | _, .step (a := y) (b := x) r m => by
    have ih := split_back ht r
    obtain ⟨j, hj⟩ := List.mem_iff_getElem?.mp (swp_mem.mp m)
    have hb : (bumped n ties)[j]? = some (bmp n x, bmp n y) := by rw [bumped_eq, List.getElem?_map, hj]; rfl
    have hjl : j < (bumped n ties).length := (List.getElem?_eq_some_iff.mp hb).1
    by_cases e : j = at_
    · subst e
      rw [ht] at hb
      have e1 : t.1 = bmp n x := by rw [Option.some.inj hb]
      have e2 : t.2 = bmp n y := by rw [Option.some.inj hb]
      refine .step (.step ih (b := n) (swp_mem.mpr ?_)) (swp_mem.mpr ?_)
      · refine List.mem_iff_getElem?.mpr ⟨(bumped n ties).length, ?_⟩
        rw [List.getElem?_set_ne (by omega), List.getElem?_append_right (Nat.le_refl _), Nat.sub_self, e2]; rfl
      · refine List.mem_iff_getElem?.mpr ⟨j, ?_⟩
        rw [List.getElem?_set_self (by rw [List.length_append]; omega), e1]
    · refine .step ih (swp_mem.mpr (List.mem_iff_getElem?.mpr ⟨j, ?_⟩))
      rw [List.getElem?_set_ne (by omega), List.getElem?_append_left hjl, hb]
theorem Made.good {n : Nat} {many : Int} {ties : List (Int × Int)} (h : Made n many ties) : MGood many ties := by
  induction h with
  | base =>
    refine ⟨by decide, by simp, fun k h0 h1 => ?_, fun k h0 h1 => ?_⟩
    · rcases (show k = 0 ∨ k = 1 by omega) with rfl | rfl
      · exact .base
      · exact .step .base (List.mem_singleton.mpr rfl)
    · rcases (show k = 0 ∨ k = 1 by omega) with rfl | rfl
      · exact .step .base (List.mem_singleton.mpr rfl)
      · exact .base
  | @split n many ties at_ new t h ht h2 hm ih =>
    have tm : ∃ u ∈ ties, bump new u = t := by
      have := List.mem_of_getElem? ht
      rw [bumped_eq] at this
      exact List.mem_map.mp this
    obtain ⟨u, hu, rfl⟩ := tm
    have ub := ih.bd u hu
    have b1 : ∀ k : Int, 0 ≤ k → k < many → 0 ≤ bmp new k ∧ bmp new k < many + 1 ∧ (k ≠ 1 → bmp new k ≠ 1) := fun k h0 h1 => by
      by_cases hk : new ≤ k
      · rw [bmp_ge hk]; omega
      · rw [bmp_lt (by omega)]; omega
    have hal : at_ < (bumped new ties).length := (List.getElem?_eq_some_iff.mp ht).1
    have q0 : bmp new 0 = 0 := bmp_lt (by omega)
    have q1 : bmp new 1 = 1 := bmp_lt (by omega)
    have pre : ∀ k, 0 ≤ k → k < many + 1 → k = new ∨ ∃ j, 0 ≤ j ∧ j < many ∧ bmp new j = k := fun k h0 h1 => by
      rcases (show k = new ∨ k < new ∨ new < k by omega) with e | e | e
      · exact .inl e
      · exact .inr ⟨k, h0, by omega, bmp_lt e⟩
      · exact .inr ⟨k - 1, by omega, by omega, by rw [bmp_ge (by omega)]; omega⟩
    have fw' : ∀ j, 0 ≤ j → j < many → Reach ((bumped new ties ++ [(new, (bump new u).2)]).set at_ ((bump new u).1, new)) 0 (bmp new j) := fun j h0 h1 => by
      have := split_reach ht (ih.fw j h0 h1)
      rwa [q0] at this
    have bw' : ∀ j, 0 ≤ j → j < many → Reach (((bumped new ties ++ [(new, (bump new u).2)]).set at_ ((bump new u).1, new)).map swp) 1 (bmp new j) := fun j h0 h1 => by
      have := split_back ht (ih.bw j h0 h1)
      rwa [q1] at this
    refine ⟨by omega, fun x hx => ?_, fun k h0 h1 => ?_, fun k h0 h1 => ?_⟩
    · rcases List.mem_or_eq_of_mem_set hx with q | q
      · rcases List.mem_append.mp q with q | q
        · rw [bumped_eq] at q
          obtain ⟨y, hy, rfl⟩ := List.mem_map.mp q
          have yb := ih.bd y hy
          have c1 := b1 y.1 yb.1 yb.2.1
          have c2 := b1 y.2 yb.2.2.2.1 yb.2.2.2.2
          exact ⟨c1.1, c1.2.1, c1.2.2 yb.2.2.1, c2.1, c2.2.1⟩
        · rw [List.mem_singleton.mp q]
          have c2 := b1 u.2 ub.2.2.2.1 ub.2.2.2.2
          exact ⟨by show (0 : Int) ≤ new; omega, by show new < _; omega, by show new ≠ 1; omega, c2.1, c2.2.1⟩
      · rw [q]
        have c1 := b1 u.1 ub.1 ub.2.1
        exact ⟨c1.1, c1.2.1, c1.2.2 ub.2.2.1, by show (0 : Int) ≤ new; omega, by show new < _; omega⟩
    · rcases pre k h0 h1 with rfl | ⟨j, j0, j1, rfl⟩
      · refine .step (fw' u.1 ub.1 ub.2.1) (List.mem_iff_getElem?.mpr ⟨at_, ?_⟩)
        rw [List.getElem?_set_self (by rw [List.length_append]; omega)]; rfl
      · exact fw' j j0 j1
    · rcases pre k h0 h1 with rfl | ⟨j, j0, j1, rfl⟩
      · refine .step (bw' u.2 ub.2.2.2.1 ub.2.2.2.2) (swp_mem.mpr (List.mem_iff_getElem?.mpr ⟨(bumped k ties).length, ?_⟩))
        rw [List.getElem?_set_ne (by omega), List.getElem?_append_right (Nat.le_refl _), Nat.sub_self]; rfl
      · exact bw' j j0 j1
  | @tie n many ties start e h s0 s1 e0 e1 ih =>
    refine ⟨ih.m2, fun x hx => ?_, fun k h0 h1 => Fc_reach_mono (fun t ht => List.mem_append_left _ ht) (ih.fw k h0 h1), fun k h0 h1 => Fc_reach_mono (fun t ht => ?_) (ih.bw k h0 h1)⟩
    · rcases List.mem_append.mp hx with q | q
      · exact ih.bd x q
      · rw [List.mem_singleton.mp q]
        dsimp only
        by_cases hs : 0 < start
        · rw [decide_eq_true hs]; simp; omega
        · rw [decide_eq_false hs]; simp; omega
    · rw [List.map_append]; exact List.mem_append_left _ ht
structure WGood (k : Nat) (places : List Int) (rs : List Row) : Prop where
  len : places.length = k
  part : ∀ (i : Nat) (m : Int), places[i]? = some m → ∃ ties, MGood m ties ∧ ∀ a b, (∃ r ∈ rs, r.1 = (i : Int) ∧ r.2.1 = a ∧ r.2.2.1 = b) ↔ (a, b) ∈ ties
  row : ∀ r ∈ rs, 0 ≤ r.1 ∧ r.1 < (k : Int) ∧ (r.2.2.2 = -1 ∨ (r.1 < r.2.2.2 ∧ r.2.2.2 < (k : Int)))
  call : ∀ i : Nat, 0 < i → i < k → ∃ r ∈ rs, r.2.2.2 = (i : Int)
theorem Webs.good {most : Int} {k : Nat} {places : List Int} {rs : List Row} (h : Webs most k places rs) : WGood k places rs := by
  induction h with
  | nil => exact ⟨rfl, by simp, by simp, by omega⟩
  | @first n many ties rs' hM hn hI =>
    refine ⟨rfl, fun i m hi => ?_, fun r hr => ?_, by omega⟩
    · have hi0 : i = 0 := by
        have := (List.getElem?_eq_some_iff.mp hi).1
        simp at this; exact this
      subst hi0
      simp at hi
      subst hi
      refine ⟨ties, hM.good, fun a b => ⟨?_, fun hab => ⟨(0, a, b, -1), (hI.mem _).mpr (.inr ⟨(a, b), hab, rfl⟩), rfl, rfl, rfl⟩⟩⟩
      rintro ⟨r, hr, _, e1, e2⟩
      rcases (hI.mem r).mp hr with q | ⟨t, ht, rfl⟩
      · cases q
      · rw [← e1, ← e2]; exact ht
    · rcases (hI.mem r).mp hr with q | ⟨t, _, rfl⟩
      · cases q
      · exact ⟨Int.le_refl _, by show (0 : Int) < 1; decide, .inl rfl⟩
  | @more i places rs j r n many ties rs' hW hi hr hc hM hn hI ih =>
    have hrm : r ∈ rs := List.mem_of_getElem? hr
    have hjl : j < rs.length := (List.getElem?_eq_some_iff.mp hr).1
    -- the rows with the call put in
    have up : ∀ x ∈ rs, ∃ y ∈ rs.set j (r.1, r.2.1, r.2.2.1, (i : Int)), y.1 = x.1 ∧ y.2.1 = x.2.1 ∧ y.2.2.1 = x.2.2.1 ∧ (x.2.2.2 ≠ -1 → y.2.2.2 = x.2.2.2) := fun x hx => by
      obtain ⟨q, hq⟩ := List.mem_iff_getElem?.mp hx
      by_cases e : q = j
      · subst e
        rw [hr] at hq; cases hq
        exact ⟨_, List.mem_iff_getElem?.mpr ⟨q, List.getElem?_set_self hjl⟩, rfl, rfl, rfl, fun z => absurd hc z⟩
      · exact ⟨x, List.mem_iff_getElem?.mpr ⟨q, by rw [List.getElem?_set_ne (by omega)]; exact hq⟩, rfl, rfl, rfl, fun _ => rfl⟩
    have dn : ∀ y ∈ rs.set j (r.1, r.2.1, r.2.2.1, (i : Int)), ∃ x ∈ rs, y.1 = x.1 ∧ y.2.1 = x.2.1 ∧ y.2.2.1 = x.2.2.1 ∧ (y.2.2.2 = x.2.2.2 ∨ y.2.2.2 = (i : Int)) := fun y hy => by
      rcases List.mem_or_eq_of_mem_set hy with q | q
      · exact ⟨y, q, rfl, rfl, rfl, .inl rfl⟩
      · exact ⟨r, hrm, by rw [q], by rw [q], by rw [q], .inr (by rw [q])⟩
    refine ⟨by rw [List.length_append, ih.len]; rfl, fun p m hp => ?_, fun y hy => ?_, fun p p0 p1 => ?_⟩
    · rcases Nat.lt_or_ge p places.length with hlt | hge
      · rw [List.getElem?_append_left hlt] at hp
        obtain ⟨ts, hg, hts⟩ := ih.part p m hp
        refine ⟨ts, hg, fun a b => ?_⟩
        rw [← hts]
        constructor
        · rintro ⟨y, hy, e1, e2, e3⟩
          rcases (hI.mem y).mp hy with q | ⟨t, _, rfl⟩
          · obtain ⟨x, hx, f1, f2, f3, _⟩ := dn y q
            exact ⟨x, hx, by rw [← f1]; exact e1, by rw [← f2]; exact e2, by rw [← f3]; exact e3⟩
          · have e1 : (i : Int) = (p : Int) := e1
            have := ih.len
            omega
        · rintro ⟨x, hx, e1, e2, e3⟩
          obtain ⟨y, hy, f1, f2, f3, _⟩ := up x hx
          exact ⟨y, (hI.mem y).mpr (.inl hy), by rw [f1]; exact e1, by rw [f2]; exact e2, by rw [f3]; exact e3⟩
      · have hpe : p = i := by
          have := (List.getElem?_eq_some_iff.mp hp).1
          rw [List.length_append, ih.len] at this
          have := ih.len
          simp at *; omega
        subst hpe
        rw [List.getElem?_append_right hge, ih.len, Nat.sub_self] at hp
        simp at hp
        subst hp
        refine ⟨ties, hM.good, fun a b => ⟨?_, fun hab => ⟨((p : Int), a, b, -1), (hI.mem _).mpr (.inr ⟨(a, b), hab, rfl⟩), rfl, rfl, rfl⟩⟩⟩
        rintro ⟨y, hy, e0, e1, e2⟩
        rcases (hI.mem y).mp hy with q | ⟨t, ht, rfl⟩
        · obtain ⟨x, hx, f1, _⟩ := dn y q
          have := (ih.row x hx).2.1
          omega
        · rw [← e1, ← e2]; exact ht
    · rcases (hI.mem y).mp hy with q | ⟨t, _, rfl⟩
      · obtain ⟨x, hx, f1, f2, f3, f4⟩ := dn y q
        have xr := ih.row x hx
        rw [f1]
        refine ⟨xr.1, by push_cast; omega, ?_⟩
        rcases f4 with f4 | f4
        · rw [f4]
          rcases xr.2.2 with z | z
          · exact .inl z
          · exact .inr ⟨z.1, by push_cast; omega⟩
        · rw [f4]; exact .inr ⟨xr.2.1, by push_cast; omega⟩
      · exact ⟨by show (0 : Int) ≤ (i : Int); omega, by show (i : Int) < _; push_cast; omega, .inl rfl⟩
    · rcases Nat.lt_or_ge p i with hlt | hge
      · obtain ⟨x, hx, e⟩ := ih.call p p0 hlt
        obtain ⟨y, hy, _, _, _, f4⟩ := up x hx
        exact ⟨y, (hI.mem y).mpr (.inl hy), by rw [f4 (by omega)]; exact e⟩
      · have : p = i := by omega
        subst this
        exact ⟨_, (hI.mem _).mpr (.inl (List.mem_iff_getElem?.mpr ⟨j, List.getElem?_set_self hjl⟩)), rfl⟩
theorem WGood.fin {k : Nat} {places : List Int} {rs0 rs : List Row} (h : WGood k places rs0) (hF : FinR k rs0.length rs0 rs) : WGood k places rs := by
  have up : ∀ x ∈ rs0, ∃ y ∈ rs, y.1 = x.1 ∧ y.2.1 = x.2.1 ∧ y.2.2.1 = x.2.2.1 ∧ (x.2.2.2 ≠ -1 → y.2.2.2 = x.2.2.2) := fun x hx => by
    obtain ⟨q, hq⟩ := List.mem_iff_getElem?.mp hx
    have hl : q < rs.length := by rw [hF.len]; exact (List.getElem?_eq_some_iff.mp hq).1
    refine ⟨rs[q], List.getElem_mem hl, ?_⟩
    rcases hF.row q x _ hq (List.getElem?_eq_getElem hl) with e | ⟨c, _, _, e⟩
    · rw [e]; exact ⟨rfl, rfl, rfl, fun _ => rfl⟩
    · exact ⟨by rw [e], by rw [e], by rw [e], fun z => absurd c z⟩
  have dn : ∀ y ∈ rs, ∃ x ∈ rs0, y.1 = x.1 ∧ y.2.1 = x.2.1 ∧ y.2.2.1 = x.2.2.1 ∧ (y.2.2.2 = x.2.2.2 ∨ (x.1 < y.2.2.2 ∧ y.2.2.2 < (k : Int))) := fun y hy => by
    obtain ⟨q, hq⟩ := List.mem_iff_getElem?.mp hy
    have hl : q < rs0.length := by rw [← hF.len]; exact (List.getElem?_eq_some_iff.mp hq).1
    refine ⟨rs0[q], List.getElem_mem hl, ?_⟩
    rcases hF.row q _ y (List.getElem?_eq_getElem hl) hq with e | ⟨c, c1, c2, e⟩
    · rw [e]; exact ⟨rfl, rfl, rfl, .inl rfl⟩
    · exact ⟨by rw [e], by rw [e], by rw [e], .inr ⟨c1, c2⟩⟩
  refine ⟨h.len, fun i m hi => ?_, fun y hy => ?_, fun i i0 i1 => ?_⟩
  · obtain ⟨ts, hg, hts⟩ := h.part i m hi
    refine ⟨ts, hg, fun a b => ?_⟩
    rw [← hts]
    constructor
    · rintro ⟨y, hy, e1, e2, e3⟩
      obtain ⟨x, hx, f1, f2, f3, _⟩ := dn y hy
      exact ⟨x, hx, by rw [← f1]; exact e1, by rw [← f2]; exact e2, by rw [← f3]; exact e3⟩
    · rintro ⟨x, hx, e1, e2, e3⟩
      obtain ⟨y, hy, f1, f2, f3, _⟩ := up x hx
      exact ⟨y, hy, by rw [f1]; exact e1, by rw [f2]; exact e2, by rw [f3]; exact e3⟩
  · obtain ⟨x, hx, f1, f2, f3, f4⟩ := dn y hy
    have xr := h.row x hx
    rw [f1]
    refine ⟨xr.1, xr.2.1, ?_⟩
    rcases f4 with f4 | f4
    · rw [f4]; exact xr.2.2
    · exact .inr f4
  · obtain ⟨x, hx, e⟩ := h.call i i0 i1
    obtain ⟨y, hy, _, _, _, f4⟩ := up x hx
    exact ⟨y, hy, by rw [f4 (by omega)]; exact e⟩
structure WebG (v : Web) : Prop where
  good : WGood v.1.length v.1 v.2
  pl : 1 ≤ v.1.length ∧ v.1.length ≤ 4
  rl : 1 ≤ v.2.length ∧ v.2.length ≤ 60
  sz : ∀ m ∈ v.1, 2 ≤ m ∧ m ≤ 16
theorem WebOk.g {pm most : Int} {v : Web} (h : WebOk pm most v) (hp : pm ≤ 4) (m0 : 0 ≤ most) (hm : most ≤ 14) (hpm : pm * (1 + most) ≤ 60) : WebG v := by
  obtain ⟨k, rs0, k0, k1, hW, hF⟩ := h
  have fa := hW.facts
  have hg := hW.good.fin hF
  have l1 : v.1.length = k := fa.len
  have l2 : v.2.length = rs0.length := hF.len
  have hl : (rs0.length : Int) ≤ 60 := by
    have h1 := fa.many
    have h2 : (k : Int) * (1 + most) ≤ pm * (1 + most) := Int.mul_le_mul_of_nonneg_right k1 (by omega)
    omega
  have hpos : 0 < rs0.length := by
    obtain ⟨r, hr, _⟩ := fa.free k0
    exact List.length_pos_of_mem hr
  refine ⟨by rw [l1]; exact hg, by omega, by omega, fun m hm' => ?_⟩
  have := fa.sizes m hm'
  omega
theorem nums_mem {xs : List Int} {x : Int × Int} : x ∈ nums xs ↔ ∃ i : Nat, x.1 = (i : Int) ∧ xs[i]? = some x.2 := by
  constructor
  · intro h
    obtain ⟨i, hi⟩ := List.mem_iff_getElem?.mp h
    exact ⟨i, nums_at hi⟩
  · rintro ⟨i, h1, h2⟩
    refine List.mem_iff_getElem?.mpr ⟨i, ?_⟩
    unfold nums
    rw [List.getElem?_map, List.getElem?_zipIdx, h2]
    obtain ⟨a, b⟩ := x
    simp at h1
    simp [h1]
theorem all_map {α : Type} {xs : List α} {g : α → Bool} : ((xs.filter fun _ => true).map g).all id = true ↔ ∀ x ∈ xs, g x = true := by
  rw [List.filter_eq_self.mpr (by simp), List.all_map, List.all_eq_true]; rfl
structure RowP (ns : List Int) (r : Row) : Prop where
  p0 : 0 ≤ r.1
  p1 : r.1 < (ns.length : Int)
  s1 : r.2.1 ≠ 1
  c0 : -1 ≤ r.2.2.2
  c1 : r.2.2.2 < (ns.length : Int)
  s0 : 0 ≤ r.2.1
  e0 : 0 ≤ r.2.2.1
  sn : r.2.1 < ns.getD r.1.toNat 0
  en : r.2.2.1 < ns.getD r.1.toNat 0
  cp : ¬ (0 ≤ r.2.2.2 ∧ r.2.2.2 ≤ r.1)
theorem WebG.rowP {v : Web} (h : WebG v) {r : Row} (hr : r ∈ v.2) : RowP v.1 r := by
  have q := h.good.row r hr
  obtain ⟨m, hm⟩ : ∃ m, v.1[r.1.toNat]? = some m := ⟨_, List.getElem?_eq_getElem (by omega)⟩
  obtain ⟨ts, hg, hts⟩ := h.good.part _ _ hm
  have b := hg.bd (r.2.1, r.2.2.1) ((hts _ _).mp ⟨r, hr, by omega, rfl, rfl⟩)
  have e : v.1.getD r.1.toNat 0 = m := by rw [List.getD_eq_getElem?_getD, hm]; rfl
  refine ⟨q.1, q.2.1, b.2.2.1, by omega, by omega, b.1, b.2.2.2.1, by rw [e]; exact b.2.1, by rw [e]; exact b.2.2.2.2, by omega⟩
theorem fwd_mem {rs : List Row} {p a b : Int} : (a, b) ∈ fwd rs p ↔ ∃ r ∈ rs, r.1 = p ∧ r.2.1 = a ∧ r.2.2.1 = b := by
  unfold fwd
  simp only [List.mem_map, List.mem_filter, decide_eq_true_eq, Prod.mk.injEq]
  constructor
  · rintro ⟨r, ⟨h1, h2⟩, h3, h4⟩; exact ⟨r, h1, h2, h3, h4⟩
  · rintro ⟨r, h1, h2, h3, h4⟩; exact ⟨r, ⟨h1, h2⟩, h3, h4⟩
end K1

set_option Elab.async false
set_option linter.all false
set_option maxRecDepth 100000
set_option maxHeartbeats 4000000
namespace Fc
open PySem PySem.Spec L2
open PyProof.Rows hiding St
section
variable {X : Cx} {Γ Γ1 Γ2 Γ3 : Ga} {α β γ δ : Type} {N : Ga → Prop} {T : RT}
theorem rc_pair {r : Rep α} {r' : Rep β} [DecidableEq α] [DecidableEq β] {n m : Nat} (e : EqRep r n) (e' : EqRep r' m) {X : Cx} {pins : List (Addr × Obj)} {σ : St} {H : Hp} {s : Shared} {R : Hp} {A : Around} (I : Inv X pins σ H s) (sub : Same R H) {a b : Addr} {v1 v2 w1 w2 : V} {x y : α × β} (ha : R a = some (.tup [v1, v2])) (hb : R b = some (.tup [w1, w2]))
    (p1 : r.R X.K R v1 x.1) (p2 : r'.R X.K R v2 x.2) (q1 : r.R X.K R w1 y.1) (q2 : r'.R X.K R w2 y.2) (hu : A.units + (n + 1) < cLine) (hu' : A.units + (m + 1) < cLine) :
    SeqAt.RcAt A s (.ref a) (.ref b) (decide (x = y)) ∧ SeqAt.RcNeAt A s (.ref a) (.ref b) (!decide (x = y)) := by
  have key := rc_tup (A := A) (k := fun j => if j = 0 then decide (x.1 = y.1) else decide (x.2 = y.2)) I sub ha hb rfl (by omega) fun us us' hv hw j h1 h2 => by
    cases hv with
    | cons a1 t => cases t with
      | cons a2 t => cases t; cases hw with
        | cons b1 t => cases t with
          | cons b2 t =>
            cases t
            match j, h1 with
            | 0, _ => exact e.eq (A := A.in1) I sub a1 b1 p1 q1 (by rw [in1_units]; omega)
            | 1, _ => exact e'.eq (A := A.in1) I sub a2 b2 p2 q2 (by rw [in1_units]; omega)
            | j + 2, h => exact absurd h (by simp)
  have d : (List.range [v1, v2].length).all (fun j => if j = 0 then decide (x.1 = y.1) else decide (x.2 = y.2)) = decide (x = y) := by
    obtain ⟨x1, x2⟩ := x
    obtain ⟨y1, y2⟩ := y
    simp [List.range_succ, Bool.eq_iff_iff]
  rw [d] at key
  exact key
theorem eq_pair {r : Rep α} {r' : Rep β} [DecidableEq α] [DecidableEq β] {n m k : Nat} (e : EqRep r n) (e' : EqRep r' m) (hn : n < k) (hm : m < k) : EqRep (rPair r r') k := by
  have inj : ∀ {K : PySem.W.Frag} {R : Hp} {v : V} {x y : α × β}, (rPair r r').R K R v x → (rPair r r').R K R v y → x = y := by
    rintro K R v ⟨x1, x2⟩ ⟨y1, y2⟩ ⟨a, v1, v2, rfl, h, p1, p2⟩ ⟨a', w1, w2, e1, h', q1, q2⟩
    cases e1
    rw [h] at h'
    cases h'
    exact Prod.ext (e.inj p1 q1) (e'.inj p2 q2)
  refine ⟨inj, ?_⟩
  intro X pins σ H s R A I sub v u vv uu x y rv ru h1 h2 hu
  have h1' := h1
  have h2' := h2
  obtain ⟨a, v1, v2, rfl, ha, p1, p2⟩ := h1
  obtain ⟨b, w1, w2, rfl, hb, q1, q2⟩ := h2
  cases rv
  cases ru
  by_cases hab : a = b
  · subst hab
    rw [decide_eq_true (inj h1' h2')]
    exact SeqAt.EqAt.same _
  · exact SeqAt.EqAt.of_refs hab (rc_pair e e' I sub ha hb p1 p2 q1 q2 (by omega) (by omega)).1
def rNon : Rep Unit := ⟨fun _ _ v _ => v = .non, fun _ h => h⟩
end
section
variable {P : Program} {w : World} {K : PySem.W.Frag} {mg : Str → Option Value} {base : Heap} {α : Type}
end
end Fc

set_option Elab.async false
set_option linter.all false
set_option maxRecDepth 100000
set_option maxHeartbeats 4000000
namespace Fc
open PySem PySem.Spec L2
open PyProof.Rows hiding St
variable {P : Program} {w : World} {K : PySem.W.Frag} {mg : Str → Option Value} {base : Heap}
theorem fn_okF {S : SpD} {x qual : Str} {st : Stmt} {f : Addr} {fd : FuncData} {N ps : List Str} {k : Nat} (F : Fun K x qual st f fd) (Sc : FnScope N ps (defScope st)) (len : ∀ qs T, S K qs T → qs.length = ps.length)
    (hbody : ∀ (cdv : Value) (A : Around) (outer : List Env) (s : Shared) (H : Hp) (E : XK) (qs : List Pk) (T : RT), Room k (A.deeper (envOfC qual (defScope st) s.heap.objs.size f cdv)) → S K qs T →
      WS (cxOf CX0 P w K mg base N qual (defScope st) f cdv A outer s H E).nox (defBody st) (gaOf qs N.length) (fun _ => False) T) : FnOk P w K mg base CX0 (k + 1) f fd ps (spG S K) := by
  refine F.ok Sc (fun vs H Q E h => ?_) (fun cdv A outer s H vs Q E hr h => ?_)
  · obtain ⟨R, qs, T, _, p, hS, _⟩ := h
    rw [p.length]; exact len qs T hS
  · obtain ⟨R, qs, T, sR, p, hS, q⟩ := h
    have hl : qs.length ≤ N.length := by
      rw [len qs T hS]
      have := congrArg List.length Sc.pre
      rw [List.length_take] at this
      omega
    exact ⟨_, pssS, hbody cdv A outer s H E qs T hr hS (L2.start N vs) H R H R (env_start sR p hl) { nx := fun _ H' => Q .non H', rt := Q } (fun _ _ _ _ _ _ f => f.elim) fun v H' R' xx t => q v H' R' xx t⟩
def Def (K : PySem.W.Frag) (mg : Str → Option Value) (x : Str) (st : Stmt) (ps : List Str) : Prop := ∃ f fd, Fun K x x st f fd ∧ mg x = some (.ref f) ∧ Binds K fd ps []
theorem def_mk {h : Heap} {x : Str} {st : Stmt} {ps : List Str} {f : Addr} {oc : Value} {od an : Option Addr} {osl : Array (Option Value)} {kV doc pm cdv ct : Value} (KX : K.In h) (G : h.Ns mainGlobals mg)
    (a : PySem.W.nsIn K mainGlobals x = some (some (.ref f))) (l : K.lookup f = some ⟨oc, od, .func (PySem.W.fnOf x x (defArgs st) (defBody st) (defScope st) .none kV doc pm an cdv ct), osl⟩) (c : PySem.W.codeIn K cdv x = true) (k : PySem.W.keepIn K (.ref f) = true)
    (b : ∀ (kV doc pm : Value) (an : Option Addr) (cdv ct : Value) (us : List Value), us.length = ps.length → bindArgs (PySem.W.fnOf x x (defArgs st) (defBody st) (defScope st) .none kV doc pm an cdv ct) ⟨us, []⟩ = pure (ps.zip us)) : Def K mg x st ps :=
  ⟨f, _, fun_mk l c k, PySem.W.mg_of KX G a, (fun_mk l c k).binds b⟩
open PySem.Builtin.Int (intBits)
theorem script_bits {ns : List Int} (h : PySem.W.WData.layableAll [.list (ns.map .int)] = true) : ∀ n ∈ ns, intBits n ≤ 2 ^ 20 := fun n hn => by
  have h1 := PySem.W.layableW_arg h _ (List.mem_singleton.mpr rfl)
  have h2 := PySem.W.layableW_item h1 (.int n) (List.mem_map.mpr ⟨n, hn, rfl⟩)
  exact PySem.PyData.bits_of_layable h2
end Fc
namespace Att
open PySem PySem.W PySem.Calls PyProof.Rows
open PySem.Builtin.Int (intBits)
theorem attach_callB {l : OpenLaw} {n : Nat} {q : Program} {loose : List Str} {XP : (Str → Option Value) → Heap → Prop} {YP : World → Heap → Prop} {d : DefRec}
    (hn : l.most = some n) (hdf : d.params.defaults = [])
    (call : ∀ (w : World) (s₀ s₁ : Shared) (mg mb : Str → Option Value) (fa : Addr) (o : Obj) (pm cd doc : Value) (a : Addr) (vs : List Value) (ns : List Int),
      Ground q loose [] XP w s₀ mg mb s₁.heap → YP w s₁.heap →
      s₁.heap.get? fa = some o → o.data = .func (docDef d.name d.params d.body d.scope pm cd doc) → s₁.heap.CodeRec cd d.name → mg d.name = some (.ref fa) →
      s₁.heap.get? a = some { cls := .type "list", data := .seq vs.toArray } → IntsAre vs ns → ns.length ≤ n → (∀ m ∈ ns, intBits m ≤ 2 ^ 20) → s₁.gens = #[] →
      codeAny (model l.prog w) callerA (.call (.ref fa) ⟨[.ref a], []⟩) (fun r s' => r = .ok (.ret (.bool true)) ∧ OldK s₁.heap s'.heap ∧ s'.os = s₁.os ∧ AllBare s'.gens) s₁) :
    WalkO q loose XP YP l.row.toRowW d [] (fun f vs => PySem.call f vs) := by
  intro w s₀ s₁ mg mb G Y fa o pm cd doc dV kV ho hd hcd hD hmg hg args vals as hpre hlay hrd hwl hlo
  obtain rfl : dV = .none := Dflts.none hD hdf
  obtain rfl : kV = .none := Dflts.noKw hD
  obtain ⟨a, vs, ns, rfl, rfl, hobj, hints, hlen⟩ := script_of hn hpre hwl
  refine enter_call (codeAny_mono (call w s₀ s₁ mg mb fa o pm cd doc a vs ns G Y ho (fd_plain hd) hcd hmg hobj hints hlen (Fc.script_bits hlay) hg) fun r s' hq => ?_)
  obtain ⟨rfl, h2, h3, h4⟩ := hq
  exact ⟨.inl ⟨.bool true, .bool true, [], rfl, fun _ => rfl, .bool true, post_true l _, fun _ => ⟨List.Pairwise.nil, fun _ hm => (nomatch hm)⟩⟩, h2, h3, h4⟩
end Att
namespace L2
open PySem PySem.Spec PyProof.Rows
open PySem.Builtin.Int (intBits)
theorem walk_ofB {l : PySem.W.OpenLaw} {n k : Nat} {q : Program} {loose : List Str} {XP : (Str → Option Value) → Heap → Prop} {YP : World → Heap → Prop} {d : DefRec} {K : Params → PySem.W.Frag} {CX : World → CXT} {sp : World → Sp} {x : Str}
    (hn : l.most = some n) (hn2 : n ≤ sizeLine) (hdf : d.params.defaults = []) (hr : Room k callerA)
    (hY : ∀ (w : World) (h : Heap), YP w h → (K w.params).In h)
    (F : ∀ (w : World) (mg : Str → Option Value) (fa : Addr) (h : Heap), (K w.params).In h → h.Ns mainGlobals mg → mg d.name = some (.ref fa) →
      ∃ fd : FuncData, (∀ (s : Shared) (u : Value), BindsTo s fd ⟨[u], []⟩ [(x, u)]) ∧
        ∀ base : Heap, (K w.params).In base → base.Ns mainGlobals mg → FnOk l.prog w (K w.params) mg base (CX w) k fa fd [x] (sp w))
    (hsp : ∀ (w : World) (H : Hp) (a : Addr) (ns : List Int), ns.length ≤ n → (∀ m ∈ ns, intBits m ≤ 2 ^ 20) → Only H → SqL (K w.params) H a (ns.map V.int) → sp w [.ref a] H (fun v _ => v = .bl true) fun _ _ _ => False)
    (hCX : ∀ (w : World) (H : Hp) (s : Shared) (e : Value) (s' : Shared), CX w [] H s (fun _ _ _ => False) e s' → False) :
    PySem.W.WalkO q loose XP YP l.row.toRowW d [] (fun f vs => PySem.call f vs) := by
  refine Att.attach_callB hn hdf fun w s₀ s₁ mg mb fa o pm cd doc a vs ns G Y ho hd hcd hmg hobj hints hlen hbits hg => ?_
  have KX := hY w _ Y
  obtain ⟨fd, hb, hF⟩ := F w mg fa _ KX G.T.g hmg
  exact law_call KX G.T.g G.T.b G.T.builtins G.T.nolimit hg hobj hints (Nat.le_trans hlen hn2) hr hF hb (fun H hO hS => hsp w H a ns hlen hbits hO hS) fun H e s' => hCX w H s₁ e s'
end L2

set_option Elab.async false
set_option linter.all false
set_option maxRecDepth 100000
set_option maxHeartbeats 4000000
namespace Fc
open PySem PySem.Spec L2
open PyProof.Rows hiding St
structure Fly (h0 h : Heap) (H : Hp) (e T : Addr) (cls : Value) : Prop where
  ex : ∃ oe vs oT ts a0, h.get? e = some oe ∧ (oe.cls = cls ∧ vs[0]? = some a0) ∧ oe.data = .fields vs ∧ vs[1]? = some (.ref T) ∧ T ≠ e ∧ h.get? T = some oT ∧ oT.data = .fields ts ∧ ts[3]? = some .none
  ne : h0.get? e = none
  nT : h0.get? T = none
  fe : H e = none
  fT : H T = none
def CXF (P : Program) (w : World) : CXT := fun outer H s E ev s' => ∃ e T cls H', ev = .ref e ∧ s'.os = s.os ∧ AllBare s'.gens ∧ Un (frs outer) [] H H' s.heap s'.heap ∧ HOk P w H' s'.heap ∧ Fly s.heap s'.heap H' e T cls ∧ E cls none H'
theorem funFrames_wipe {h b0 h0 : Heap} {fs : List Addr} : ∀ {l : List Env}, h.FunFrames b0 l → (∀ b ∈ frs l, b ∈ fs) → h.FunFrames (PySem.W.hideAll h0 fs) l
  | [], _, _ => trivial
  | env :: rest, hl, hs => by
    obtain ⟨hk, ⟨L, o, hf, hn, ho, hd⟩, hr⟩ := hl
    refine ⟨hk, ⟨L, o, hf, PySem.W.hideAll_none fs (hs L ?_), ho, hd⟩, funFrames_wipe hr fun b hb => hs b ?_⟩
    · show L ∈ (env :: rest).filterMap (·.frame)
      rw [List.filterMap_cons, hf]; exact List.mem_cons_self
    · show b ∈ (env :: rest).filterMap (·.frame)
      rw [List.filterMap_cons, hf]; exact List.mem_cons_of_mem _ hb
theorem Un.shrink {fs fs' ex : List Addr} {H H' : Hp} {h h' : Heap} (u : Un fs ex H H' h h') (hs : ∀ b o, h.get? b = some o → b ∈ fs → b ∈ fs') : Un fs' ex H H' h h' :=
  ⟨fun b o q n hb he => u.keep b o q n (fun z => hb (hs b o q z)) he, fun b o q n _ he => u.any q n he, u.free, u.there, u.tups, u.frzs, u.tbls⟩
theorem ObjOk.there {P : Program} {w : World} {H : Hp} {h : Heap} {a : Addr} {o : HO} (x : ObjOk P w H h a o) : ∃ ob, h.get? a = some ob := by
  cases o with
  | lst xs => obtain ⟨_, _, _, _, e⟩ := x; exact ⟨_, e⟩
  | tup xs => obtain ⟨_, _, _, p⟩ := x; obtain ⟨o, e, _⟩ := p; exact ⟨o, e⟩
  | dK kvs => obtain ⟨_, _, _, _, o, _, _, e, _⟩ := x; exact ⟨_, e⟩
  | dT kvs => obtain ⟨_, _, _, _, o, _, _, e, _⟩ := x; exact ⟨_, e⟩
  | set S n => obtain ⟨o, _, _, _, e, _⟩ := x; exact ⟨_, e⟩
  | ins C dx fs => obtain ⟨_, _, _, e, _⟩ := x; exact ⟨_, e⟩
  | own y => obtain ⟨_, e⟩ := x; exact ⟨_, e⟩
  | xd fs => obtain ⟨_, ⟨_, _, _, e, _⟩, _⟩ := x; exact ⟨_, e⟩
  | rng lo hi => obtain ⟨_, _, _, e⟩ := x; exact ⟨_, e⟩
  | frz ob u => obtain ⟨e, _⟩ := x; exact ⟨_, e⟩
  | tbl ps => exact ⟨_, show h.get? a = some _ from x⟩
  | met f y => exact ⟨_, show h.get? a = some _ from x⟩
  | ext φ => obtain ⟨_, ⟨_, e⟩, _⟩ := x; exact ⟨_, e⟩
theorem HOk.none_of {P : Program} {w : World} {H : Hp} {h : Heap} (x : HOk P w H h) {a : Addr} (e : h.get? a = none) : H a = none := by
  cases q : H a with
  | none => rfl
  | some u =>
    obtain ⟨ob, r⟩ := ObjOk.there (x a u q)
    rw [e] at r; cases r
theorem un_slots {P : Program} {w : World} {fs : List Addr} {H : Hp} {h h' : Heap} (hok : HOk P w H h) (hf : ∀ b ∈ fs, H b = none) (st : (PySem.W.hideAll h fs).StaysIn h') (up : ∀ b o, h.get? b = some o → b ∈ fs → ∃ sl, h'.get? b = some { o with slots := sl }) :
    Un fs [] H H h h' ∧ HOk P w H h' := by
  have keep : ∀ b o, h.get? b = some o → b ∉ fs → h'.get? b = some o := fun b o q hb => st b o (PySem.W.hideAll_get fs q hb)
  refine ⟨⟨fun b o q _ hb _ => keep b o q hb, fun b o q _ hb _ => up b o q hb, fun _ _ _ n _ => n, fun b o q _ => ?_, fun _ _ q => q, fun _ _ _ q => q, fun _ ps q => ⟨#[], by rw [q]; simp⟩⟩, fun b u q => ?_⟩
  · by_cases hb : b ∈ fs
    · obtain ⟨sl, e⟩ := up b o q hb; exact ⟨_, e⟩
    · exact ⟨o, keep b o q hb⟩
  · refine (hok b u q).stay (fun c v hc r => keep c v r fun z => ?_) (fun _ r => r) fun _ _ r => r
    have n := hf c z
    rcases hc with rfl | hc
    · rw [q] at n; cases n
    · rw [hc] at n; cases n
theorem none_of_un {fs : List Addr} {H H' : Hp} {h h' : Heap} (u : Un fs [] H H' h h') {b : Addr} (e : h'.get? b = none) : h.get? b = none := by
  cases q : h.get? b with
  | none => rfl
  | some o =>
    obtain ⟨o', r⟩ := u.there b o q List.not_mem_nil
    rw [e] at r; cases r
theorem raise_leaves {P : Program} {w : World} {K : PySem.W.Frag} {mg : Str → Option Value} {base : Heap} {N : List Str} {qual : Str} {scope : Scope} {f : Addr} {cd : Value} {A : Around} {outer : List Env} {s : Shared} {H : Hp} {E : XK}
    {pins : List (Addr × Obj)} {σ : St} {H1 : Hp} {s1 : Shared} {h2 : Heap} {e : Addr} {cls : Value} {args : List Value} (I : Inv (cxOf (CXF P w) P w K mg base N qual scope f cd A outer s H E) pins σ H1 s1)
    (m : Heap.MadeExcOf s1.heap h2 e cls args) (q : E cls none H1) : (cxOf (CXF P w) P w K mg base N qual scope f cd A outer s H E).xe (.ref e) { s1 with heap := h2 } := by
  have hst : s1.heap.FunFrames base (envOfC qual scope s.heap.objs.size f cd :: outer) := I.stack
  have hfree : ∀ b ∈ frs (envOfC qual scope s.heap.objs.size f cd :: outer), H1 b = none := I.stkFree
  show wpAny (model P w) (A.deeper (envOfC qual scope s.heap.objs.size f cd)) (leaving (envOfC qual scope s.heap.objs.size f cd) (.ref e)) _ _ _
  refine wpAny_leaves_madeW (h := s1.heap) (base := PySem.W.hideAll s1.heap (frs (envOfC qual scope s.heap.objs.size f cd :: outer))) I.ok.frames rfl (fun b o z => PySem.W.of_hideAll _ z) (funFrames_wipe hst fun _ z => z) m fun h' t fl _ _ up => ?_
  obtain ⟨st, hen, hfr, oe, vs, T, oT, ts, he, hc, hd, h1, hnT, hTe, hT, hdT, h3⟩ := fl
  have up2 : ∀ b o, s1.heap.get? b = some o → b ∈ frs (envOfC qual scope s.heap.objs.size f cd :: outer) → ∃ sl, h'.get? b = some { o with slots := sl } := fun b o r z => by
    obtain ⟨_, o2, r2, nf⟩ := hst.mem z
    rw [r] at r2; cases r2
    exact up b o (m.keeps b o r) nf
  obtain ⟨un, hok⟩ := un_slots (P := P) (w := w) I.hok hfree st up2
  have nT : s1.heap.get? T = none := by
    cases r : s1.heap.get? T with
    | none => rfl
    | some o =>
      exfalso
      by_cases z : T ∈ frs (envOfC qual scope s.heap.objs.size f cd :: outer)
      · obtain ⟨_, o2, r2, nf⟩ := hst.mem z
        rw [r] at r2; cases r2
        obtain ⟨sl, r3⟩ := up2 T o r z
        rw [hT] at r3; cases r3
        exact nf ts hdT
      · rw [PySem.W.hideAll_get _ r z] at hnT; cases hnT
  have base0 : Un (frs outer) [] H H1 s.heap s1.heap := I.base
  have un2 : Un (frs outer) [] H H1 s.heap h' := by
    refine Un.shrink ((base0.mono (fs' := frs (envOfC qual scope s.heap.objs.size f cd :: outer)) (fun b z => ?_) fun _ z => z).trans un) fun b o r z => ?_
    · show b ∈ (envOfC qual scope s.heap.objs.size f cd :: outer).filterMap (·.frame)
      rw [List.filterMap_cons]
      exact List.mem_cons_of_mem _ z
    · have z' : b ∈ (envOfC qual scope s.heap.objs.size f cd :: outer).filterMap (·.frame) := z
      rw [List.filterMap_cons] at z'
      rcases List.mem_cons.mp z' with y | y
      · have := Heap.lt_size r
        rw [y] at this
        exact absurd this (Nat.lt_irrefl _)
      · exact y
  exact ⟨e, T, cls, H1, rfl, I.os, I.bare, un2, hok, ⟨⟨oe, vs, oT, ts, _, he, hc, hd, h1, hTe, hT, hdT, h3⟩, none_of_un base0 m.new, none_of_un base0 nT, HOk.none_of I.hok m.new, HOk.none_of I.hok nT⟩, q⟩
abbrev bmV : List Value := [.type "ValueError", .type "Exception", .type "BaseException", .type "object"]
structure ExcC (K : PySem.W.Frag) (mg : Str → Option Value) (x : Str) (C : Addr) : Prop where
  bound : mg x = some (.ref C)
  here : PySem.W.excIn K C bmV "ValueError.__new__" = true
theorem ExcC.own {K : PySem.W.Frag} {mg : Str → Option Value} {x : Str} {C : Addr} (c : ExcC K mg x C) {h : Heap} (X : K.In h) : OwnCls x C bmV "ValueError.__new__" mg h := by
  refine ⟨c.bound, ?_⟩
  have q := c.here
  unfold PySem.W.excIn at q
  split at q
  · rename_i dd cd sl ho
    split at q
    · rename_i C' bm k0 k1 k2 k3 n k5 hm hs
      simp only [Bool.and_eq_true, beq_iff_eq, Bool.not_eq_true'] at q
      obtain ⟨⟨⟨⟨⟨rfl, rfl⟩, hdel⟩, ht⟩, hok⟩, hni⟩ := q
      obtain ⟨nm, bs, mro, ns, qn, hd, sn, sub, ab, col, del⟩ := cd
      dsimp only at hm hdel hok hni
      subst hm hdel
      have hsl : sl = #[k0, k1, k2, k3, some (.builtin "ValueError.__new__"), k5] := by
        obtain ⟨l⟩ := sl
        simp only at hs
        rw [hs]
      subst hsl
      exact ⟨bm, ns, nm, qn, bs, hd, sn, sub, ab, col, dd, k0, k1, k2, k3, k5, _, X _ _ ho, .of_isNs (PySem.W.isNs_of_in X hok), PySem.W.nsMap_none_of_in X hok hni, PySem.W.tail_of_in X ht⟩
    · cases q
  · cases q
section
variable {X : Cx} {Γ Γ1 : Ga}
def RS (X : Cx) (H0 R0 : Hp) (sts : List Stmt) (Γ : Ga) : Prop := ∀ (σ : St) (H R : Hp), EnvOk X.K σ H0 R0 H R Γ → ∀ D : Ends, semSs X sts D σ H
theorem semS.nox {st : Stmt} {D : Ends} {σ : St} {H : Hp} (h : semS X.nox st D σ H) : semS X st D σ H := fun pins s I =>
  wpAny_mono (h pins s (I.wish _)) (fun _ _ q => q.unwish) fun _ _ z => False.elim z
theorem semT.nox {e : Expr} {Q : Bool → Hp → Prop} {σ : St} {H : Hp} (h : semT X.nox e σ H Q) : semT X e σ H Q := fun pins s I =>
  wpAny_mono (h pins s (I.wish _)) (fun _ _ ⟨H', I', q⟩ => ⟨H', I'.unwish, q⟩) fun _ _ z => False.elim z
theorem rs_cons {H0 R0 : Hp} {st : Stmt} {rest : List Stmt} {N1 : Ga → Prop} (h1 : W1 X.nox st Γ N1 (fun _ _ _ _ => False)) (h2 : ∀ Γ', N1 Γ' → RS X H0 R0 rest Γ') : RS X H0 R0 (st :: rest) Γ := fun σ H R E D => by
  refine fun pins s I => wpAny_execs_cons (thn (semS.nox (h1 σ H0 R0 H R E { nx := fun σ' H' => semSs X rest D σ' H', rt := fun _ _ => False, bk := fun _ _ => False, ct := fun _ _ => False } (fun σ' H' R' Γ' E' _ n => h2 Γ' n σ' H' R' E' D) fun _ _ _ _ z => z) pins s I) fun f s1 q => ?_)
  cases f with
  | next =>
    obtain ⟨σ', H', I', q⟩ := q
    exact q pins s1 I'
  | brk => obtain ⟨_, _, _, q⟩ := q; exact q.elim
  | cont => obtain ⟨_, _, _, q⟩ := q; exact q.elim
  | ret u => obtain ⟨_, _, _, _, _, q⟩ := q; exact q.elim
theorem rs_if {H0 R0 : Hp} {c : Expr} {a b rest : List Stmt} {pos : Pos} (hc : TV X.nox c Γ true Γ1) (h : RS X H0 R0 a Γ1) : RS X H0 R0 (.If c a b pos :: rest) Γ := fun σ H R E D => by
  refine fun pins s I => wpAny_execs_cons ?_
  have := semT.nox (hc σ H0 R0 H R E (fun b H' => b = true ∧ ∀ D, semSs X a D σ H') fun H' R' E' _ => ⟨rfl, fun D => h σ H' R' E' D⟩) pins s I
  refine PySem.wpAny_If (thn this fun b s1 ⟨H', I', hb, q⟩ => ?_)
  subst hb
  rw [if_pos rfl]
  refine thn (q { nx := fun _ _ => False, rt := fun _ _ => False } pins s1 I') fun f s2 z => ?_
  cases f with
  | next => obtain ⟨_, _, _, z⟩ := z; exact z.elim
  | brk => obtain ⟨_, _, _, z⟩ := z; exact z.elim
  | cont => obtain ⟨_, _, _, z⟩ := z; exact z.elim
  | ret u => obtain ⟨_, _, _, _, _, z⟩ := z; exact z.elim
end
theorem rs_raise {P : Program} {w : World} {K : PySem.W.Frag} {mg : Str → Option Value} {base : Heap} {N : List Str} {qual : Str} {scope : Scope} {f : Addr} {cd : Value} {A : Around} {outer : List Env} {s : Shared} {H R : Hp} {E : XK} {Γ : Ga}
    {x : Str} {C : Addr} {np cp pos sp : Pos} {txt : Str} {j : Nat} {rest : List Stmt} (hC : ExcC K mg x C) (q : ∀ H' R', Ext H R H' R' → E (.ref C) none H')
    (hg : Gl (cxOf (CXF P w) P w K mg base N qual scope f cd A outer s H E) x := by rfl) (hdb : (x == ("__debug__" : Str)) = false := by decide) :
    RS (cxOf (CXF P w) P w K mg base N qual scope f cd A outer s H E) H R (.Raise (some (.Call (.Name x np) [.Constant (.str txt) j sp] [] cp)) none pos :: rest) Γ := fun σ H1 R1 EO D pins s1 I => by
  refine wpAny_execs_cons ?_
  obtain ⟨bm, Nn, nm, qn, bs, hdct, sn, sub, ab, col, dd, k0, k1, k2, k3, k5, mN, hCo, hN, hni, TL⟩ := (hC.own I.kIn).obj
  refine wpAny_Raise_call_subT (C := C) (nm := nm) (q := qn) (N := Nn) (bs := bs) (bm := bm) (hdct := hdct) (sn := sn) (sub := sub) (ab := ab) (col := col) (dd := dd) (k0 := k0) (k1 := k1) (k2 := k2) (k3 := k3) (k5 := k5) (mN := mN) PySem.F.excBase_ValueError (TL.hasType PySem.F.excBase_ValueError.hasBase) (I.ok.hd rfl) rfl hni (ld_glob I hg hC.bound ⟨rfl, ?_⟩ hdb)
  refine Calls.evalArgs_plain (Calls.spliced_cons (Calls.Constant_str (k := j) (pos := sp) (Calls.spliced_nil ⟨rfl, by show 1 ≤ sizeLine; decide, hCo, hN, TL, fun h' e m => ?_⟩)))
  exact raise_leaves (I.tok _) m (q H1 R1 EO.ext)
inductive Out
  | ret (T : RT)
  | exc (cls : Value)
abbrev SpX := PySem.W.Frag → List Pk → Out → Prop
def Out.meets (H R : Hp) (Q : VK) (E : XK) : Out → Prop
  | .ret T => ∀ v H' R', Ext H R H' R' → T H v H' R' → Q v H'
  | .exc c => ∀ H' R', Ext H R H' R' → E c none H'
def spX (S : SpX) (K : PySem.W.Frag) : Sp := fun vs H Q E => ∃ R ps o, Same R H ∧ Pks K R vs ps ∧ S K ps o ∧ o.meets H R Q E
structure CalX (P : Program) (w : World) (K : PySem.W.Frag) (mg : Str → Option Value) (base : Heap) (x : Str) (k : Nat) (sp : Sp) : Prop where
  ex : ∃ f fd ps, FnOk P w K mg base (CXF P w) k f fd ps sp ∧ mg x = some (.ref f) ∧ PySem.W.keepIn K (.ref f) = true ∧ Binds K fd ps []
theorem CalX.mono {P : Program} {w : World} {K : PySem.W.Frag} {mg : Str → Option Value} {base : Heap} {x : Str} {j k : Nat} {sp : Sp} (c : CalX P w K mg base x j sp) (h : j ≤ k) : CalX P w K mg base x k sp := by
  obtain ⟨f, fd, ps, F, a, b, c⟩ := c.ex
  exact ⟨f, fd, ps, F.mono h, a, b, c⟩
section
variable {P : Program} {w : World} {K : PySem.W.Frag} {mg : Str → Option Value} {base : Heap}
theorem fn_okX {S : SpX} {x qual : Str} {st : Stmt} {f : Addr} {fd : FuncData} {N ps : List Str} {k : Nat} (F : Fun K x qual st f fd) (Sc : FnScope N ps (defScope st)) (hm : mg x = some (.ref f)) (hb : Binds K fd ps []) (len : ∀ qs o, S K qs o → qs.length = ps.length)
    (hret : ∀ (cdv : Value) (A : Around) (outer : List Env) (s : Shared) (H : Hp) (E : XK) (qs : List Pk) (T : RT), Room k (A.deeper (envOfC qual (defScope st) s.heap.objs.size f cdv)) → S K qs (.ret T) →
      WS (cxOf CX0 P w K mg base N qual (defScope st) f cdv A outer s H E).nox (defBody st) (gaOf qs N.length) (fun _ => False) T)
    (hexc : ∀ (cdv : Value) (A : Around) (outer : List Env) (s : Shared) (H R : Hp) (E : XK) (qs : List Pk) (c : Value), Room k (A.deeper (envOfC qual (defScope st) s.heap.objs.size f cdv)) → S K qs (.exc c) → (∀ H' R', Ext H R H' R' → E c none H') →
      RS (cxOf (CXF P w) P w K mg base N qual (defScope st) f cdv A outer s H E) H R (defBody st) (gaOf qs N.length)) : CalX P w K mg base x (k + 1) (spX S K) := by
  obtain ⟨oc, od, kV, doc, pm, an, cdv, ct, osl, rfl, lk, hcd⟩ := F.ex
  refine ⟨f, _, ps, ?_, hm, F.kp, hb⟩
  refine fn_of lk hcd Sc (fun vs H Q E h => ?_) (fun A outer s H vs Q E hr h => ?_)
  · obtain ⟨R, qs, o, _, p, hS, _⟩ := h
    rw [p.length]; exact len qs o hS
  · obtain ⟨R, qs, o, sR, p, hS, q⟩ := h
    have hl : qs.length ≤ N.length := by
      rw [len qs o hS]
      have := congrArg List.length Sc.pre
      rw [List.length_take] at this
      omega
    cases o with
    | ret T =>
      have hw := hret cdv A outer s H E qs T hr hS (L2.start N vs) H R H R (env_start sR p hl) { nx := fun _ H' => Q .non H', rt := Q } (fun _ _ _ _ _ _ f => f.elim) fun v H' R' xx t => q v H' R' xx t
      have hp : PSs (cxOf (CXF P w) P w K mg base N qual (defScope st) f cdv A outer s H E).nox (defBody st) (semSs (cxOf (CXF P w) P w K mg base N qual (defScope st) f cdv A outer s H E).nox (defBody st)) := pssS
      exact ⟨_, hp.nox, hw⟩
    | exc c => exact ⟨_, pssS, hexc cdv A outer s H R E qs c hr hS q (L2.start N vs) H R (env_start sR p hl) _⟩
end
end Fc

set_option Elab.async false
set_option linter.all false
set_option maxRecDepth 100000
set_option maxHeartbeats 4000000
namespace Fc
open PySem PySem.Spec L2
open PyProof.Rows hiding St
abbrev pinX (X : Cx) (e : Addr) (o : Obj) : Cx := { X with pn := (e, o) :: X.pn }
theorem Ok.pin {X : Cx} (ok : X.Ok) (e : Addr) (o : Obj) : (pinX X e o).Ok :=
  ⟨ok.mod, ok.kind, ok.glob, ok.blt, ok.above, ok.inj, ok.has, ok.cab, ok.hd, ok.frames, ok.stk, ok.exf, ok.bs, ok.bsz, ok.noex, ok.exfs, ok.funs, ok.frf⟩
theorem Ok.unpin {X : Cx} {e : Addr} {o : Obj} (ok : (pinX X e o).Ok) : X.Ok :=
  ⟨ok.mod, ok.kind, ok.glob, ok.blt, ok.above, ok.inj, ok.has, ok.cab, ok.hd, ok.frames, ok.stk, ok.exf, ok.bs, ok.bsz, ok.noex, ok.exfs, ok.funs, ok.frf⟩
section
variable {X : Cx} {pins : List (Addr × Obj)} {σ : St} {H : Hp} {s : Shared} {e : Addr} {o : Obj}
theorem Inv.pinned (I : Inv X pins σ H s) (h : s.heap.get? e = some o ∧ H e = none ∧ e ≠ X.env.locals ∧ e ∉ X.fs ∧ ∀ v, o.data ≠ .cell v) : Inv (pinX X e o) pins σ H s :=
  ⟨Ok.pin I.ok e o, I.os, I.bare, I.base, I.loc, I.cell, I.free, I.freeC, fun p hp => by
    rcases List.mem_cons.mp hp with rfl | hp
    · exact h
    · exact I.pin p hp, I.hok, I.len⟩
theorem Inv.unpinned (I : Inv (pinX X e o) pins σ H s) : Inv X pins σ H s :=
  ⟨Ok.unpin I.ok, I.os, I.bare, I.base, I.loc, I.cell, I.free, I.freeC, fun p hp => I.pin p (List.mem_cons_of_mem _ hp), I.hok, I.len⟩
theorem SP.unpin {D : Ends} {f : Flow} {s' : Shared} (h : SP (pinX X e o) pins D f s') : SP X pins D f s' := by
  cases f with
  | next => obtain ⟨σ', H', I, q⟩ := h; exact ⟨σ', H', Inv.unpinned I, q⟩
  | brk => obtain ⟨σ', H', I, q⟩ := h; exact ⟨σ', H', Inv.unpinned I, q⟩
  | cont => obtain ⟨σ', H', I, q⟩ := h; exact ⟨σ', H', Inv.unpinned I, q⟩
  | ret u => obtain ⟨v, σ', H', I, r, q⟩ := h; exact ⟨v, σ', H', Inv.unpinned I, r, q⟩
abbrev markX (X : Cx) (v : Value) : Cx := { X with A := X.A.mark (some v), calm := false, xe := fun _ _ => False }
theorem Inv.marked (I : Inv X pins σ H s) (v : Value) : Inv (markX X v) pins σ H s :=
  ⟨⟨I.ok.mod, I.ok.kind, I.ok.glob, I.ok.blt, I.ok.above, I.ok.inj, I.ok.has, I.ok.cab, (fun z => by cases z), I.ok.frames, I.ok.stk, I.ok.exf, I.ok.bs, I.ok.bsz, I.ok.noex, I.ok.exfs, I.ok.funs, I.ok.frf⟩,
    I.os, I.bare, I.base, I.loc, I.cell, I.free, I.freeC, I.pin, I.hok, I.len⟩
theorem Inv.unmarked {v : Value} (c : X.calm = true → X.A.handled = none) (I : Inv (markX X v) pins σ H s) : Inv X pins σ H s :=
  ⟨⟨I.ok.mod, I.ok.kind, I.ok.glob, I.ok.blt, I.ok.above, I.ok.inj, I.ok.has, I.ok.cab, c, I.ok.frames, I.ok.stk, I.ok.exf, I.ok.bs, I.ok.bsz, I.ok.noex, I.ok.exfs, I.ok.funs, I.ok.frf⟩,
    I.os, I.bare, I.base, I.loc, I.cell, I.free, I.freeC, I.pin, I.hok, I.len⟩
theorem name_gone {M : Model} {A : Around} {E : Value → Shared → Prop} {i : Nat} {x : Str} {pos : Pos} {Q : Unit → Shared → Prop} (I : Inv X pins σ H s) (hN : X.N.Nodup) (hi : X.N[i]? = some x) (hk : X.env.scope.names.lookup x = some .local)
    (h : ∀ s', Inv X pins (σ.set i none) H s' → Q () s') : wpAny M A (do bindName X.env x .none; unbindBehindTheSuite X.env x pos) Q E s := by
  obtain ⟨m, hn, hl⟩ := id I.loc
  have hcls : (X.env.scope.kind == .class || (X.env.scope.kind == .module && X.env.locals != X.env.globals)) = false := by rw [I.ok.kind]; rfl
  have cne := I.cne
  refine wpAny_nameGoes_keeps hk hn hcls fun h' v hn' hs => ?_
  obtain ⟨oL, _, _, hoL, _⟩ := id hn
  have tracked : HOk X.prog X.w H h' := fun b ob e => by
    refine (I.hok b ob e).stay (fun c w' hc q => (hs.2 c ?_).trans q) (fun _ q => q) fun _ _ q => q
    rintro rfl
    rcases hc with rfl | hc
    · rw [I.free] at e; cases e
    · rw [I.free] at hc; cases hc
  refine h _ ⟨I.ok, I.os, I.bare, ⟨fun b o e n hb hx => ?_, fun b o e n hb hx => ?_, I.base.free, fun b o e hx => ?_, I.base.tups, I.base.frzs, I.base.tbls⟩, ⟨_, hn', fun j y v' e1 e2 e3 => ?_⟩, fun y c e => ?_, I.free, I.freeC, fun p hp => ?_, tracked, by simpa using I.len⟩
  · exact (hs.2 b (Nat.ne_of_lt (Nat.lt_of_lt_of_le (Heap.lt_size e) I.ok.above))).trans (I.base.keep b o e n hb hx)
  · obtain ⟨sl, e1⟩ := I.base.slot b o e n hb hx
    exact ⟨sl, (hs.2 b (Nat.ne_of_lt (Nat.lt_of_lt_of_le (Heap.lt_size e) I.ok.above))).trans e1⟩
  · obtain ⟨o', e1⟩ := I.base.there b o e hx
    exact ⟨o', (hs.2 b (Nat.ne_of_lt (Nat.lt_of_lt_of_le (Heap.lt_size e) I.ok.above))).trans e1⟩
  · by_cases hj : j = i
    · subst hj
      rw [List.getElem?_set] at e2
      split at e2
      · split at e2 <;> cases e2
      · rename_i z; exact absurd rfl z
    · rw [List.getElem?_set_ne (Ne.symm hj)] at e2
      obtain ⟨u', r', q⟩ := hl j y v' e1 e2 e3
      refine ⟨u', r', ?_⟩
      rcases q with ⟨k, e⟩ | ⟨k, c, e, z⟩
      · refine .inl ⟨k, ?_⟩
        have : y ≠ x := fun e => hj (nodup_ix hN e1 (e ▸ hi))
        simp [this, e]
      · exact .inr ⟨k, c, e, z.sameBut hs (cne y c e)⟩
  · obtain ⟨w', z⟩ := I.cell y c e
    exact ⟨w', z.sameBut hs (cne y c e)⟩
  · obtain ⟨e, n, ne, nf, d⟩ := I.pin p hp
    exact ⟨(hs.2 p.1 ne).trans e, n, ne, nf, d⟩
end
theorem semA.nox {X : Cx} {es : List Expr} {Q : List V → Hp → Prop} {σ : St} {H : Hp} (h : semA X.nox es σ H Q) (E : Value → Shared → Prop) : ∀ (pos : Pos) (pins : List (Addr × Obj)) (s : Shared), Inv X pins σ H s → wpAny (model X.prog X.w) X.A (spliced (backTo pos (starEach es X.env))) (AP X pins σ Q) E s := fun pos pins s I =>
  wpAny_mono (h pos pins s (I.wish _)) (fun _ _ ⟨vs, H', I', r, q⟩ => ⟨vs, H', I'.unwish, r, q⟩) fun _ _ z => False.elim z
theorem exc_call {X : Cx} {S : SpX} {x : Str} {k : Nat} {e : Expr} {es : List Expr} {p pos : Pos} {ps : List Pk} {cls : Value} {σ : St} {H0 R0 H R : Hp} {Γ Γ1 : Ga} {pins : List (Addr × Obj)} {s : Shared} {Q : Value → Shared → Prop} {Ex : Value → Shared → Prop}
    (C : CalX X.prog X.w X.K X.mg X.base x k (spX S X.K)) (hr : Room k X.A) (ha : HA X.nox (e :: es) Γ ps Γ1) (hS : S X.K ps (.exc cls)) (E : EnvOk X.K σ H0 R0 H R Γ) (I : Inv X pins σ H s)
    (q : ∀ s1 H1 ea T H' R' s', Inv X pins σ H1 s1 → s'.os = s1.os → AllBare s'.gens → Un (frs X.stack) [] H1 H' s1.heap s'.heap → HOk X.prog X.w H' s'.heap → Fly s1.heap s'.heap H' ea T cls → EnvOk X.K σ H0 R0 H' R' Γ1 → Same R R' → Ex (.ref ea) s')
    (hg : Gl X x) (hdb : (x == ("__debug__" : Str)) = false) (he : starEach (e :: es) X.env = (false, eval e X.env) :: starEach es X.env) (hpl : (backTo pos (starEach es X.env)).any (·.1) = false) :
    wpAny (model X.prog X.w) X.A (eval (.Call (.Name x p) (e :: es) [] pos) X.env) Q Ex s := by
  obtain ⟨f, fd, pn, F, hm, hk, hb⟩ := C.ex
  refine wpAny_Call_Name_kw (ld_glob I hg hm ?_ hdb)
  refine PySem.W.callWith_K (h₀ := X.base) I.ok.mod.kin hk (thn (semA.nox (ha σ H0 R0 H R E (fun vs H1 => ∃ R1, EnvOk X.K σ H0 R0 H1 R1 Γ1 ∧ Same R R1 ∧ Pks X.K R1 vs ps) fun vs H1 R1 E1 s1 p1 => ⟨R1, E1, s1, p1⟩) Ex pos pins s I) fun us s1 ⟨vs, H1, I1, r, R1, E1, sR, p1⟩ => ⟨I1.kIn, ?_⟩) he hpl
  have r2 : Vals (vs ++ []) (us ++ []) := by rw [List.append_nil, List.append_nil]; exact r
  have sp : spX S X.K (vs ++ []) H1 (fun _ _ => False) (fun c _ H' => c = cls ∧ ∃ R', Ext H1 R1 H' R') := ⟨R1, ps, .exc cls, E1.sub, by rw [List.append_nil]; exact p1, hS, fun H' R' xx => ⟨rfl, R', xx⟩⟩
  have hl : (us ++ []).length = pn.length := by rw [← r2.length]; exact F.len _ _ _ _ sp
  refine wpAny_call (codeAny_mono (F.run X.A X.stack s1 H1 ⟨us, []⟩ (us ++ []) (vs ++ []) _ _ hr I1.env0 (hb s1 us I1.kIn hl) r2 sp) fun r s' hq => ?_)
  cases r with
  | error ev =>
    obtain ⟨ea, T, c, H', rfl, ho, bare, un, hok, fly, rfl, R', xx⟩ := hq
    exact q s1 H1 ea T H' R' s' I1 ho bare un hok fly (E1.grow xx) (sR.trans xx.r)
  | ok fl =>
    cases fl with
    | ret u => obtain ⟨_, _, _, _, _, _, _, z⟩ := hq; exact z.elim
    | next => exact False.elim hq
    | brk => exact False.elim hq
    | cont => exact False.elim hq
theorem un_fly {P : Program} {w : World} {fs : List Addr} {H1 H' : Hp} {h1 h' h2 : Heap} {e T : Addr} {cls : Value} (u : Un fs [] H1 H' h1 h') (hok : HOk P w H' h') (fly : Fly h1 h' H' e T cls) (hf : ∀ b ∈ fs, H' b = none)
    (st : (PySem.W.hideAll h' (e :: T :: fs)).StaysIn h2) (up : ∀ b o, h'.get? b = some o → b ∈ fs → ∃ sl, h2.get? b = some { o with slots := sl }) : Un fs [] H1 H' h1 h2 ∧ HOk P w H' h2 := by
  have keep : ∀ b o, h'.get? b = some o → b ∉ fs → b ≠ e → b ≠ T → h2.get? b = some o := fun b o q hb n1 n2 => st b o (PySem.W.hideAll_get _ q fun z => by
    rcases List.mem_cons.mp z with z | z
    · exact n1 z
    · rcases List.mem_cons.mp z with z | z
      · exact n2 z
      · exact hb z)
  have n1 : ∀ b o, h1.get? b = some o → b ≠ e := fun b o q z => by rw [z, fly.ne] at q; cases q
  have n2 : ∀ b o, h1.get? b = some o → b ≠ T := fun b o q z => by rw [z, fly.nT] at q; cases q
  refine ⟨⟨fun b o q n hb hx => keep b o (u.keep b o q n hb hx) hb (n1 b o q) (n2 b o q), fun b o q n hb hx => ?_, u.free, fun b o q hx => ?_, u.tups, u.frzs, u.tbls⟩, fun b x q => ?_⟩
  · obtain ⟨sl, r⟩ := u.slot b o q n hb hx
    obtain ⟨sl', r'⟩ := up b _ r hb
    exact ⟨sl', r'⟩
  · obtain ⟨o', r⟩ := u.there b o q hx
    by_cases hb : b ∈ fs
    · obtain ⟨sl', r'⟩ := up b _ r hb; exact ⟨_, r'⟩
    · exact ⟨_, keep b o' r hb (n1 b o q) (n2 b o q)⟩
  · refine (hok b x q).stay (fun c v hc r => ?_) (fun _ r => r) fun _ _ r => r
    have hc' : H' c ≠ none := by
      rcases hc with rfl | hc
      · rw [q]; exact Option.some_ne_none _
      · rw [hc]; exact Option.some_ne_none _
    exact keep c v r (fun z => hc' (hf c z)) (fun z => hc' (z ▸ fly.fe)) fun z => hc' (z ▸ fly.fT)
theorem funFrames_on {h h' b0 h0 : Heap} {fs : List Addr} : ∀ {l : List Env}, h.FunFrames b0 l → (∀ b ∈ frs l, ∀ o, h.get? b = some o → ∃ sl, h'.get? b = some { o with slots := sl }) → (∀ b ∈ frs l, b ∈ fs) → h'.FunFrames (PySem.W.hideAll h0 fs) l
  | [], _, _, _ => trivial
  | env :: rest, hl, hk', hs => by
    obtain ⟨hk, ⟨L, o, hf, hn, ho, hd⟩, hr⟩ := hl
    have hL : L ∈ frs (env :: rest) := by
      show L ∈ (env :: rest).filterMap (·.frame)
      rw [List.filterMap_cons, hf]; exact List.mem_cons_self
    have hT : ∀ b ∈ frs rest, b ∈ frs (env :: rest) := fun b hb => by
      show b ∈ (env :: rest).filterMap (·.frame)
      rw [List.filterMap_cons, hf]; exact List.mem_cons_of_mem _ hb
    obtain ⟨sl, e⟩ := hk' L hL o ho
    exact ⟨hk, ⟨L, _, hf, PySem.W.hideAll_none fs (hs L hL), e, hd⟩, funFrames_on hr (fun b hb => hk' b (hT b hb)) fun b hb => hs b (hT b hb)⟩
theorem caught {X : Cx} {cls : Value} {σ : St} {H1 H' : Hp} {pins : List (Addr × Obj)} {s1 s' : Shared} {e T : Addr} {Q : Flow → Shared → Prop} {ce n y : Str} {CE : Addr} {np p1 p2 p3 hp : Pos} {i j : Nat}
    (I1 : Inv X pins σ H1 s1) (ho : s'.os = s1.os) (bare : AllBare s'.gens) (un : Un (frs X.stack) [] H1 H' s1.heap s'.heap) (hok : HOk X.prog X.w H' s'.heap) (fly : Fly s1.heap s'.heap H' e T cls)
    (hst : X.stack = X.env :: X.outer) (hef : X.env.frame = some X.env.locals) (hm : X.mg ce = some (.ref CE)) (hx : PySem.W.exmOne X.K cls (.ref CE) = some true) (hg : Gl X ce) (hdb : (ce == ("__debug__" : Str)) = false)
    (hN : X.N.Nodup) (hi : X.N[i]? = some n) (hj : X.N[j]? = some y) (hin : X.env.scope.names.lookup n = some .local) (hjy : X.env.scope.names.lookup y = some .local)
    (hs : swapsWith (.Name n p2) (some (.Name y p1)) p3.line X.env = pure false) (hnd : (n == ("__debug__" : Str)) = false) (hnc : (n == ("__classdict__" : Str)) = false)
    (q : ∀ oe s6, oe.cls = cls → Inv (pinX X e oe) pins (((σ.set i (some (.ref e))).set j (some (.ref e))).set i none) H' s6 → Q .next s6) :
    wpAny (model X.prog X.w) X.A (noteFrame (.ref e) X.env) (fun _ s₂ => wpAny (model X.prog X.w) X.A (setFlight (.ref e) none) (fun _ s₃ =>
      wpAny (model X.prog X.w) X.A (handleBy (.ref e) X.env [.ExceptHandler (some (.Name ce np)) (some n) [.Assign [.Name y p1] (.Name n p2) p3] hp]) Q X.xe s₃) X.xe s₂) X.xe s' := by
  have hA : X.A.frames = some (X.env :: X.outer) := by rw [← hst]; exact I1.ok.frames
  have hfs : ∀ b ∈ frs X.stack, H' b = none := fun b hb => by
    obtain ⟨_, o, r, _⟩ := I1.stack.mem hb
    exact un.free b o r (I1.stkFree b hb) List.not_mem_nil
  have hsl : ∀ b ∈ frs X.stack, ∀ o, s1.heap.get? b = some o → ∃ sl, s'.heap.get? b = some { o with slots := sl } := fun b hb o r => un.slot b o r (I1.stkFree b hb) hb List.not_mem_nil
  have hff : s'.heap.FunFrames (PySem.W.hideAll s'.heap (e :: T :: frs X.stack)) (X.env :: X.outer) := by
    have := funFrames_on (h0 := s'.heap) (fs := e :: T :: frs X.stack) I1.stack hsl fun b hb => List.mem_cons_of_mem _ (List.mem_cons_of_mem _ hb)
    rw [hst] at this ⊢; exact this
  obtain ⟨oe, vs, oT, ts, a0, he, hc, hd, h1, hTe, hT, hdT, h3⟩ := fly.ex
  have hfl : Heap.FlyingW (PySem.W.hideAll s'.heap (e :: T :: frs X.stack)) (X.env :: X.outer) e cls a0 s'.heap :=
    ⟨fun b o z => PySem.W.of_hideAll _ z, PySem.W.hideAll_none _ List.mem_cons_self, hff, oe, vs, T, oT, ts, he, hc, hd, h1, PySem.W.hideAll_none _ (List.mem_cons_of_mem _ List.mem_cons_self), hTe, hT, hdT, h3⟩
  have upF : ∀ {h2 : Heap}, s'.heap.UpToSlots h2 → ∀ b o, s'.heap.get? b = some o → b ∈ frs X.stack → ∃ sl, h2.get? b = some { o with slots := sl } := fun {h2} up b o r hb => by
    have hb' : b ∈ (X.env :: X.outer).filterMap (·.frame) := by rw [← hst]; exact hb
    obtain ⟨_, o2, r2, nf⟩ := hff.mem hb'
    rw [r] at r2; cases r2
    exact up b o r nf
  have nL : e ≠ X.env.locals := fun z => by
    obtain ⟨m, ⟨o, _, _, r, _⟩, _⟩ := id I1.loc
    rw [← z, fly.ne] at r; cases r
  have nF : e ∉ X.fs := fun z => by
    have z' : e ∈ frs X.stack := by
      rw [hst]
      show e ∈ (X.env :: X.outer).filterMap (·.frame)
      rw [List.filterMap_cons, hef]; exact List.mem_cons_of_mem _ z
    obtain ⟨_, o, r, _⟩ := I1.stack.mem z'
    rw [fly.ne] at r; cases r
  refine wpAny_looks_onW hA hef hfl fun h4 held4 up4 => ?_
  refine wpAny_landsW held4 fun h5 fl5 up5 => ?_
  obtain ⟨u5, ok5⟩ := un_fly un hok fly hfs fl5.1 (upF (up4.trans up5))
  have I5 : Inv X pins σ H' { s' with heap := h5 } := Inv.call' (ch := []) (s' := { s' with heap := h5 }) I1 ho u5 ok5 bare fun b z => absurd z List.not_mem_nil
  refine wpAny_handleBy_cons (codeAny_handlers_test (ld_glob (Inv.marked I5 (.ref e)) hg hm ?_ hdb)) (by intro q; cases q)
  obtain ⟨oe5, vs5, he5, hc5, hd5, _⟩ := fl5.first
  have LT : PySem.W.Looks (model X.prog X.w) h5 (typeOf (.ref e)) cls := hc5 ▸ (PySem.W.Looks.ld he5).andThen .now
  refine (PySem.W.exm_one (M := model X.prog X.w) (show X.K.In h5 from I5.kIn) LT hx).here ?_
  refine codeAny_handlers_suite_as (lands_againW fl5 fun h6 fl6 up6 => ?_)
  obtain ⟨u6, ok6⟩ := un_fly un hok fly hfs fl6.1 (upF ((up4.trans up5).trans up6))
  have I6 : Inv X pins σ H' { s' with heap := h6 } := Inv.call' (ch := []) (s' := { s' with heap := h6 }) I1 ho u6 ok6 bare fun b z => absurd z List.not_mem_nil
  obtain ⟨oe6, vs6, he6, hc6, hd6, _⟩ := fl6.first
  have I6p : Inv (pinX X e oe6) pins σ H' { s' with heap := h6 } := Inv.pinned I6 ⟨he6, fly.fe, nL, nF, fun v z => by rw [hd6] at z; cases z⟩
  refine store_ok (X := pinX X e oe6) I6p hN hi (.inl hin) (v := .ref e) rfl (fun s7 I7 => ?_) (.inr hin)
  have P7 := (ps_set (X := markX (pinX X e oe6) (.ref e)) (i := j) (pos := p3) hN hj (.inl hjy) (pe_var (i := i) (pos := p2) hi (.inl hin) hnd hnc) hs (.inr hjy)) pins s7 _ H' { nx := fun σ' H2 => σ' = (σ.set i (some (.ref e))).set j (some (.ref e)) ∧ H2 = H', rt := fun _ _ => False } (Inv.marked I7 (.ref e))
    ⟨.ref e, List.getElem?_set_self (by rw [I1.len]; exact (List.getElem?_eq_some_iff.mp hi).1), rfl, rfl⟩
  refine wpAny_execs_cons (wpAny_mono P7 (fun f s8 z => ?_) fun _ _ z => False.elim z)
  cases f with
  | next =>
    obtain ⟨σ', H2, I8, rfl, rfl⟩ := z
    refine wpAny_execs_nil ?_
    exact name_gone (X := pinX X e oe6) (Inv.unmarked (fun _ => I6p.ok.hd (by assumption)) I8) hN hi hin fun s9 I9 => q oe6 s9 hc6 I9
  | brk => obtain ⟨_, _, _, z⟩ := z; exact z.elim
  | cont => obtain ⟨_, _, _, z⟩ := z; exact z.elim
  | ret u => obtain ⟨_, _, _, _, _, z⟩ := z; exact z.elim
end Fc

set_option Elab.async false
set_option linter.all false
set_option maxRecDepth 100000
set_option maxHeartbeats 4000000
namespace Fc
open PySem PySem.Spec PySem.W PySem.Calls PySem.Builtin.ObjectAttr PySem.Builtin.Getset_descriptor L2
open PyProof.Rows hiding St
def ObjAt (x D : Addr) (h : Heap) : Prop := ∃ ox, h.get? x = some ox ∧ ox.cls = .ref D
theorem ObjAt.ty {M : Model} {h : Heap} {x D : Addr} (p : ObjAt x D h) : Looks M h (typeOf (.ref x)) (.ref D) := by
  obtain ⟨ox, h1, h2⟩ := p
  exact h2 ▸ (Looks.ld h1).andThen .now
def excLook (K : Frag) (D : Addr) : Bool := (findIn K (.ref D) "__getattribute__" == some (some (.builtin "BaseException.__getattribute__"))) && (findIn K (.ref D) "__getattr__" == some none) && (findIn K (.ref D) "__class__" == some (some (.builtin "object.__class__"))) && (specialIn K (.builtin "object.__class__") "__get__" == some (some (.builtin "getset_descriptor.__get__")))
  && (takesIn K (.builtin "object.__class__") == some true) && (mroIn K D (.type "object") == some true) && (subIn K (.ref D) (.type "BaseException") == some true) && (clsIn K D).isSome
section
variable {K : Frag} {D x : Addr} {prog : Program} {w : World} {A : Around} {E : Value → Shared → Prop} {s : Shared}
theorem exc_class {Q : Option Value → Shared → Prop} (e : excLook K D = true) (X : K.In s.heap) (p : ObjAt x D s.heap) (h : Q (some (.ref D)) { s with toks := s.toks + 1 }) : wpAny (model prog w) A (getAttr? (.ref x) "__class__") Q E s := by
  unfold excLook at e
  simp only [Bool.and_eq_true, beq_iff_eq] at e
  obtain ⟨⟨⟨⟨⟨⟨⟨hga, hgk⟩, ha⟩, hn⟩, htk⟩, hm⟩, hsb⟩, hc⟩ := e
  obtain ⟨hh, g, d, t, os⟩ := s
  have X : K.In hh := X
  have p : ObjAt x D hh := p
  have L0 := p.ty (M := model prog w)
  have L1 := looks_findIn (M := model prog w) X hga
  have L2 := looks_findIn (M := model prog w) X hgk
  have LB : Looks (model prog w) hh (isSubtype (.ref D) (.type "BaseException")) true := looks_subIn X hsb
  have F1 : Looks (model prog w) hh (find (.ref x) (.ref D) "__class__") (.bind (.builtin "getset_descriptor.__get__") (.builtin "object.__class__")) := by
    refine (looks_findIn X ha).andThen ((show Looks _ hh (getOf (some (.builtin "object.__class__"))) (some (.builtin "getset_descriptor.__get__")) from looks_specialIn X hn).andThen ?_)
    exact (show Looks _ hh (dataDescriptor? (some (.builtin "object.__class__")) (some (.builtin "getset_descriptor.__get__"))) (some (.builtin "getset_descriptor.__get__", .builtin "object.__class__")) from (looks_takesIn X htk).andThen .now).andThen (Looks.tag .now)
  have M1 := looks_mroIn (M := model prog w) X hm
  have hx2 : (Value.builtin "BaseException.__getattribute__" == Value.builtin "object.__getattribute__") = false := by decide +kernel
  have hx1 : (onTheHeap (Value.ref D) && Value.builtin "BaseException.__getattribute__" == Value.builtin "object.__getattribute__") = false := by rw [hx2]; rfl
  unfold getAttr? getAttrBy? getAttrBy
  refine wpAny_bind (wpAny_mkText (wpAny_bind (wpAny_attempt (wpAny_holding (wpAny_bind (L0.at (wpAny_bind (L1.at ?_))))))))
  dsimp only
  rw [hx1]
  simp only [Bool.false_eq_true, if_false]
  unfold getAttrByItsOwn hookBefore
  have f3 := PySem.F.attr_ValueError.ga.bind (.ref x)
  refine wpAny_bind (L2.at ?_)
  refine wpAny_bind (wpAny_attempt (wpAny_holding ?_))
  show wpAny _ _ (boundAndCalled _ _ _) _ _ _
  unfold boundAndCalled
  refine wpAny_bind (wpAny_of_eq f3 ?_)
  have hkd : builtinKind "BaseException.__getattribute__" = some .slot := by decide +kernel
  have hsplit : splitId "BaseException.__getattribute__" = some ("BaseException", "__getattribute__") := by decide +kernel
  have hargs := PySem.F.args_bexc_ga (.ref x) (.str "__class__" t)
  refine wpAny_call (codeAny_call_builtin PySem.F.attr_ValueError.ga.plain PySem.F.entry_bexc_ga ?_)
  show wpAny _ _ (checkBuiltinCall "BaseException.__getattribute__" ⟨[.ref x, .str "__class__" t], []⟩) _ _ _
  simp only [checkBuiltinCall, hkd, hsplit]
  refine wpAny_bind ?_
  unfold isInstance
  repeat lk
  refine wpAny_run ?_
  refine codeAny_call_builtin KF.slot_gs.plain KF.entry_gs (KF.slot_gs.check _ _ _ _ _ _ _ _ KF.type_class (KF.args_gs _ _ _) ?_)
  unfold Builtin.«getset_descriptor.__get__» descrGet
  rw [dga_obj]
  refine wpAny_bind (wpAny_pure ?_)
  unfold descrGetter descrCheckInstance descrNameAndClass isInstance
  simp only [KF.owner_class]
  repeat lk
  refine ⟨Code.quiet_builtin _ (by decide +kernel), codeAny_builtin KF.entry_class ?_⟩
  unfold Builtin.«object.__class__» shownTypeOf
  repeat lk
  exact h
theorem kitx_exc (e : excLook K D = true) : KitX K (.ref x) (.ref D) (ObjAt x D) where
  ty := fun _ _ _ p => p.ty
  it := fun _ _ X _ => by
    unfold excLook at e
    rw [Bool.and_eq_true] at e
    have hc := e.2
    unfold clsIn at hc
    split at hc
    · rename_i c' d' cd' sl' ho
      intro A' Q' E' s' k q
      unfold isType loadHead
      exact wpAny_bind (wpAny_loadPart (k _ _ (X _ _ ho)) (wpAny_pure q))
    · cases hc
  ne := fun h tp dd its n sl X htp => by
    unfold excLook at e
    rw [Bool.and_eq_true] at e
    have hc := e.2
    refine Bool.eq_false_iff.mpr fun q => ?_
    have z : D = tp := Value.ref.inj (beq_iff_eq.mp q)
    subst z
    unfold clsIn at hc
    split at hc
    · rename_i c' d' cd' sl' ho
      have z := (X _ _ ho).symm.trans htp
      cases z
    · cases hc
  ca := fun X p k => exc_class e X p k
end
section
variable {X : Cx} {Γ Γ1 : Ga} {ea D : Addr} {oe : Obj}
theorem objAt_of {pins : List (Addr × Obj)} {σ : St} {H : Hp} {s : Shared} (I : Inv X pins σ H s) (hp : (ea, oe) ∈ X.pn) (hc : oe.cls = .ref D) : ObjAt ea D s.heap :=
  ⟨oe, (I.pin _ (List.mem_append_left _ hp)).1, hc⟩
theorem call_isiE (hp : (ea, oe) ∈ X.pn) (hc : oe.cls = .ref D) (el : excLook X.K D = true) : CallR X (.builtin "isinstance") (fun xs H Q => ∃ c cv b, xs = [.ref ea, c] ∧ RelV c cv ∧ (∀ u, RelV c u → u = cv) ∧ kitOne X.K (.ref D) cv = some b ∧ Q (.bl b) H) := by
  intro pins s σ H xs us Q I r h
  obtain ⟨c, cv, b, rfl, _, hu, e, q⟩ := h
  obtain ⟨u, u2, rfl, r1, r2⟩ := vals2 r
  cases (show u = Value.ref ea from r1)
  cases hu u2 r2
  exact kia_one (kitx_exc el) I.kIn (objAt_of I hp hc) e (fun z => nomatch z) fun tk => ⟨.bl b, H, I.tok tk, rfl, q⟩
theorem call_isiT (hp : (ea, oe) ∈ X.pn) (hc : oe.cls = .ref D) (el : excLook X.K D = true) : CallR X (.builtin "isinstance") (fun xs H Q => ∃ (a : Addr) (cs : List Addr) (b : Bool), xs = [.ref ea, .ref a] ∧ H a = some (.tup (cs.map V.ref)) ∧ kitAny X.K (.ref D) (cs.map Value.ref) = some b ∧ Q (.bl b) H) := by
  intro pins s σ H xs us Q I r h
  obtain ⟨a, cs, b, rfl, ha, e, q⟩ := h
  obtain ⟨u, u2, rfl, r1, r2⟩ := vals2 r
  cases (show u = Value.ref ea from r1)
  cases (show u2 = Value.ref a from r2)
  obtain ⟨_, its, vs, tp⟩ := (show ObjOk X.prog X.w H s.heap a (.tup (cs.map V.ref)) from I.hok a _ ha)
  have hi : its = cs.map Value.ref := by
    have key : ∀ {cs : List Addr} {its : List Value}, Vals (cs.map V.ref) its → its = cs.map Value.ref := by
      intro cs
      induction cs with
      | nil => intro its v; cases v; rfl
      | cons c cs ih =>
        intro its v
        cases v with
        | cons h t => rw [ih t]; cases (show _ = Value.ref c from h); rfl
    exact key vs
  subst hi
  obtain ⟨o, h1, h2, n, h3⟩ := tp
  obtain ⟨oc, od, odt, osl⟩ := o
  dsimp only at h2 h3
  subst h2 h3
  exact kia_tup (kitx_exc el) I.kIn (objAt_of I hp hc) h1 e (fun z => nomatch z) fun tk => ⟨.bl b, H, I.tok tk, rfl, q⟩
def rExc (ea : Addr) : Rep Unit := ⟨fun _ _ v _ => v = .ref ea, fun _ h => h⟩
theorem ev_isiC {i : Nat} {x y : Str} {p p1 p2 pos : Pos} {C : Addr} {b : Bool} (hp : (ea, oe) ∈ X.pn) (hc : oe.cls = .ref D) (el : excLook X.K D = true) (hm : X.mg "isinstance" = none) (hΓ : Γ[i]? = some (.im (rExc ea) ())) (hmy : X.mg y = some (.ref C)) (ht : kitOne X.K (.ref D) (.ref C) = some b)
    (hN : X.N[i]? = some x := by rfl) (hv : Vis X.env.scope x := by first | exact Or.inl rfl | exact Or.inr (Or.inl rfl) | exact Or.inr (Or.inr rfl)) (hd : (x == ("__debug__" : Str)) = false := by decide) (hcd : (x == ("__classdict__" : Str)) = false := by decide)
    (hs : starEach [.Name x p1, .Name y p2] X.env = (false, eval (.Name x p1) X.env) :: starEach [.Name y p2] X.env := by rfl) (hg : Gl X "isinstance" := by rfl) (hgy : Gl X y := by rfl) (hdy : (y == ("__debug__" : Str)) = false := by decide) :
    EV X (.Call (.Name "isinstance" p) [.Name x p1, .Name y p2] [] pos) Γ rBool b Γ := by
  intro σ H0 R0 H R E Q q
  refine eS (pe_callB (call_isiE hp hc el) hg hm PyProof.Rows.boot_isinstance (pa_cons peS (pa_cons (pe_glob (v := .ref C) hgy hmy rfl hdy) pa_nil rfl) hs) (by decide) (by decide) hs rfl) (ev_name i hΓ hN hv hd hcd σ H0 R0 H R E _ fun v H1 R1 E1 s1 e1 => ?_)
  cases (show v = V.ref ea from e1)
  exact ⟨.ref C, .ref C, b, rfl, rfl, fun u h => h, ht, q _ H1 R1 E1 s1 rfl⟩
theorem ev_isiB {i : Nat} {x y : Str} {p p1 p2 pos : Pos} {c : String} {b : Bool} (hp : (ea, oe) ∈ X.pn) (hc : oe.cls = .ref D) (el : excLook X.K D = true) (hm : X.mg "isinstance" = none) (hΓ : Γ[i]? = some (.im (rExc ea) ())) (hmy : X.mg y = none) (hvy : bootBuiltins y = some (.type c)) (ht : kitOne X.K (.ref D) (.type c) = some b)
    (hN : X.N[i]? = some x := by rfl) (hv : Vis X.env.scope x := by first | exact Or.inl rfl | exact Or.inr (Or.inl rfl) | exact Or.inr (Or.inr rfl)) (hd : (x == ("__debug__" : Str)) = false := by decide) (hcd : (x == ("__classdict__" : Str)) = false := by decide)
    (hs : starEach [.Name x p1, .Name y p2] X.env = (false, eval (.Name x p1) X.env) :: starEach [.Name y p2] X.env := by rfl) (hg : Gl X "isinstance" := by rfl) (hgy : Gl X y := by rfl) (hny : y ≠ "__name__" := by decide) (hdy : (y == ("__debug__" : Str)) = false := by decide) :
    EV X (.Call (.Name "isinstance" p) [.Name x p1, .Name y p2] [] pos) Γ rBool b Γ := by
  intro σ H0 R0 H R E Q q
  refine eS (pe_callB (call_isiE hp hc el) hg hm PyProof.Rows.boot_isinstance (pa_cons peS (pa_cons (pe_bltn (v := .ty c) hgy hmy hvy rfl hny hdy) pa_nil rfl) hs) (by decide) (by decide) hs rfl) (ev_name i hΓ hN hv hd hcd σ H0 R0 H R E _ fun v H1 R1 E1 s1 e1 => ?_)
  cases (show v = V.ref ea from e1)
  exact ⟨.ty c, .type c, b, rfl, rfl, fun u h => h, ht, q _ H1 R1 E1 s1 rfl⟩
end
theorem EnvOk.gone {K : PySem.W.Frag} {σ : St} {H0 R0 H R : Hp} {Γ : Ga} (E : EnvOk K σ H0 R0 H R Γ) (i : Nat) : EnvOk K (σ.set i none) H0 R0 H R (Γ.set i .no) := by
  have key : ∀ (j : Nat) (e : Ent), (Γ.set i Ent.no)[j]? = some e → e = .no ∨ (Γ[j]? = some e ∧ (σ.set i none)[j]? = σ[j]?) := fun j e q => by
    by_cases hj : j = i
    · subst hj
      rw [List.getElem?_set] at q
      split at q
      · split at q
        · cases q; exact .inl rfl
        · cases q
      · rename_i z; exact absurd rfl z
    · rw [List.getElem?_set_ne (Ne.symm hj)] at q
      exact .inr ⟨q, List.getElem?_set_ne (Ne.symm hj)⟩
  refine ⟨E.ext, fun j e q => ?_, fun j e a q z => ?_, fun j k e e' a q q' z z' => ?_, by rw [List.length_set, List.length_set]; exact E.len⟩
  · rcases key j e q with rfl | ⟨q, h⟩
    · trivial
    · rw [h]; exact E.ent j e q
  · rcases key j e q with rfl | ⟨q, h⟩
    · cases z
    · rw [h] at z; exact E.nw j e a q z
  · rcases key j e q with rfl | ⟨q, h⟩
    · cases z
    · rcases key k e' q' with rfl | ⟨q', h'⟩
      · cases z'
      · rw [h] at z; rw [h'] at z'; exact E.ds j k e e' a q q' z z'
end Fc

set_option Elab.async false
set_option linter.all false
set_option maxRecDepth 100000
set_option maxHeartbeats 4000000
namespace Fc
open PySem PySem.Spec L2
open PyProof.Rows hiding St
theorem pass_leaves {P : Program} {w : World} {K : PySem.W.Frag} {mg : Str → Option Value} {base : Heap} {N : List Str} {qual : Str} {scope : Scope} {f : Addr} {cd : Value} {A : Around} {outer : List Env} {s : Shared} {H : Hp} {E : XK}
    {pins : List (Addr × Obj)} {σ : St} {H1 H' : Hp} {s1 s' : Shared} {e T : Addr} {cls : Value} (I1 : Inv (cxOf (CXF P w) P w K mg base N qual scope f cd A outer s H E) pins σ H1 s1)
    (ho : s'.os = s1.os) (bare : AllBare s'.gens) (un : Un (frs (cxOf (CXF P w) P w K mg base N qual scope f cd A outer s H E).stack) [] H1 H' s1.heap s'.heap) (hok : HOk P w H' s'.heap) (fly : Fly s1.heap s'.heap H' e T cls) (q : E cls none H') :
    (cxOf (CXF P w) P w K mg base N qual scope f cd A outer s H E).xe (.ref e) s' := by
  have hst : s1.heap.FunFrames base (envOfC qual scope s.heap.objs.size f cd :: outer) := I1.stack
  have hfree : ∀ b ∈ frs (envOfC qual scope s.heap.objs.size f cd :: outer), H1 b = none := I1.stkFree
  have un : Un (frs (envOfC qual scope s.heap.objs.size f cd :: outer)) [] H1 H' s1.heap s'.heap := un
  have hfs : ∀ b ∈ frs (envOfC qual scope s.heap.objs.size f cd :: outer), H' b = none := fun b hb => by
    obtain ⟨_, o, r, _⟩ := hst.mem hb
    exact un.free b o r (hfree b hb) List.not_mem_nil
  have hsl : ∀ b ∈ frs (envOfC qual scope s.heap.objs.size f cd :: outer), ∀ o, s1.heap.get? b = some o → ∃ sl, s'.heap.get? b = some { o with slots := sl } := fun b hb o r => un.slot b o r (hfree b hb) hb List.not_mem_nil
  have hff : s'.heap.FunFrames (PySem.W.hideAll s'.heap (e :: T :: frs (envOfC qual scope s.heap.objs.size f cd :: outer))) (envOfC qual scope s.heap.objs.size f cd :: outer) :=
    funFrames_on (h0 := s'.heap) (fs := e :: T :: frs (envOfC qual scope s.heap.objs.size f cd :: outer)) hst hsl fun b hb => List.mem_cons_of_mem _ (List.mem_cons_of_mem _ hb)
  obtain ⟨oe, vs, oT, ts, a0, he, hc, hd, h1, hTe, hT, hdT, h3⟩ := fly.ex
  have hfl : Heap.FlyingW (PySem.W.hideAll s'.heap (e :: T :: frs (envOfC qual scope s.heap.objs.size f cd :: outer))) (envOfC qual scope s.heap.objs.size f cd :: outer) e cls a0 s'.heap :=
    ⟨fun b o z => PySem.W.of_hideAll _ z, PySem.W.hideAll_none _ List.mem_cons_self, hff, oe, vs, T, oT, ts, he, hc, hd, h1, PySem.W.hideAll_none _ (List.mem_cons_of_mem _ List.mem_cons_self), hTe, hT, hdT, h3⟩
  show wpAny (model P w) (A.deeper (envOfC qual scope s.heap.objs.size f cd)) (leaving (envOfC qual scope s.heap.objs.size f cd) (.ref e)) _ _ _
  refine wpAny_leaves_onW I1.ok.frames rfl hfl fun h' fl up => ?_
  obtain ⟨st, hen, hfr, oe2, vs2, T2, oT2, ts2, he2, hc2, hd2, h12, hnT2, hTe2, hT2, hdT2, h32⟩ := fl
  have upF : ∀ b o, s'.heap.get? b = some o → b ∈ frs (envOfC qual scope s.heap.objs.size f cd :: outer) → ∃ sl, h'.get? b = some { o with slots := sl } := fun b o r hb => by
    obtain ⟨_, o2, r2, nf⟩ := hff.mem hb
    rw [r] at r2; cases r2
    exact up b o r nf
  obtain ⟨u2, ok2⟩ := un_fly un hok fly hfs st upF
  have base0 : Un (frs outer) [] H H1 s.heap s1.heap := I1.base
  have un2 : Un (frs outer) [] H H' s.heap h' := by
    refine Un.shrink ((base0.mono (fs' := frs (envOfC qual scope s.heap.objs.size f cd :: outer)) (fun b z => ?_) fun _ z => z).trans u2) fun b o r z => ?_
    · show b ∈ (envOfC qual scope s.heap.objs.size f cd :: outer).filterMap (·.frame)
      rw [List.filterMap_cons]
      exact List.mem_cons_of_mem _ z
    · have z' : b ∈ (envOfC qual scope s.heap.objs.size f cd :: outer).filterMap (·.frame) := z
      rw [List.filterMap_cons] at z'
      rcases List.mem_cons.mp z' with y | y
      · have := Heap.lt_size r
        rw [y] at this
        exact absurd this (Nat.lt_irrefl _)
      · exact y
  -- the new trace was not there
  have tc : T2 = T ∨ s'.heap.get? T2 = none := by
    cases r : s'.heap.get? T2 with
    | none => exact .inr rfl
    | some o =>
      left
      by_cases z : T2 ∈ e :: T :: frs (envOfC qual scope s.heap.objs.size f cd :: outer)
      · rcases List.mem_cons.mp z with z | z
        · exact absurd z hTe2
        · rcases List.mem_cons.mp z with z | z
          · exact z
          · exfalso
            obtain ⟨_, o2, r2, nf⟩ := hff.mem z
            rw [r] at r2; cases r2
            obtain ⟨sl, r3⟩ := upF T2 o r z
            rw [hT2] at r3; cases r3
            exact nf ts2 hdT2
      · rw [PySem.W.hideAll_get _ r z] at hnT2; cases hnT2
  have nT2 : s.heap.get? T2 = none := by
    rcases tc with z | z
    · rw [z]; exact none_of_un base0 fly.nT
    · exact none_of_un base0 (none_of_un un z)
  have fT2 : H' T2 = none := by
    rcases tc with z | z
    · rw [z]; exact fly.fT
    · exact HOk.none_of hok z
  exact ⟨e, T2, cls, H', rfl, ho.trans I1.os, bare, un2, ok2, ⟨⟨oe2, vs2, oT2, ts2, a0, he2, hc2, hd2, h12, hTe2, hT2, hdT2, h32⟩, none_of_un base0 fly.ne, nT2, fly.fe, fT2⟩, q⟩
end Fc
namespace Fc
open PySem PySem.Spec L2
open PyProof.Rows hiding St
section
variable {X : Cx} {Γ Γ1 : Ga} {H0 R0 : Hp}
def RX (X : Cx) (H0 R0 : Hp) (e : Expr) (Γ : Ga) : Prop := ∀ (σ : St) (H R : Hp), EnvOk X.K σ H0 R0 H R Γ → ∀ Q : VK, semE X e σ H Q
theorem rs_expr {e : Expr} {pos : Pos} {rest : List Stmt} (h : RX X H0 R0 e Γ) (hsw : swapsWith e none pos.line X.env = pure false := by rfl) : RS X H0 R0 (.Expr e pos :: rest) Γ := fun σ H R E D =>
  ssS (pss_cons psS pssS) (sS (ps_expr peS hsw) (h σ H R E _))
theorem rs_set (i : Nat) {x : Str} {p1 pos : Pos} {e : Expr} {rest : List Stmt} (h : RX X H0 R0 e Γ) (hN : X.N.Nodup := by first | assumption | decide) (hi : X.N[i]? = some x := by rfl) (hx : Loc X.env.scope x := by first | exact Or.inl rfl | exact Or.inr rfl)
    (hs : swapsWith e (some (.Name x p1)) pos.line X.env = pure false := by rfl) (hf : X.fn x = true ∨ X.env.scope.names.lookup x = some .local := by first | exact .inl rfl | exact .inr rfl) : RS X H0 R0 (.Assign [.Name x p1] e pos :: rest) Γ := fun σ H R E D =>
  ssS (pss_cons psS pssS) (sS (ps_set hN hi hx peS hs hf) (h σ H R E _))
theorem rs_ret {e : Expr} {pos : Pos} {rest : List Stmt} (h : RX X H0 R0 e Γ) : RS X H0 R0 (.Return (some e) pos :: rest) Γ := fun σ H R E D =>
  ssS (pss_cons psS pssS) (sS (ps_ret peS) (h σ H R E _))
theorem rs_ifN {e : Expr} {p pos : Pos} {a b rest : List Stmt} (h : RX X H0 R0 e Γ) (he : ∀ whole, isTrue e X.env whole = (do let v ← whole; standAt e.pos; holding [v] (truthy v)) := by intro _; rfl) : RS X H0 R0 (.If (.UnaryOp .Not e p) a b pos :: rest) Γ := fun σ H R E D =>
  ssS (pss_cons psS pssS) (sS (ps_if (pt_not (pt_val peS he)) pssS pssS) (h σ H R E _))
theorem rs_ifs {c : Expr} {a rest : List Stmt} {pos : Pos} {k : Bool} (hc : TV X.nox c Γ k Γ1) (h1 : k = true → RS X H0 R0 a Γ1) (h2 : k = false → RS X H0 R0 rest Γ1) : RS X H0 R0 (.If c a [] pos :: rest) Γ := by
  cases k with
  | true => exact rs_if hc (h1 rfl)
  | false => exact rs_cons (N1 := fun Γ' => Γ' = Γ1) (w_if hc (fun h => absurd h (by decide)) (fun _ => ws_end rfl)) fun Γ' e => by subst e; exact h2 rfl
theorem rs_comp (i : Nat) {y : Str} {py spos : Pos} {tg elt iter : Expr} {ifs : List Expr} {scope : Scope} {pos : Pos} {cl : List (Str × Addr)} {own fr : List Str} {ix : List Nat} {rest : List Stmt} (S : CompScope X scope cl own fr ix) (h : RX X H0 R0 iter Γ)
    (hsw : swapsWith (.ListComp elt [⟨tg, iter, ifs, 0⟩] scope pos) (some (.Name y py)) spos.line X.env = pure true := by rfl)
    (hN : X.N.Nodup := by first | assumption | decide) (hi' : X.N[i]? = some y := by rfl) (hx : Loc X.env.scope y := by first | exact Or.inl rfl | exact Or.inr rfl)
    (hc : X.calm = true := by rfl) (hs : ∀ x, foldedSetIterable iter X.env x = pure x := by intro _; rfl) (hf : X.fn y = true ∨ X.env.scope.names.lookup y = some .local := by first | exact .inl rfl | exact .inr rfl) :
    RS X H0 R0 (.Assign [.Name y py] (.ListComp elt [⟨tg, iter, ifs, 0⟩] scope pos) spos :: rest) Γ := fun σ H R E D => by
  refine ssS (pss_cons psS pssS) (sS (ps_setcomp (i := i) (g := fun v σ H Q => ∀ C s Hh ex, semG (cxComp X scope cl C (own ++ fr) s Hh ex) tg v σ H Q) (tc := fun σ H Q => ∀ C s Hh ex, semF (cxComp X scope cl C (own ++ fr) s Hh ex) ifs σ H Q) (te := fun σ H Q => ∀ C s Hh ex, semE (cxComp X scope cl C (own ++ fr) s Hh ex) elt σ H Q) hsw hN hi' hx hc S (pi_list peS)
    (fun C s H ex => ⟨fun pins s1 σ H v u Q I r h => h C s _ ex pins s1 u I r, fun pins s1 σ H Q I h => h C s _ ex pins s1 I, fun pins s1 σ H Q I h => h C s _ ex pins s1 I⟩) hs hf) ?_)
  exact h σ H R E _
end
section
variable {P : Program} {w : World} {K : PySem.W.Frag} {mg : Str → Option Value} {base : Heap} {N : List Str} {qual : Str} {scope : Scope} {f : Addr} {cd : Value} {A : Around} {outer : List Env} {s : Shared} {H R : Hp} {E : XK} {Γ Γ1 : Ga}
theorem rx_call {S : SpX} {x : Str} {k : Nat} {e : Expr} {es : List Expr} {p pos : Pos} {ps : List Pk} {cls : Value} (C : CalX P w K mg base x k (spX S K)) (hr : Room k (A.deeper (envOfC qual scope s.heap.objs.size f cd))) (ha : HA (cxOf (CXF P w) P w K mg base N qual scope f cd A outer s H E).nox (e :: es) Γ ps Γ1) (hS : S K ps (.exc cls)) (q : ∀ H' R', Ext H R H' R' → E cls none H')
    (hg : Gl (cxOf (CXF P w) P w K mg base N qual scope f cd A outer s H E) x := by rfl) (hdb : (x == ("__debug__" : Str)) = false := by decide) (he : starEach (e :: es) (cxOf (CXF P w) P w K mg base N qual scope f cd A outer s H E).env = (false, eval e (cxOf (CXF P w) P w K mg base N qual scope f cd A outer s H E).env) :: starEach es (cxOf (CXF P w) P w K mg base N qual scope f cd A outer s H E).env := by rfl)
    (hpl : (backTo pos (starEach es (cxOf (CXF P w) P w K mg base N qual scope f cd A outer s H E).env)).any (·.1) = false := by rfl) : RX (cxOf (CXF P w) P w K mg base N qual scope f cd A outer s H E) H R (.Call (.Name x p) (e :: es) [] pos) Γ := fun σ H1 R1 EO Q pins s1 I => by
  exact exc_call (X := cxOf (CXF P w) P w K mg base N qual scope f cd A outer s H E) C hr ha hS EO I (fun s2 H2 ea T H' R' s' I2 ho bare un hok fly E' sR => pass_leaves I2 ho bare un hok fly (q H' R' E'.ext)) hg hdb he hpl
theorem fn_exc {S : SpX} {x qual : Str} {st : Stmt} {f : Addr} {fd : FuncData} {N ps : List Str} {k : Nat} (F : Fun K x qual st f fd) (Sc : FnScope N ps (defScope st)) (hm : mg x = some (.ref f)) (hb : Binds K fd ps []) (len : ∀ qs o, S K qs o → qs.length = ps.length) (hno : ∀ qs T, ¬ S K qs (.ret T))
    (hexc : ∀ (cdv : Value) (A : Around) (outer : List Env) (s : Shared) (H R : Hp) (E : XK) (qs : List Pk) (c : Value), Room k (A.deeper (envOfC qual (defScope st) s.heap.objs.size f cdv)) → S K qs (.exc c) → (∀ H' R', Ext H R H' R' → E c none H') →
      RS (cxOf (CXF P w) P w K mg base N qual (defScope st) f cdv A outer s H E) H R (defBody st) (gaOf qs N.length)) : CalX P w K mg base x (k + 1) (spX S K) :=
  fn_okX F Sc hm hb len (fun _ _ _ _ _ _ qs T _ hS => absurd hS (hno qs T)) hexc
end
end Fc

set_option Elab.async false
set_option linter.all false
set_option maxRecDepth 100000
set_option maxHeartbeats 4000000
namespace K1
open PySem L2 Fc
open PySem.Spec hiding Row
open PyProof.Rows hiding St
open PySem.Builtin.Int (intBits)
def rAnyK : Rep Unit := ⟨fun _ _ _ _ => True, fun _ h => h⟩
theorem EV.any {X : Cx} {Γ Γ1 : Ga} {α : Type} {e : Expr} {r : Rep α} {x : α} (h : EV X e Γ r x Γ1) : EV X e Γ rAnyK () Γ1 := fun σ H0 R0 H R E Q q => h σ H0 R0 H R E Q fun v H1 R1 E1 s1 _ => q v H1 R1 E1 s1 trivial
theorem rx_last {X : Cx} {H0 R0 : Hp} {Γ : Ga} {α β γ : Type} {ra : Rep α} {rb : Rep β} {rc : Rep γ} {ya : α} {yb : β} {yc : γ} {x : Str} {g : Addr} {a b c d : Expr} {p pos : Pos} (hm : X.mg x = some (.ref g)) (hk : PySem.W.keepIn X.K (.ref g) = true) (ha : EV X a Γ ra ya Γ) (hb : EV X b Γ rb yb Γ) (hc : EV X c Γ rc yc Γ) (hd : RX X H0 R0 d Γ)
    (hg : Gl X x := by rfl) (hdb : (x == ("__debug__" : Str)) = false := by decide) (h1 : starEach [a, b, c, d] X.env = (false, eval a X.env) :: starEach [b, c, d] X.env := by rfl) (h2 : starEach [b, c, d] X.env = (false, eval b X.env) :: starEach [c, d] X.env := by rfl) (h3 : starEach [c, d] X.env = (false, eval c X.env) :: starEach [d] X.env := by rfl) (h4 : starEach [d] X.env = (false, eval d X.env) :: starEach [] X.env := by rfl)
    (hpl : (backTo pos (starEach [b, c, d] X.env)).any (·.1) = false := by rfl) : RX X H0 R0 (.Call (.Name x p) [a, b, c, d] [] pos) Γ := fun σ H R E Q pins s I => by
  refine wpAny_Call_Name_kw (ld_glob I hg hm ?_ hdb)
  refine PySem.W.callWith_K (h₀ := X.base) I.ok.mod.kin hk (thn ((pa_cons peS (pa_cons peS (pa_cons peS (pa_cons peS pa_nil h4) h3) h2) h1) pos pins s σ H (fun _ _ => False) I ?_) fun us s1 ⟨_, _, _, _, q⟩ => q.elim) h1 hpl
  exact ha σ H0 R0 H R E _ fun _ H1 R1 E1 _ _ => hb σ H0 R0 H1 R1 E1 _ fun _ H2 R2 E2 _ _ => hc σ H0 R0 H2 R2 E2 _ fun _ H3 R3 E3 _ _ => hd σ H3 R3 E3 _
def SNX (C : Addr) (n : Nat) : SpX := fun K ps o => ∃ (v : Web) (qs : List Pk), ps = ⟨rWeb, v⟩ :: qs ∧ qs.length = n ∧ v.1.length ≤ 1000 ∧ v.2.length ≤ 1000 ∧ webF v = false ∧ o = .exc (.ref C)
theorem snx_no {C : Addr} {n : Nat} {K : PySem.W.Frag} (qs : List Pk) (T : RT) : ¬ SNX C n K qs (.ret T) := fun ⟨_, _, _, _, _, _, _, h⟩ => by cases h
theorem snx_len {C : Addr} {n m : Nat} (e : m = n + 1) {K : PySem.W.Frag} (qs : List Pk) (o : Out) : SNX C n K qs o → qs.length = m := fun ⟨_, _, h, l, _⟩ => by rw [h, List.length_cons, l, e]
section
variable {P : Program} {w : World} {K : PySem.W.Frag} {mg : Str → Option Value} {base : Heap} {f : Addr} {fd : FuncData} {C : Addr}
abbrev sNWx : Stmt := top at_need_web
theorem scNWx : FnScope ["web"] ["web"] (defScope sNWx) := ⟨rfl, rfl, rfl, by decide +kernel, rfl, by decide +kernel, by decide +kernel⟩
theorem ok_NWx (hC : ExcC K mg "NoWeb" C) (CW : Cal P w K mg base "is_web" 5 (spG SWE K)) (F : Fun K "need_web" "need_web" sNWx f fd) (hm : mg "need_web" = some (.ref f)) (hb : Binds K fd ["web"] []) : CalX P w K mg base "need_web" 6 (spX (SNX C 0) K) := by
  refine fn_exc F scNWx hm hb (snx_len rfl) snx_no (fun cdv A outer s H R E qs c hr hS q => ?_)
  obtain ⟨v, qs', rfl, hl, l1, l2, hw, e⟩ := hS
  cases e
  cases List.length_eq_zero_iff.mp hl
  change RS _ H R _ [.im rWeb v]
  exact rs_if (TV.cast (tv_not (tv_bool (ev_call CW hr (ha_cons (ev_name 0 rfl) ha_nil) ⟨v, rfl, l1, l2, rfl⟩))) (by rw [hw]; rfl)) (rs_raise hC q)
abbrev sIRx : Stmt := top at_is_run
theorem scIRx : FnScope ["web", "rows"] ["web", "rows"] (defScope sIRx) := ⟨rfl, rfl, rfl, by decide +kernel, rfl, by decide +kernel, by decide +kernel⟩
theorem ok_IRx (CNWx : CalX P w K mg base "need_web" 6 (spX (SNX C 0) K)) (F : Fun K "is_run" "is_run" sIRx f fd) (hm : mg "is_run" = some (.ref f)) (hb : Binds K fd ["web", "rows"] []) : CalX P w K mg base "is_run" 7 (spX (SNX C 1) K) := by
  have nd := scIRx.nd
  refine fn_exc F scIRx hm hb (snx_len rfl) snx_no (fun cdv A outer s H R E qs c hr hS q => ?_)
  obtain ⟨v, qs', rfl, hl, l1, l2, hw, e⟩ := hS
  cases e
  obtain ⟨q1, rfl⟩ : ∃ q1, qs' = [q1] := by
    match qs', hl with
    | [q1], _ => exact ⟨q1, rfl⟩
  change RS _ H R _ [.im rWeb v, .im q1.r q1.x]
  exact rs_expr (rx_call CNWx hr (ha_cons (ev_name 0 rfl) ha_nil) ⟨v, [], rfl, rfl, l1, l2, hw, rfl⟩ q)
abbrev sSTx : Stmt := top at_stood
theorem scSTx : FnScope ["web", "rows"] ["web", "rows"] (defScope sSTx) := ⟨rfl, rfl, rfl, by decide +kernel, rfl, by decide +kernel, by decide +kernel⟩
theorem ok_STx (CNWx : CalX P w K mg base "need_web" 6 (spX (SNX C 0) K)) (F : Fun K "stood" "stood" sSTx f fd) (hm : mg "stood" = some (.ref f)) (hb : Binds K fd ["web", "rows"] []) : CalX P w K mg base "stood" 7 (spX (SNX C 1) K) := by
  have nd := scSTx.nd
  refine fn_exc F scSTx hm hb (snx_len rfl) snx_no (fun cdv A outer s H R E qs c hr hS q => ?_)
  obtain ⟨v, qs', rfl, hl, l1, l2, hw, e⟩ := hS
  cases e
  obtain ⟨q1, rfl⟩ : ∃ q1, qs' = [q1] := by
    match qs', hl with
    | [q1], _ => exact ⟨q1, rfl⟩
  change RS _ H R _ [.im rWeb v, .im q1.r q1.x]
  exact rs_expr (rx_call CNWx hr (ha_cons (ev_name 0 rfl) ha_nil) ⟨v, [], rfl, rfl, l1, l2, hw, rfl⟩ q)
abbrev sCOx : Stmt := top at_counts
theorem scCOx : FnScope ["web", "heap"] ["web", "heap"] (defScope sCOx) := ⟨rfl, rfl, rfl, by decide +kernel, rfl, by decide +kernel, by decide +kernel⟩
theorem ok_COx (CNWx : CalX P w K mg base "need_web" 6 (spX (SNX C 0) K)) (F : Fun K "counts" "counts" sCOx f fd) (hm : mg "counts" = some (.ref f)) (hb : Binds K fd ["web", "heap"] []) : CalX P w K mg base "counts" 7 (spX (SNX C 1) K) := by
  have nd := scCOx.nd
  refine fn_exc F scCOx hm hb (snx_len rfl) snx_no (fun cdv A outer s H R E qs c hr hS q => ?_)
  obtain ⟨v, qs', rfl, hl, l1, l2, hw, e⟩ := hS
  cases e
  obtain ⟨q1, rfl⟩ : ∃ q1, qs' = [q1] := by
    match qs', hl with
    | [q1], _ => exact ⟨q1, rfl⟩
  change RS _ H R _ [.im rWeb v, .im q1.r q1.x]
  exact rs_expr (rx_call CNWx hr (ha_cons (ev_name 0 rfl) ha_nil) ⟨v, [], rfl, rfl, l1, l2, hw, rfl⟩ q)
abbrev sRLx : Stmt := top at_relations
theorem scRLx : FnScope ["web"] ["web"] (defScope sRLx) := ⟨rfl, rfl, rfl, by decide +kernel, rfl, by decide +kernel, by decide +kernel⟩
theorem ok_RLx (CNWx : CalX P w K mg base "need_web" 6 (spX (SNX C 0) K)) (F : Fun K "relations" "relations" sRLx f fd) (hm : mg "relations" = some (.ref f)) (hb : Binds K fd ["web"] []) : CalX P w K mg base "relations" 7 (spX (SNX C 0) K) := by
  have nd := scRLx.nd
  refine fn_exc F scRLx hm hb (snx_len rfl) snx_no (fun cdv A outer s H R E qs c hr hS q => ?_)
  obtain ⟨v, qs', rfl, hl, l1, l2, hw, e⟩ := hS
  cases e
  obtain ⟨_, rfl⟩ : ∃ _u : Unit, qs' = [] := by
    exact ⟨(), List.length_eq_zero_iff.mp hl⟩
  change RS _ H R _ [.im rWeb v]
  exact rs_expr (rx_call CNWx hr (ha_cons (ev_name 0 rfl) ha_nil) ⟨v, [], rfl, rfl, l1, l2, hw, rfl⟩ q)
abbrev sACx : Stmt := top at_are_counts
theorem scACx : FnScope ["web", "numbers"] ["web", "numbers"] (defScope sACx) := ⟨rfl, rfl, rfl, by decide +kernel, rfl, by decide +kernel, by decide +kernel⟩
theorem ok_ACx (CNWx : CalX P w K mg base "need_web" 6 (spX (SNX C 0) K)) (F : Fun K "are_counts" "are_counts" sACx f fd) (hm : mg "are_counts" = some (.ref f)) (hb : Binds K fd ["web", "numbers"] []) : CalX P w K mg base "are_counts" 7 (spX (SNX C 1) K) := by
  have nd := scACx.nd
  refine fn_exc F scACx hm hb (snx_len rfl) snx_no (fun cdv A outer s H R E qs c hr hS q => ?_)
  obtain ⟨v, qs', rfl, hl, l1, l2, hw, e⟩ := hS
  cases e
  obtain ⟨q1, rfl⟩ : ∃ q1, qs' = [q1] := by
    match qs', hl with
    | [q1], _ => exact ⟨q1, rfl⟩
  change RS _ H R _ [.im rWeb v, .im q1.r q1.x]
  exact rs_expr (rx_call CNWx hr (ha_cons (ev_name 0 rfl) ha_nil) ⟨v, [], rfl, rfl, l1, l2, hw, rfl⟩ q)
abbrev sHFx : Stmt := top at_heap_of
theorem scHFx : FnScope ["web", "numbers"] ["web", "numbers"] (defScope sHFx) := ⟨rfl, rfl, rfl, by decide +kernel, rfl, by decide +kernel, by decide +kernel⟩
theorem ok_HFx (CACx : CalX P w K mg base "are_counts" 7 (spX (SNX C 1) K)) (F : Fun K "heap_of" "heap_of" sHFx f fd) (hm : mg "heap_of" = some (.ref f)) (hb : Binds K fd ["web", "numbers"] []) : CalX P w K mg base "heap_of" 8 (spX (SNX C 1) K) := by
  have nd := scHFx.nd
  refine fn_exc F scHFx hm hb (snx_len rfl) snx_no (fun cdv A outer s H R E qs c hr hS q => ?_)
  obtain ⟨v, qs', rfl, hl, l1, l2, hw, e⟩ := hS
  cases e
  obtain ⟨q1, rfl⟩ : ∃ q1, qs' = [q1] := by
    match qs', hl with
    | [q1], _ => exact ⟨q1, rfl⟩
  change RS _ H R _ [.im rWeb v, .im q1.r q1.x]
  exact rs_ifN (rx_call CACx hr (ha_cons (ev_name 0 rfl) (ha_cons (ev_name 1 rfl) ha_nil)) ⟨v, [_], rfl, rfl, l1, l2, hw, rfl⟩ q)
abbrev sJUx : Stmt := top at_judged
theorem scJUx : FnScope ["web", "plan"] ["web", "plan"] (defScope sJUx) := ⟨rfl, rfl, rfl, by decide +kernel, rfl, by decide +kernel, by decide +kernel⟩
theorem ok_JUx (CNWx : CalX P w K mg base "need_web" 6 (spX (SNX C 0) K)) (F : Fun K "judged" "judged" sJUx f fd) (hm : mg "judged" = some (.ref f)) (hb : Binds K fd ["web", "plan"] []) : CalX P w K mg base "judged" 7 (spX (SNX C 1) K) := by
  have nd := scJUx.nd
  refine fn_exc F scJUx hm hb (snx_len rfl) snx_no (fun cdv A outer s H R E qs c hr hS q => ?_)
  obtain ⟨v, qs', rfl, hl, l1, l2, hw, e⟩ := hS
  cases e
  obtain ⟨q1, rfl⟩ : ∃ q1, qs' = [q1] := by
    match qs', hl with
    | [q1], _ => exact ⟨q1, rfl⟩
  change RS _ H R _ [.im rWeb v, .im q1.r q1.x]
  exact rs_expr (rx_call CNWx hr (ha_cons (ev_name 0 rfl) ha_nil) ⟨v, [], rfl, rfl, l1, l2, hw, rfl⟩ q)
abbrev sPFx : Stmt := top at_plan_for
theorem scPFx : FnScope ["web", "guesses"] ["web", "guesses"] (defScope sPFx) := ⟨rfl, rfl, rfl, by decide +kernel, rfl, by decide +kernel, by decide +kernel⟩
theorem ok_PFx (CNWx : CalX P w K mg base "need_web" 6 (spX (SNX C 0) K)) (F : Fun K "plan_for" "plan_for" sPFx f fd) (hm : mg "plan_for" = some (.ref f)) (hb : Binds K fd ["web", "guesses"] []) : CalX P w K mg base "plan_for" 7 (spX (SNX C 1) K) := by
  have nd := scPFx.nd
  refine fn_exc F scPFx hm hb (snx_len rfl) snx_no (fun cdv A outer s H R E qs c hr hS q => ?_)
  obtain ⟨v, qs', rfl, hl, l1, l2, hw, e⟩ := hS
  cases e
  obtain ⟨q1, rfl⟩ : ∃ q1, qs' = [q1] := by
    match qs', hl with
    | [q1], _ => exact ⟨q1, rfl⟩
  change RS _ H R _ [.im rWeb v, .im q1.r q1.x]
  exact rs_expr (rx_call CNWx hr (ha_cons (ev_name 0 rfl) ha_nil) ⟨v, [], rfl, rfl, l1, l2, hw, rfl⟩ q)
abbrev sCSx : Stmt := top at_cost
theorem scCSx : FnScope ["web", "choice", "guesses"] ["web", "choice", "guesses"] (defScope sCSx) := ⟨rfl, rfl, rfl, by decide +kernel, rfl, by decide +kernel, by decide +kernel⟩
theorem ok_CSx (CNWx : CalX P w K mg base "need_web" 6 (spX (SNX C 0) K)) (F : Fun K "cost" "cost" sCSx f fd) (hm : mg "cost" = some (.ref f)) (hb : Binds K fd ["web", "choice", "guesses"] []) : CalX P w K mg base "cost" 7 (spX (SNX C 2) K) := by
  have nd := scCSx.nd
  refine fn_exc F scCSx hm hb (snx_len rfl) snx_no (fun cdv A outer s H R E qs c hr hS q => ?_)
  obtain ⟨v, qs', rfl, hl, l1, l2, hw, e⟩ := hS
  cases e
  obtain ⟨q1, q2, rfl⟩ : ∃ q1 q2, qs' = [q1, q2] := by
    match qs', hl with
    | [q1, q2], _ => exact ⟨q1, q2, rfl⟩
  change RS _ H R _ [.im rWeb v, .im q1.r q1.x, .im q2.r q2.x]
  exact rs_expr (rx_call CNWx hr (ha_cons (ev_name 0 rfl) ha_nil) ⟨v, [], rfl, rfl, l1, l2, hw, rfl⟩ q)
abbrev sIEx : Stmt := top at_is_enough
theorem scIEx : FnScope ["web", "choice"] ["web", "choice"] (defScope sIEx) := ⟨rfl, rfl, rfl, by decide +kernel, rfl, by decide +kernel, by decide +kernel⟩
theorem ok_IEx (CNWx : CalX P w K mg base "need_web" 6 (spX (SNX C 0) K)) (F : Fun K "is_enough" "is_enough" sIEx f fd) (hm : mg "is_enough" = some (.ref f)) (hb : Binds K fd ["web", "choice"] []) : CalX P w K mg base "is_enough" 7 (spX (SNX C 1) K) := by
  have nd := scIEx.nd
  refine fn_exc F scIEx hm hb (snx_len rfl) snx_no (fun cdv A outer s H R E qs c hr hS q => ?_)
  obtain ⟨v, qs', rfl, hl, l1, l2, hw, e⟩ := hS
  cases e
  obtain ⟨q1, rfl⟩ : ∃ q1, qs' = [q1] := by
    match qs', hl with
    | [q1], _ => exact ⟨q1, rfl⟩
  change RS _ H R _ [.im rWeb v, .im q1.r q1.x]
  exact rs_expr (rx_call CNWx hr (ha_cons (ev_name 0 rfl) ha_nil) ⟨v, [], rfl, rfl, l1, l2, hw, rfl⟩ q)
abbrev sTWx : Stmt := top at_twins
theorem scTWx : FnScope ["web", "choice"] ["web", "choice"] (defScope sTWx) := ⟨rfl, rfl, rfl, by decide +kernel, rfl, by decide +kernel, by decide +kernel⟩
theorem ok_TWx (CNWx : CalX P w K mg base "need_web" 6 (spX (SNX C 0) K)) (F : Fun K "twins" "twins" sTWx f fd) (hm : mg "twins" = some (.ref f)) (hb : Binds K fd ["web", "choice"] []) : CalX P w K mg base "twins" 7 (spX (SNX C 1) K) := by
  have nd := scTWx.nd
  refine fn_exc F scTWx hm hb (snx_len rfl) snx_no (fun cdv A outer s H R E qs c hr hS q => ?_)
  obtain ⟨v, qs', rfl, hl, l1, l2, hw, e⟩ := hS
  cases e
  obtain ⟨q1, rfl⟩ : ∃ q1, qs' = [q1] := by
    match qs', hl with
    | [q1], _ => exact ⟨q1, rfl⟩
  change RS _ H R _ [.im rWeb v, .im q1.r q1.x]
  exact rs_expr (rx_call CNWx hr (ha_cons (ev_name 0 rfl) ha_nil) ⟨v, [], rfl, rfl, l1, l2, hw, rfl⟩ q)
abbrev sSDx : Stmt := top at_stopped
theorem scSDx : FnScope ["web", "stops"] ["web", "stops"] (defScope sSDx) := ⟨rfl, rfl, rfl, by decide +kernel, rfl, by decide +kernel, by decide +kernel⟩
theorem ok_SDx (CNWx : CalX P w K mg base "need_web" 6 (spX (SNX C 0) K)) (F : Fun K "stopped" "stopped" sSDx f fd) (hm : mg "stopped" = some (.ref f)) (hb : Binds K fd ["web", "stops"] []) : CalX P w K mg base "stopped" 7 (spX (SNX C 1) K) := by
  have nd := scSDx.nd
  refine fn_exc F scSDx hm hb (snx_len rfl) snx_no (fun cdv A outer s H R E qs c hr hS q => ?_)
  obtain ⟨v, qs', rfl, hl, l1, l2, hw, e⟩ := hS
  cases e
  obtain ⟨q1, rfl⟩ : ∃ q1, qs' = [q1] := by
    match qs', hl with
    | [q1], _ => exact ⟨q1, rfl⟩
  change RS _ H R _ [.im rWeb v, .im q1.r q1.x]
  exact rs_expr (rx_call CNWx hr (ha_cons (ev_name 0 rfl) ha_nil) ⟨v, [], rfl, rfl, l1, l2, hw, rfl⟩ q)
abbrev sRBx : Stmt := top at_read_back
abbrev sRFk : Stmt := top at_read_from
theorem known {x : Str} {st : Stmt} {ps : List Str} (F : Fun K x x st f fd) (hm : mg x = some (.ref f)) (hb : Binds K fd ps []) : ∃ g, mg x = some (.ref g) ∧ PySem.W.keepIn K (.ref g) = true := ⟨f, hm, F.kp⟩
theorem scRBx : FnScope ["web", "plan", "marks", "stops"] ["web", "plan", "marks", "stops"] (defScope sRBx) := ⟨rfl, rfl, rfl, by decide +kernel, rfl, by decide +kernel, by decide +kernel⟩
theorem ok_RBx (RFk : ∃ g, mg "read_from" = some (.ref g) ∧ PySem.W.keepIn K (.ref g) = true) (CSDx : CalX P w K mg base "stopped" 7 (spX (SNX C 1) K)) (F : Fun K "read_back" "read_back" sRBx f fd) (hm : mg "read_back" = some (.ref f)) (hb : Binds K fd ["web", "plan", "marks", "stops"] []) : CalX P w K mg base "read_back" 8 (spX (SNX C 3) K) := by
  have nd := scRBx.nd
  refine fn_exc F scRBx hm hb (snx_len rfl) snx_no (fun cdv A outer s H R E qs c hr hS q => ?_)
  obtain ⟨g, hg1, hg2⟩ := RFk
  obtain ⟨v, qs', rfl, hl, l1, l2, hw, e⟩ := hS
  cases e
  obtain ⟨q1, q2, q3, rfl⟩ : ∃ q1 q2 q3, qs' = [q1, q2, q3] := by
    match qs', hl with
    | [q1, q2, q3], _ => exact ⟨q1, q2, q3, rfl⟩
  change RS _ H R _ [.im rWeb v, .im q1.r q1.x, .im q2.r q2.x, .im q3.r q3.x]
  exact rs_ret (rx_last hg1 hg2 (ev_name 0 rfl) (ev_name 1 rfl) (ev_name 2 rfl) (rx_call CSDx hr (ha_cons (ev_name 0 rfl) (ha_cons (ev_name 3 rfl) ha_nil)) ⟨v, [_], rfl, rfl, l1, l2, hw, rfl⟩ q))
abbrev sNPx : Stmt := top at_need_part
theorem scNPx : FnScope ["web", "part"] ["web", "part"] (defScope sNPx) := ⟨rfl, rfl, rfl, by decide +kernel, rfl, by decide +kernel, by decide +kernel⟩
theorem ok_NPx (CNWx : CalX P w K mg base "need_web" 6 (spX (SNX C 0) K)) (F : Fun K "need_part" "need_part" sNPx f fd) (hm : mg "need_part" = some (.ref f)) (hb : Binds K fd ["web", "part"] []) : CalX P w K mg base "need_part" 7 (spX (SNX C 1) K) := by
  have nd := scNPx.nd
  refine fn_exc F scNPx hm hb (snx_len rfl) snx_no (fun cdv A outer s H R E qs c hr hS q => ?_)
  obtain ⟨v, qs', rfl, hl, l1, l2, hw, e⟩ := hS
  cases e
  obtain ⟨q1, rfl⟩ : ∃ q1, qs' = [q1] := by
    match qs', hl with
    | [q1], _ => exact ⟨q1, rfl⟩
  change RS _ H R _ [.im rWeb v, .im q1.r q1.x]
  exact rs_expr (rx_call CNWx hr (ha_cons (ev_name 0 rfl) ha_nil) ⟨v, [], rfl, rfl, l1, l2, hw, rfl⟩ q)
abbrev sILx : Stmt := top at_is_loose
theorem scILx : FnScope ["web", "part"] ["web", "part"] (defScope sILx) := ⟨rfl, rfl, rfl, by decide +kernel, rfl, by decide +kernel, by decide +kernel⟩
theorem ok_ILx (CNPx : CalX P w K mg base "need_part" 7 (spX (SNX C 1) K)) (F : Fun K "is_loose" "is_loose" sILx f fd) (hm : mg "is_loose" = some (.ref f)) (hb : Binds K fd ["web", "part"] []) : CalX P w K mg base "is_loose" 8 (spX (SNX C 1) K) := by
  have nd := scILx.nd
  refine fn_exc F scILx hm hb (snx_len rfl) snx_no (fun cdv A outer s H R E qs c hr hS q => ?_)
  obtain ⟨v, qs', rfl, hl, l1, l2, hw, e⟩ := hS
  cases e
  obtain ⟨q1, rfl⟩ : ∃ q1, qs' = [q1] := by
    match qs', hl with
    | [q1], _ => exact ⟨q1, rfl⟩
  change RS _ H R _ [.im rWeb v, .im q1.r q1.x]
  exact rs_expr (rx_call CNPx hr (ha_cons (ev_name 0 rfl) (ha_cons (ev_name 1 rfl) ha_nil)) ⟨v, [_], rfl, rfl, l1, l2, hw, rfl⟩ q)
abbrev sNOx : Stmt := top at_need_loose
theorem scNOx : FnScope ["web", "part"] ["web", "part"] (defScope sNOx) := ⟨rfl, rfl, rfl, by decide +kernel, rfl, by decide +kernel, by decide +kernel⟩
theorem ok_NOx (CILx : CalX P w K mg base "is_loose" 8 (spX (SNX C 1) K)) (F : Fun K "need_loose" "need_loose" sNOx f fd) (hm : mg "need_loose" = some (.ref f)) (hb : Binds K fd ["web", "part"] []) : CalX P w K mg base "need_loose" 9 (spX (SNX C 1) K) := by
  have nd := scNOx.nd
  refine fn_exc F scNOx hm hb (snx_len rfl) snx_no (fun cdv A outer s H R E qs c hr hS q => ?_)
  obtain ⟨v, qs', rfl, hl, l1, l2, hw, e⟩ := hS
  cases e
  obtain ⟨q1, rfl⟩ : ∃ q1, qs' = [q1] := by
    match qs', hl with
    | [q1], _ => exact ⟨q1, rfl⟩
  change RS _ H R _ [.im rWeb v, .im q1.r q1.x]
  exact rs_ifN (rx_call CILx hr (ha_cons (ev_name 0 rfl) (ha_cons (ev_name 1 rfl) ha_nil)) ⟨v, [_], rfl, rfl, l1, l2, hw, rfl⟩ q)
abbrev sWYx : Stmt := top at_ways
theorem scWYx : FnScope ["web", "part"] ["web", "part"] (defScope sWYx) := ⟨rfl, rfl, rfl, by decide +kernel, rfl, by decide +kernel, by decide +kernel⟩
theorem ok_WYx (CNOx : CalX P w K mg base "need_loose" 9 (spX (SNX C 1) K)) (F : Fun K "ways" "ways" sWYx f fd) (hm : mg "ways" = some (.ref f)) (hb : Binds K fd ["web", "part"] []) : CalX P w K mg base "ways" 10 (spX (SNX C 1) K) := by
  have nd := scWYx.nd
  refine fn_exc F scWYx hm hb (snx_len rfl) snx_no (fun cdv A outer s H R E qs c hr hS q => ?_)
  obtain ⟨v, qs', rfl, hl, l1, l2, hw, e⟩ := hS
  cases e
  obtain ⟨q1, rfl⟩ : ∃ q1, qs' = [q1] := by
    match qs', hl with
    | [q1], _ => exact ⟨q1, rfl⟩
  change RS _ H R _ [.im rWeb v, .im q1.r q1.x]
  exact rs_expr (rx_call CNOx hr (ha_cons (ev_name 0 rfl) (ha_cons (ev_name 1 rfl) ha_nil)) ⟨v, [_], rfl, rfl, l1, l2, hw, rfl⟩ q)
abbrev sWTx : Stmt := top at_worths
theorem scWTx : FnScope ["web", "part"] ["web", "part"] (defScope sWTx) := ⟨rfl, rfl, rfl, by decide +kernel, rfl, by decide +kernel, by decide +kernel⟩
theorem ok_WTx (CNOx : CalX P w K mg base "need_loose" 9 (spX (SNX C 1) K)) (F : Fun K "worths" "worths" sWTx f fd) (hm : mg "worths" = some (.ref f)) (hb : Binds K fd ["web", "part"] []) : CalX P w K mg base "worths" 10 (spX (SNX C 1) K) := by
  have nd := scWTx.nd
  refine fn_exc F scWTx hm hb (snx_len rfl) snx_no (fun cdv A outer s H R E qs c hr hS q => ?_)
  obtain ⟨v, qs', rfl, hl, l1, l2, hw, e⟩ := hS
  cases e
  obtain ⟨q1, rfl⟩ : ∃ q1, qs' = [q1] := by
    match qs', hl with
    | [q1], _ => exact ⟨q1, rfl⟩
  change RS _ H R _ [.im rWeb v, .im q1.r q1.x]
  exact rs_expr (rx_call CNOx hr (ha_cons (ev_name 0 rfl) (ha_cons (ev_name 1 rfl) ha_nil)) ⟨v, [_], rfl, rfl, l1, l2, hw, rfl⟩ q)
abbrev sSPx : Stmt := top at_steps
theorem scSPx : FnScope ["web", "part"] ["web", "part"] (defScope sSPx) := ⟨rfl, rfl, rfl, by decide +kernel, rfl, by decide +kernel, by decide +kernel⟩
theorem ok_SPx (CWTx : CalX P w K mg base "worths" 10 (spX (SNX C 1) K)) (F : Fun K "steps" "steps" sSPx f fd) (hm : mg "steps" = some (.ref f)) (hb : Binds K fd ["web", "part"] []) : CalX P w K mg base "steps" 11 (spX (SNX C 1) K) := by
  have nd := scSPx.nd
  refine fn_exc F scSPx hm hb (snx_len rfl) snx_no (fun cdv A outer s H R E qs c hr hS q => ?_)
  obtain ⟨v, qs', rfl, hl, l1, l2, hw, e⟩ := hS
  cases e
  obtain ⟨q1, rfl⟩ : ∃ q1, qs' = [q1] := by
    match qs', hl with
    | [q1], _ => exact ⟨q1, rfl⟩
  change RS _ H R _ [.im rWeb v, .im q1.r q1.x]
  exact rs_ret (rx_call CWTx hr (ha_cons (ev_name 0 rfl) (ha_cons (ev_name 1 rfl) ha_nil)) ⟨v, [_], rfl, rfl, l1, l2, hw, rfl⟩ q)
abbrev sNUx : Stmt := top at_number_of
theorem scNUx : FnScope ["web", "part", "way", "known"] ["web", "part", "way"] (defScope sNUx) := ⟨rfl, rfl, rfl, by decide +kernel, rfl, by decide +kernel, by decide +kernel⟩
theorem ok_NUx (CWTx : CalX P w K mg base "worths" 10 (spX (SNX C 1) K)) (F : Fun K "number_of" "number_of" sNUx f fd) (hm : mg "number_of" = some (.ref f)) (hb : Binds K fd ["web", "part", "way"] []) : CalX P w K mg base "number_of" 11 (spX (SNX C 2) K) := by
  have nd := scNUx.nd
  refine fn_exc F scNUx hm hb (snx_len rfl) snx_no (fun cdv A outer s H R E qs c hr hS q => ?_)
  obtain ⟨v, qs', rfl, hl, l1, l2, hw, e⟩ := hS
  cases e
  obtain ⟨q1, q2, rfl⟩ : ∃ q1 q2, qs' = [q1, q2] := by
    match qs', hl with
    | [q1, q2], _ => exact ⟨q1, q2, rfl⟩
  change RS _ H R _ [.im rWeb v, .im q1.r q1.x, .im q2.r q2.x, .no]
  exact rs_set 3 (rx_call CWTx hr (ha_cons (ev_name 0 rfl) (ha_cons (ev_name 1 rfl) ha_nil)) ⟨v, [_], rfl, rfl, l1, l2, hw, rfl⟩ q)
abbrev sWOx : Stmt := top at_way_of
theorem scWOx : FnScope ["web", "part", "number"] ["web", "part", "number"] (defScope sWOx) := ⟨rfl, rfl, rfl, by decide +kernel, rfl, by decide +kernel, by decide +kernel⟩
theorem ok_WOx (CNOx : CalX P w K mg base "need_loose" 9 (spX (SNX C 1) K)) (F : Fun K "way_of" "way_of" sWOx f fd) (hm : mg "way_of" = some (.ref f)) (hb : Binds K fd ["web", "part", "number"] []) : CalX P w K mg base "way_of" 10 (spX (SNX C 2) K) := by
  have nd := scWOx.nd
  refine fn_exc F scWOx hm hb (snx_len rfl) snx_no (fun cdv A outer s H R E qs c hr hS q => ?_)
  obtain ⟨v, qs', rfl, hl, l1, l2, hw, e⟩ := hS
  cases e
  obtain ⟨q1, q2, rfl⟩ : ∃ q1 q2, qs' = [q1, q2] := by
    match qs', hl with
    | [q1, q2], _ => exact ⟨q1, q2, rfl⟩
  change RS _ H R _ [.im rWeb v, .im q1.r q1.x, .im q2.r q2.x]
  exact rs_expr (rx_call CNOx hr (ha_cons (ev_name 0 rfl) (ha_cons (ev_name 1 rfl) ha_nil)) ⟨v, [_], rfl, rfl, l1, l2, hw, rfl⟩ q)
abbrev sCUx : Stmt := top at_cuts
theorem scCUx : FnScope ["web", "part"] ["web", "part"] (defScope sCUx) := ⟨rfl, rfl, rfl, by decide +kernel, rfl, by decide +kernel, by decide +kernel⟩
theorem ok_CUx (CNPx : CalX P w K mg base "need_part" 7 (spX (SNX C 1) K)) (F : Fun K "cuts" "cuts" sCUx f fd) (hm : mg "cuts" = some (.ref f)) (hb : Binds K fd ["web", "part"] []) : CalX P w K mg base "cuts" 8 (spX (SNX C 1) K) := by
  have nd := scCUx.nd
  refine fn_exc F scCUx hm hb (snx_len rfl) snx_no (fun cdv A outer s H R E qs c hr hS q => ?_)
  obtain ⟨v, qs', rfl, hl, l1, l2, hw, e⟩ := hS
  cases e
  obtain ⟨q1, rfl⟩ : ∃ q1, qs' = [q1] := by
    match qs', hl with
    | [q1], _ => exact ⟨q1, rfl⟩
  change RS _ H R _ [.im rWeb v, .im q1.r q1.x]
  exact rs_expr (rx_call CNPx hr (ha_cons (ev_name 0 rfl) (ha_cons (ev_name 1 rfl) ha_nil)) ⟨v, [_], rfl, rfl, l1, l2, hw, rfl⟩ q)
abbrev sLYx : Stmt := top at_laid_out
theorem scLYx : FnScope ["web", "part", "found"] ["web", "part"] (defScope sLYx) := ⟨rfl, rfl, rfl, by decide +kernel, rfl, by decide +kernel, by decide +kernel⟩
theorem ok_LYx (CCUx : CalX P w K mg base "cuts" 8 (spX (SNX C 1) K)) (F : Fun K "laid_out" "laid_out" sLYx f fd) (hm : mg "laid_out" = some (.ref f)) (hb : Binds K fd ["web", "part"] []) : CalX P w K mg base "laid_out" 9 (spX (SNX C 1) K) := by
  have nd := scLYx.nd
  refine fn_exc F scLYx hm hb (snx_len rfl) snx_no (fun cdv A outer s H R E qs c hr hS q => ?_)
  obtain ⟨v, qs', rfl, hl, l1, l2, hw, e⟩ := hS
  cases e
  obtain ⟨q1, rfl⟩ : ∃ q1, qs' = [q1] := by
    match qs', hl with
    | [q1], _ => exact ⟨q1, rfl⟩
  change RS _ H R _ [.im rWeb v, .im q1.r q1.x, .no]
  exact rs_set 2 (rx_call CCUx hr (ha_cons (ev_name 0 rfl) (ha_cons (ev_name 1 rfl) ha_nil)) ⟨v, [_], rfl, rfl, l1, l2, hw, rfl⟩ q)
abbrev sSWx : Stmt := top at_stretch_web
theorem scSWx : FnScope ["web", "part", "rows"] ["web", "part"] (defScope sSWx) := ⟨rfl, rfl, rfl, by decide +kernel, rfl, by decide +kernel, by decide +kernel⟩
theorem ok_SWx (CLYx : CalX P w K mg base "laid_out" 9 (spX (SNX C 1) K)) (F : Fun K "stretch_web" "stretch_web" sSWx f fd) (hm : mg "stretch_web" = some (.ref f)) (hb : Binds K fd ["web", "part"] []) : CalX P w K mg base "stretch_web" 10 (spX (SNX C 1) K) := by
  have nd := scSWx.nd
  refine fn_exc F scSWx hm hb (snx_len rfl) snx_no (fun cdv A outer s H R E qs c hr hS q => ?_)
  obtain ⟨v, qs', rfl, hl, l1, l2, hw, e⟩ := hS
  cases e
  obtain ⟨q1, rfl⟩ : ∃ q1, qs' = [q1] := by
    match qs', hl with
    | [q1], _ => exact ⟨q1, rfl⟩
  change RS _ H R _ [.im rWeb v, .im q1.r q1.x, .no]
  exact rs_comp 2 (own := ["start", "to", "number", "goes"]) (fr := []) (ix := []) (comp_mk (so := defScope sSWx) (N0 := ["web", "part", "rows"]) rfl rfl (fun x h => cell_has h) (by decide +kernel)) (rx_call CLYx hr (ha_cons (ev_name 0 rfl) (ha_cons (ev_name 1 rfl) ha_nil)) ⟨v, [_], rfl, rfl, l1, l2, hw, rfl⟩ q)
abbrev sSHx : Stmt := top at_stretches
theorem scSHx : FnScope ["web", "part", "rows"] ["web", "part", "rows"] (defScope sSHx) := ⟨rfl, rfl, rfl, by decide +kernel, rfl, by decide +kernel, by decide +kernel⟩
theorem ok_SHx (CNPx : CalX P w K mg base "need_part" 7 (spX (SNX C 1) K)) (F : Fun K "stretches" "stretches" sSHx f fd) (hm : mg "stretches" = some (.ref f)) (hb : Binds K fd ["web", "part", "rows"] []) : CalX P w K mg base "stretches" 8 (spX (SNX C 2) K) := by
  have nd := scSHx.nd
  refine fn_exc F scSHx hm hb (snx_len rfl) snx_no (fun cdv A outer s H R E qs c hr hS q => ?_)
  obtain ⟨v, qs', rfl, hl, l1, l2, hw, e⟩ := hS
  cases e
  obtain ⟨q1, q2, rfl⟩ : ∃ q1 q2, qs' = [q1, q2] := by
    match qs', hl with
    | [q1, q2], _ => exact ⟨q1, q2, rfl⟩
  change RS _ H R _ [.im rWeb v, .im q1.r q1.x, .im q2.r q2.x]
  exact rs_expr (rx_call CNPx hr (ha_cons (ev_name 0 rfl) (ha_cons (ev_name 1 rfl) ha_nil)) ⟨v, [_], rfl, rfl, l1, l2, hw, rfl⟩ q)
abbrev sCBx : Stmt := top at_counts_by
theorem scCBx : FnScope ["web", "part", "numbers", "layout"] ["web", "part", "numbers"] (defScope sCBx) := ⟨rfl, rfl, rfl, by decide +kernel, rfl, by decide +kernel, by decide +kernel⟩
theorem ok_CBx (CLYx : CalX P w K mg base "laid_out" 9 (spX (SNX C 1) K)) (F : Fun K "counts_by" "counts_by" sCBx f fd) (hm : mg "counts_by" = some (.ref f)) (hb : Binds K fd ["web", "part", "numbers"] []) : CalX P w K mg base "counts_by" 10 (spX (SNX C 2) K) := by
  have nd := scCBx.nd
  refine fn_exc F scCBx hm hb (snx_len rfl) snx_no (fun cdv A outer s H R E qs c hr hS q => ?_)
  obtain ⟨v, qs', rfl, hl, l1, l2, hw, e⟩ := hS
  cases e
  obtain ⟨q1, q2, rfl⟩ : ∃ q1 q2, qs' = [q1, q2] := by
    match qs', hl with
    | [q1, q2], _ => exact ⟨q1, q2, rfl⟩
  change RS _ H R _ [.im rWeb v, .im q1.r q1.x, .im q2.r q2.x, .no]
  exact rs_set 3 (rx_call CLYx hr (ha_cons (ev_name 0 rfl) (ha_cons (ev_name 1 rfl) ha_nil)) ⟨v, [_], rfl, rfl, l1, l2, hw, rfl⟩ q)
abbrev sCHx : Stmt := top at_chains
theorem scCHx : FnScope ["web"] ["web"] (defScope sCHx) := ⟨rfl, rfl, rfl, by decide +kernel, rfl, by decide +kernel, by decide +kernel⟩
theorem ok_CHx (CNWx : CalX P w K mg base "need_web" 6 (spX (SNX C 0) K)) (F : Fun K "chains" "chains" sCHx f fd) (hm : mg "chains" = some (.ref f)) (hb : Binds K fd ["web"] []) : CalX P w K mg base "chains" 7 (spX (SNX C 0) K) := by
  have nd := scCHx.nd
  refine fn_exc F scCHx hm hb (snx_len rfl) snx_no (fun cdv A outer s H R E qs c hr hS q => ?_)
  obtain ⟨v, qs', rfl, hl, l1, l2, hw, e⟩ := hS
  cases e
  obtain ⟨_, rfl⟩ : ∃ _u : Unit, qs' = [] := by
    exact ⟨(), List.length_eq_zero_iff.mp hl⟩
  change RS _ H R _ [.im rWeb v]
  exact rs_expr (rx_call CNWx hr (ha_cons (ev_name 0 rfl) ha_nil) ⟨v, [], rfl, rfl, l1, l2, hw, rfl⟩ q)
abbrev sOSx : Stmt := top at_offsets
theorem scOSx : FnScope ["web", "leading"] ["web"] (defScope sOSx) := ⟨rfl, rfl, rfl, by decide +kernel, rfl, by decide +kernel, by decide +kernel⟩
theorem ok_OSx (CCHx : CalX P w K mg base "chains" 7 (spX (SNX C 0) K)) (F : Fun K "offsets" "offsets" sOSx f fd) (hm : mg "offsets" = some (.ref f)) (hb : Binds K fd ["web"] []) : CalX P w K mg base "offsets" 8 (spX (SNX C 0) K) := by
  have nd := scOSx.nd
  refine fn_exc F scOSx hm hb (snx_len rfl) snx_no (fun cdv A outer s H R E qs c hr hS q => ?_)
  obtain ⟨v, qs', rfl, hl, l1, l2, hw, e⟩ := hS
  cases e
  obtain ⟨_, rfl⟩ : ∃ _u : Unit, qs' = [] := by
    exact ⟨(), List.length_eq_zero_iff.mp hl⟩
  change RS _ H R _ [.im rWeb v, .no]
  exact rs_set 1 (rx_call CCHx hr (ha_cons (ev_name 0 rfl) ha_nil) ⟨v, [], rfl, rfl, l1, l2, hw, rfl⟩ q)
abbrev sCNx : Stmt := top at_chain_number
theorem scCNx : FnScope ["web", "chain", "known"] ["web", "chain"] (defScope sCNx) := ⟨rfl, rfl, rfl, by decide +kernel, rfl, by decide +kernel, by decide +kernel⟩
theorem ok_CNx (COSx : CalX P w K mg base "offsets" 8 (spX (SNX C 0) K)) (F : Fun K "chain_number" "chain_number" sCNx f fd) (hm : mg "chain_number" = some (.ref f)) (hb : Binds K fd ["web", "chain"] []) : CalX P w K mg base "chain_number" 9 (spX (SNX C 1) K) := by
  have nd := scCNx.nd
  refine fn_exc F scCNx hm hb (snx_len rfl) snx_no (fun cdv A outer s H R E qs c hr hS q => ?_)
  obtain ⟨v, qs', rfl, hl, l1, l2, hw, e⟩ := hS
  cases e
  obtain ⟨q1, rfl⟩ : ∃ q1, qs' = [q1] := by
    match qs', hl with
    | [q1], _ => exact ⟨q1, rfl⟩
  change RS _ H R _ [.im rWeb v, .im q1.r q1.x, .no]
  exact rs_set 2 (rx_call COSx hr (ha_cons (ev_name 0 rfl) ha_nil) ⟨v, [], rfl, rfl, l1, l2, hw, rfl⟩ q)
abbrev sCFx : Stmt := top at_chain_of
theorem scCFx : FnScope ["web", "part", "number", "known"] ["web", "part", "number"] (defScope sCFx) := ⟨rfl, rfl, rfl, by decide +kernel, rfl, by decide +kernel, by decide +kernel⟩
theorem ok_CFx (COSx : CalX P w K mg base "offsets" 8 (spX (SNX C 0) K)) (F : Fun K "chain_of" "chain_of" sCFx f fd) (hm : mg "chain_of" = some (.ref f)) (hb : Binds K fd ["web", "part", "number"] []) : CalX P w K mg base "chain_of" 9 (spX (SNX C 2) K) := by
  have nd := scCFx.nd
  refine fn_exc F scCFx hm hb (snx_len rfl) snx_no (fun cdv A outer s H R E qs c hr hS q => ?_)
  obtain ⟨v, qs', rfl, hl, l1, l2, hw, e⟩ := hS
  cases e
  obtain ⟨q1, q2, rfl⟩ : ∃ q1 q2, qs' = [q1, q2] := by
    match qs', hl with
    | [q1, q2], _ => exact ⟨q1, q2, rfl⟩
  change RS _ H R _ [.im rWeb v, .im q1.r q1.x, .im q2.r q2.x, .no]
  exact rs_set 3 (rx_call COSx hr (ha_cons (ev_name 0 rfl) ha_nil) ⟨v, [], rfl, rfl, l1, l2, hw, rfl⟩ q)
end
end K1

set_option Elab.async false
set_option linter.all false
set_option maxRecDepth 100000
set_option maxHeartbeats 4000000
namespace Fc
open PySem PySem.Spec L2
open PyProof.Rows hiding St
theorem ev_isi8 {X : Cx} {Γ : Ga} {ea D : Addr} {oe : Obj} {i : Nat} {x y1 y2 y3 y4 y5 y6 y7 y8 : Str} {p p1 w1 w2 w3 w4 w5 w6 w7 w8 pos tp : Pos} {k : Nat} {C1 C2 C3 C4 C5 C6 C7 C8 : Addr} {b : Bool} (hp : (ea, oe) ∈ X.pn) (hc : oe.cls = .ref D) (el : excLook X.K D = true) (hm : X.mg "isinstance" = none) (hΓ : Γ[i]? = some (.im (rExc ea) ()))
    (h1 : X.mg y1 = some (.ref C1)) (h2 : X.mg y2 = some (.ref C2)) (h3 : X.mg y3 = some (.ref C3)) (h4 : X.mg y4 = some (.ref C4)) (h5 : X.mg y5 = some (.ref C5)) (h6 : X.mg y6 = some (.ref C6)) (h7 : X.mg y7 = some (.ref C7)) (h8 : X.mg y8 = some (.ref C8)) (ht : PySem.W.kitAny X.K (.ref D) [.ref C1, .ref C2, .ref C3, .ref C4, .ref C5, .ref C6, .ref C7, .ref C8] = some b)
    (hN : X.N[i]? = some x := by rfl) (hv : Vis X.env.scope x := by first | exact Or.inl rfl | exact Or.inr (Or.inl rfl) | exact Or.inr (Or.inr rfl)) (hd : (x == ("__debug__" : Str)) = false := by decide) (hcd : (x == ("__classdict__" : Str)) = false := by decide)
    (hs : starEach [.Name x p1, .Tuple [.Name y1 w1, .Name y2 w2, .Name y3 w3, .Name y4 w4, .Name y5 w5, .Name y6 w6, .Name y7 w7, .Name y8 w8] k tp] X.env = (false, eval (.Name x p1) X.env) :: starEach [.Tuple [.Name y1 w1, .Name y2 w2, .Name y3 w3, .Name y4 w4, .Name y5 w5, .Name y6 w6, .Name y7 w7, .Name y8 w8] k tp] X.env := by rfl) (hg : Gl X "isinstance" := by rfl)
    (g1 : Gl X y1 := by rfl) (g2 : Gl X y2 := by rfl) (g3 : Gl X y3 := by rfl) (g4 : Gl X y4 := by rfl) (g5 : Gl X y5 := by rfl) (g6 : Gl X y6 := by rfl) (g7 : Gl X y7 := by rfl) (g8 : Gl X y8 := by rfl) (d1 : (y1 == ("__debug__" : Str)) = false := by decide) (d2 : (y2 == ("__debug__" : Str)) = false := by decide) (d3 : (y3 == ("__debug__" : Str)) = false := by decide) (d4 : (y4 == ("__debug__" : Str)) = false := by decide) (d5 : (y5 == ("__debug__" : Str)) = false := by decide) (d6 : (y6 == ("__debug__" : Str)) = false := by decide) (d7 : (y7 == ("__debug__" : Str)) = false := by decide) (d8 : (y8 == ("__debug__" : Str)) = false := by decide) :
    EV X (.Call (.Name "isinstance" p) [.Name x p1, .Tuple [.Name y1 w1, .Name y2 w2, .Name y3 w3, .Name y4 w4, .Name y5 w5, .Name y6 w6, .Name y7 w7, .Name y8 w8] k tp] [] pos) Γ rBool b Γ := by
  intro σ H0 R0 H R E Q q
  refine eS (pe_callB (call_isiT hp hc el) hg hm PyProof.Rows.boot_isinstance (pa_cons peS (pa_cons (pe_tup (pa_cons (pe_glob (v := .ref C1) g1 h1 rfl d1) (pa_cons (pe_glob (v := .ref C2) g2 h2 rfl d2) (pa_cons (pe_glob (v := .ref C3) g3 h3 rfl d3) (pa_cons (pe_glob (v := .ref C4) g4 h4 rfl d4) (pa_cons (pe_glob (v := .ref C5) g5 h5 rfl d5) (pa_cons (pe_glob (v := .ref C6) g6 h6 rfl d6) (pa_cons (pe_glob (v := .ref C7) g7 h7 rfl d7) (pa_cons (pe_glob (v := .ref C8) g8 h8 rfl d8) pa_nil rfl) rfl) rfl) rfl) rfl) rfl) rfl) rfl)) pa_nil rfl) hs) (by decide) (by decide) hs rfl) (ev_name i hΓ hN hv hd hcd σ H0 R0 H R E _ fun v H1 R1 E1 s1 e1 => ?_)
  cases (show v = V.ref ea from e1)
  refine ⟨by show 8 ≤ sizeLine; decide, fun a ha => ⟨a, [C1, C2, C3, C4, C5, C6, C7, C8], b, rfl, upd_same, ht, ?_⟩⟩
  exact q _ _ (upd R1 a (.tup [.ref C1, .ref C2, .ref C3, .ref C4, .ref C5, .ref C6, .ref C7, .ref C8])) (E1.grow (Ext.fresh E1.sub ha _)) (s1.trans (Same.fresh (E1.sub.free ha) _)) rfl
theorem ev_tupA {X : Cx} {Γ Γ1 : Ga} {es : List Expr} {k : Nat} {pos : Pos} {ps : List Pk} (h : HA X es Γ ps Γ1) (hl : ps.length ≤ sizeLine) : EV X (.Tuple es k pos) Γ K1.rAnyK () Γ1 := fun σ H0 R0 H R E Q q =>
  eS (pe_tup paS) (h σ H0 R0 H R E _ fun vs H1 R1 E1 s1 p1 => ⟨by rw [p1.length]; exact hl, fun p hp => q _ _ R1 (E1.grow (Ext.freshM E1.sub hp _)) s1 trivial⟩)
theorem ev_nonC {X : Cx} {Γ : Ga} {j : Nat} {pos : Pos} : EV X (.Constant .none j pos) Γ rNon () Γ := fun σ H0 R0 H R E Q q => eS pe_non (q .non H R E (Same.refl _) rfl)
theorem semT.noxE {X : Cx} {e : Expr} {Q : Bool → Hp → Prop} {σ : St} {H : Hp} (h : semT X.nox e σ H Q) (Ex : Value → Shared → Prop) : ∀ (pins : List (Addr × Obj)) (s : Shared), Inv X pins σ H s → wpAny (model X.prog X.w) X.A (isTrue e X.env (eval e X.env)) (TP X pins σ Q) Ex s := fun pins s I =>
  wpAny_mono (h pins s (I.wish _)) (fun _ _ ⟨H', I', q⟩ => ⟨H', I'.unwish, q⟩) fun _ _ z => False.elim z
end Fc
namespace K1
open PySem L2 Fc
open PySem.Spec hiding Row
open PyProof.Rows hiding St
open PySem.Builtin.Int (intBits)
structure Excs8 (K : PySem.W.Frag) (mg : Str → Option Value) (C : Addr) : Prop where
  own : ExcC K mg "NoWeb" C
  ce : ∃ CE, mg "CountError" = some (.ref CE) ∧ PySem.W.exmOne K (.ref C) (.ref CE) = some true
  look : excLook K C = true
  oth : ∃ C1 C2 C3 C4 C5 C6 C7 C8, mg "NoChain" = some (.ref C1) ∧ mg "NoChoice" = some (.ref C2) ∧ mg "NoCounts" = some (.ref C3) ∧ mg "NoGuess" = some (.ref C4) ∧ mg "NoLoose" = some (.ref C5) ∧ mg "NoMarks" = some (.ref C6) ∧ mg "NoRun" = some (.ref C7) ∧ mg "NoWay" = some (.ref C8) ∧ PySem.W.kitAny K (.ref C) [.ref C1, .ref C2, .ref C3, .ref C4, .ref C5, .ref C6, .ref C7, .ref C8] = some false
  self : PySem.W.kitOne K (.ref C) (.ref C) = some true
  ve : mg "ValueError" = none ∧ PySem.W.kitOne K (.ref C) (.type "ValueError") = some true
theorem boot_VE : bootBuiltins "ValueError" = some (.type "ValueError") := by decide +kernel
def SFX (C : Addr) : SpX := fun K ps o => ∃ (v : Web) (th : List Int) (ch : Int), ps = [⟨rWeb, v⟩, ⟨rList rInt, th⟩, ⟨rInt, ch⟩] ∧ v.1.length ≤ 1000 ∧ v.2.length ≤ 1000 ∧ webF v = false ∧ o = .exc (.ref C)
section
variable {P : Program} {w : World} {K : PySem.W.Frag} {mg : Str → Option Value} {base : Heap} {f : Addr} {fd : FuncData} {C : Addr}
abbrev sFI : Stmt := top at__law_first
theorem scFI : FnScope ["_law_web_here", "_law_thing", "_law_choice"] ["_law_web_here", "_law_thing", "_law_choice"] (defScope sFI) := ⟨rfl, rfl, rfl, by decide +kernel, rfl, by decide +kernel, by decide +kernel⟩
theorem ok_FI (CIRx : CalX P w K mg base "is_run" 7 (spX (SNX C 1) K)) (CSTx : CalX P w K mg base "stood" 7 (spX (SNX C 1) K)) (CCOx : CalX P w K mg base "counts" 7 (spX (SNX C 1) K)) (CRLx : CalX P w K mg base "relations" 7 (spX (SNX C 0) K)) (CACx : CalX P w K mg base "are_counts" 7 (spX (SNX C 1) K)) (CHFx : CalX P w K mg base "heap_of" 8 (spX (SNX C 1) K)) (CJUx : CalX P w K mg base "judged" 7 (spX (SNX C 1) K)) (CPFx : CalX P w K mg base "plan_for" 7 (spX (SNX C 1) K)) (CCSx : CalX P w K mg base "cost" 7 (spX (SNX C 2) K)) (CIEx : CalX P w K mg base "is_enough" 7 (spX (SNX C 1) K)) (CTWx : CalX P w K mg base "twins" 7 (spX (SNX C 1) K)) (CSDx : CalX P w K mg base "stopped" 7 (spX (SNX C 1) K)) (CRBx : CalX P w K mg base "read_back" 8 (spX (SNX C 3) K)) (F : Fun K "_law_first" "_law_first" sFI f fd) (hm : mg "_law_first" = some (.ref f)) (hb : Binds K fd ["_law_web_here", "_law_thing", "_law_choice"] []) : CalX P w K mg base "_law_first" 13 (spX (SFX C) K) := by
  have nd := scFI.nd
  have CIRx := CIRx.mono (show 7 ≤ 12 by decide)
  have CSTx := CSTx.mono (show 7 ≤ 12 by decide)
  have CCOx := CCOx.mono (show 7 ≤ 12 by decide)
  have CRLx := CRLx.mono (show 7 ≤ 12 by decide)
  have CACx := CACx.mono (show 7 ≤ 12 by decide)
  have CHFx := CHFx.mono (show 8 ≤ 12 by decide)
  have CJUx := CJUx.mono (show 7 ≤ 12 by decide)
  have CPFx := CPFx.mono (show 7 ≤ 12 by decide)
  have CCSx := CCSx.mono (show 7 ≤ 12 by decide)
  have CIEx := CIEx.mono (show 7 ≤ 12 by decide)
  have CTWx := CTWx.mono (show 7 ≤ 12 by decide)
  have CSDx := CSDx.mono (show 7 ≤ 12 by decide)
  have CRBx := CRBx.mono (show 8 ≤ 12 by decide)
  refine fn_exc F scFI hm hb (fun qs o ⟨_, _, _, e, _⟩ => by rw [e]; rfl) (fun qs T ⟨_, _, _, _, _, _, _, h⟩ => by cases h) (fun cdv A outer s H R E qs c hr hS q => ?_)
  obtain ⟨v, th, ch, rfl, l1, l2, hw, e⟩ := hS
  cases e
  change RS _ H R _ [.im rWeb v, .im (rList rInt) th, .im rInt ch]
  refine rs_ifs (tv_cmp c_eq (ev_name 2 rfl) ev_int) (fun _ => rs_ret (rx_call CIRx hr (ha_cons (ev_name 0 rfl) (ha_cons (ev_name 1 rfl) ha_nil)) ⟨v, [_], rfl, rfl, l1, l2, hw, rfl⟩ q)) (fun _ => ?_)
  refine rs_ifs (tv_cmp c_eq (ev_name 2 rfl) ev_int) (fun _ => rs_ret (rx_call CSTx hr (ha_cons (ev_name 0 rfl) (ha_cons (ev_name 1 rfl) ha_nil)) ⟨v, [_], rfl, rfl, l1, l2, hw, rfl⟩ q)) (fun _ => ?_)
  refine rs_ifs (tv_cmp c_eq (ev_name 2 rfl) ev_int) (fun _ => rs_ret (rx_call CCOx hr (ha_cons (ev_name 0 rfl) (ha_cons (ev_name 1 rfl) ha_nil)) ⟨v, [_], rfl, rfl, l1, l2, hw, rfl⟩ q)) (fun _ => ?_)
  refine rs_ifs (tv_cmp c_eq (ev_name 2 rfl) ev_int) (fun _ => rs_ret (rx_call CRLx hr (ha_cons (ev_name 0 rfl) ha_nil) ⟨v, [], rfl, rfl, l1, l2, hw, rfl⟩ q)) (fun _ => ?_)
  refine rs_ifs (tv_cmp c_eq (ev_name 2 rfl) ev_int) (fun _ => rs_ret (rx_call CACx hr (ha_cons (ev_name 0 rfl) (ha_cons (ev_name 1 rfl) ha_nil)) ⟨v, [_], rfl, rfl, l1, l2, hw, rfl⟩ q)) (fun _ => ?_)
  refine rs_ifs (tv_cmp c_eq (ev_name 2 rfl) ev_int) (fun _ => rs_ret (rx_call CHFx hr (ha_cons (ev_name 0 rfl) (ha_cons (ev_name 1 rfl) ha_nil)) ⟨v, [_], rfl, rfl, l1, l2, hw, rfl⟩ q)) (fun _ => ?_)
  refine rs_ifs (tv_cmp c_eq (ev_name 2 rfl) ev_int) (fun _ => rs_ret (rx_call CJUx hr (ha_cons (ev_name 0 rfl) (ha_cons (ev_tupA (ha_cons (ev_name 1 rfl) (ha_cons (EV.any (EVL.im (evl_lst (r := rInt) ea_nil (by decide)))) (ha_cons (EV.any (EVL.im (evl_lst (r := rInt) ea_nil (by decide)))) (ha_cons ev_nonC ha_nil)))) (by show 4 ≤ sizeLine; decide)) ha_nil)) ⟨v, [_], rfl, rfl, l1, l2, hw, rfl⟩ q)) (fun _ => ?_)
  refine rs_ifs (tv_cmp c_eq (ev_name 2 rfl) ev_int) (fun _ => rs_ret (rx_call CPFx hr (ha_cons (ev_name 0 rfl) (ha_cons (ev_name 1 rfl) ha_nil)) ⟨v, [_], rfl, rfl, l1, l2, hw, rfl⟩ q)) (fun _ => ?_)
  refine rs_ifs (tv_cmp c_eq (ev_name 2 rfl) ev_int) (fun _ => rs_ret (rx_call CCSx hr (ha_cons (ev_name 0 rfl) (ha_cons (ev_name 1 rfl) (ha_cons (EV.any (EVL.im (evl_lst (r := rInt) ea_nil (by decide)))) ha_nil))) ⟨v, [_, _], rfl, rfl, l1, l2, hw, rfl⟩ q)) (fun _ => ?_)
  refine rs_ifs (tv_cmp c_eq (ev_name 2 rfl) ev_int) (fun _ => rs_ret (rx_call CIEx hr (ha_cons (ev_name 0 rfl) (ha_cons (ev_name 1 rfl) ha_nil)) ⟨v, [_], rfl, rfl, l1, l2, hw, rfl⟩ q)) (fun _ => ?_)
  refine rs_ifs (tv_cmp c_eq (ev_name 2 rfl) ev_int) (fun _ => rs_ret (rx_call CTWx hr (ha_cons (ev_name 0 rfl) (ha_cons (ev_name 1 rfl) ha_nil)) ⟨v, [_], rfl, rfl, l1, l2, hw, rfl⟩ q)) (fun _ => ?_)
  refine rs_ifs (tv_cmp c_eq (ev_name 2 rfl) ev_int) (fun _ => rs_ret (rx_call CSDx hr (ha_cons (ev_name 0 rfl) (ha_cons (EV.any (EVL.im (evl_lst (r := rInt) ea_nil (by decide)))) ha_nil)) ⟨v, [_], rfl, rfl, l1, l2, hw, rfl⟩ q)) (fun _ => ?_)
  exact rs_ret (rx_call CRBx hr (ha_cons (ev_name 0 rfl) (ha_cons (ev_tupA (ha_cons (ev_name 1 rfl) (ha_cons (EV.any (EVL.im (evl_lst (r := rInt) ea_nil (by decide)))) (ha_cons (EV.any (EVL.im (evl_lst (r := rInt) ea_nil (by decide)))) (ha_cons ev_nonC ha_nil)))) (by show 4 ≤ sizeLine; decide)) (ha_cons (EV.any (EVL.im (evl_lst (r := rInt) ea_nil (by decide)))) (ha_cons (EV.any (EVL.im (evl_lst (r := rInt) ea_nil (by decide)))) ha_nil)))) ⟨v, [_, _, _], rfl, rfl, l1, l2, hw, rfl⟩ q)
abbrev sSE : Stmt := top at__law_second
theorem scSE : FnScope ["_law_web_here", "_law_thing", "_law_choice"] ["_law_web_here", "_law_thing", "_law_choice"] (defScope sSE) := ⟨rfl, rfl, rfl, by decide +kernel, rfl, by decide +kernel, by decide +kernel⟩
theorem ok_SE (CILx : CalX P w K mg base "is_loose" 8 (spX (SNX C 1) K)) (CWYx : CalX P w K mg base "ways" 10 (spX (SNX C 1) K)) (CWTx : CalX P w K mg base "worths" 10 (spX (SNX C 1) K)) (CNUx : CalX P w K mg base "number_of" 11 (spX (SNX C 2) K)) (CWOx : CalX P w K mg base "way_of" 10 (spX (SNX C 2) K)) (CSPx : CalX P w K mg base "steps" 11 (spX (SNX C 1) K)) (CCUx : CalX P w K mg base "cuts" 8 (spX (SNX C 1) K)) (CSWx : CalX P w K mg base "stretch_web" 10 (spX (SNX C 1) K)) (CSHx : CalX P w K mg base "stretches" 8 (spX (SNX C 2) K)) (CCBx : CalX P w K mg base "counts_by" 10 (spX (SNX C 2) K)) (CCHx : CalX P w K mg base "chains" 7 (spX (SNX C 0) K)) (COSx : CalX P w K mg base "offsets" 8 (spX (SNX C 0) K)) (CCNx : CalX P w K mg base "chain_number" 9 (spX (SNX C 1) K)) (CCFx : CalX P w K mg base "chain_of" 9 (spX (SNX C 2) K)) (F : Fun K "_law_second" "_law_second" sSE f fd) (hm : mg "_law_second" = some (.ref f)) (hb : Binds K fd ["_law_web_here", "_law_thing", "_law_choice"] []) : CalX P w K mg base "_law_second" 13 (spX (SFX C) K) := by
  have nd := scSE.nd
  have CILx := CILx.mono (show 8 ≤ 12 by decide)
  have CWYx := CWYx.mono (show 10 ≤ 12 by decide)
  have CWTx := CWTx.mono (show 10 ≤ 12 by decide)
  have CNUx := CNUx.mono (show 11 ≤ 12 by decide)
  have CWOx := CWOx.mono (show 10 ≤ 12 by decide)
  have CSPx := CSPx.mono (show 11 ≤ 12 by decide)
  have CCUx := CCUx.mono (show 8 ≤ 12 by decide)
  have CSWx := CSWx.mono (show 10 ≤ 12 by decide)
  have CSHx := CSHx.mono (show 8 ≤ 12 by decide)
  have CCBx := CCBx.mono (show 10 ≤ 12 by decide)
  have CCHx := CCHx.mono (show 7 ≤ 12 by decide)
  have COSx := COSx.mono (show 8 ≤ 12 by decide)
  have CCNx := CCNx.mono (show 9 ≤ 12 by decide)
  have CCFx := CCFx.mono (show 9 ≤ 12 by decide)
  refine fn_exc F scSE hm hb (fun qs o ⟨_, _, _, e, _⟩ => by rw [e]; rfl) (fun qs T ⟨_, _, _, _, _, _, _, h⟩ => by cases h) (fun cdv A outer s H R E qs c hr hS q => ?_)
  obtain ⟨v, th, ch, rfl, l1, l2, hw, e⟩ := hS
  cases e
  change RS _ H R _ [.im rWeb v, .im (rList rInt) th, .im rInt ch]
  refine rs_ifs (tv_cmp c_eq (ev_name 2 rfl) ev_int) (fun _ => rs_ret (rx_call CILx hr (ha_cons (ev_name 0 rfl) (ha_cons ev_int ha_nil)) ⟨v, [_], rfl, rfl, l1, l2, hw, rfl⟩ q)) (fun _ => ?_)
  refine rs_ifs (tv_cmp c_eq (ev_name 2 rfl) ev_int) (fun _ => rs_ret (rx_call CWYx hr (ha_cons (ev_name 0 rfl) (ha_cons ev_int ha_nil)) ⟨v, [_], rfl, rfl, l1, l2, hw, rfl⟩ q)) (fun _ => ?_)
  refine rs_ifs (tv_cmp c_eq (ev_name 2 rfl) ev_int) (fun _ => rs_ret (rx_call CWTx hr (ha_cons (ev_name 0 rfl) (ha_cons ev_int ha_nil)) ⟨v, [_], rfl, rfl, l1, l2, hw, rfl⟩ q)) (fun _ => ?_)
  refine rs_ifs (tv_cmp c_eq (ev_name 2 rfl) ev_int) (fun _ => rs_ret (rx_call CNUx hr (ha_cons (ev_name 0 rfl) (ha_cons ev_int (ha_cons (ev_name 1 rfl) ha_nil))) ⟨v, [_, _], rfl, rfl, l1, l2, hw, rfl⟩ q)) (fun _ => ?_)
  refine rs_ifs (tv_cmp c_eq (ev_name 2 rfl) ev_int) (fun _ => rs_ret (rx_call CWOx hr (ha_cons (ev_name 0 rfl) (ha_cons ev_int (ha_cons (ev_neg ev_int) ha_nil))) ⟨v, [_, _], rfl, rfl, l1, l2, hw, rfl⟩ q)) (fun _ => ?_)
  refine rs_ifs (tv_cmp c_eq (ev_name 2 rfl) ev_int) (fun _ => rs_ret (rx_call CSPx hr (ha_cons (ev_name 0 rfl) (ha_cons ev_int ha_nil)) ⟨v, [_], rfl, rfl, l1, l2, hw, rfl⟩ q)) (fun _ => ?_)
  refine rs_ifs (tv_cmp c_eq (ev_name 2 rfl) ev_int) (fun _ => rs_ret (rx_call CCUx hr (ha_cons (ev_name 0 rfl) (ha_cons ev_int ha_nil)) ⟨v, [_], rfl, rfl, l1, l2, hw, rfl⟩ q)) (fun _ => ?_)
  refine rs_ifs (tv_cmp c_eq (ev_name 2 rfl) ev_int) (fun _ => rs_ret (rx_call CSWx hr (ha_cons (ev_name 0 rfl) (ha_cons ev_int ha_nil)) ⟨v, [_], rfl, rfl, l1, l2, hw, rfl⟩ q)) (fun _ => ?_)
  refine rs_ifs (tv_cmp c_eq (ev_name 2 rfl) ev_int) (fun _ => rs_ret (rx_call CSHx hr (ha_cons (ev_name 0 rfl) (ha_cons ev_int (ha_cons (ev_name 1 rfl) ha_nil))) ⟨v, [_, _], rfl, rfl, l1, l2, hw, rfl⟩ q)) (fun _ => ?_)
  refine rs_ifs (tv_cmp c_eq (ev_name 2 rfl) ev_int) (fun _ => rs_ret (rx_call CCBx hr (ha_cons (ev_name 0 rfl) (ha_cons ev_int (ha_cons (EV.any (EVL.im (evl_lst (ea_cons (ev_neg ev_int) ea_nil) (by show 1 ≤ sizeLine; decide)))) ha_nil))) ⟨v, [_, _], rfl, rfl, l1, l2, hw, rfl⟩ q)) (fun _ => ?_)
  refine rs_ifs (tv_cmp c_eq (ev_name 2 rfl) ev_int) (fun _ => rs_ret (rx_call CCHx hr (ha_cons (ev_name 0 rfl) ha_nil) ⟨v, [], rfl, rfl, l1, l2, hw, rfl⟩ q)) (fun _ => ?_)
  refine rs_ifs (tv_cmp c_eq (ev_name 2 rfl) ev_int) (fun _ => rs_ret (rx_call COSx hr (ha_cons (ev_name 0 rfl) ha_nil) ⟨v, [], rfl, rfl, l1, l2, hw, rfl⟩ q)) (fun _ => ?_)
  refine rs_ifs (tv_cmp c_eq (ev_name 2 rfl) ev_int) (fun _ => rs_ret (rx_call CCNx hr (ha_cons (ev_name 0 rfl) (ha_cons (ev_name 1 rfl) ha_nil)) ⟨v, [_], rfl, rfl, l1, l2, hw, rfl⟩ q)) (fun _ => ?_)
  exact rs_ret (rx_call CCFx hr (ha_cons (ev_name 0 rfl) (ha_cons ev_int (ha_cons (ev_neg ev_int) ha_nil))) ⟨v, [_, _], rfl, rfl, l1, l2, hw, rfl⟩ q)
end
end K1

set_option Elab.async false
set_option linter.all false
set_option maxRecDepth 100000
set_option maxHeartbeats 4000000
namespace Fc
open PySem PySem.Spec L2
open PyProof.Rows hiding St
theorem ws_tryIf {X : Cx} {Γ : Ga} {N : Ga → Prop} {T : RT} {S1 S2 : SpX} {f1 f2 ce n y : Str} {k : Nat} {c e0 d0 : Expr} {es ds : List Expr} {p pos ep p' pos' ep' ip np p1 p2 p3 hp tp : Pos} {ps1 ps2 : List Pk} {D CE : Addr} {rest : List Stmt} {kb : Bool} (i j : Nat)
    (C1 : CalX X.prog X.w X.K X.mg X.base f1 k (spX S1 X.K)) (C2 : CalX X.prog X.w X.K X.mg X.base f2 k (spX S2 X.K)) (hr : Room k X.A) (hc : TV X.nox c Γ kb Γ) (ha1 : HA X.nox (e0 :: es) Γ ps1 Γ) (ha2 : HA X.nox (d0 :: ds) Γ ps2 Γ) (hS1 : S1 X.K ps1 (.exc (.ref D))) (hS2 : S2 X.K ps2 (.exc (.ref D))) (hm : X.mg ce = some (.ref CE)) (hx : PySem.W.exmOne X.K (.ref D) (.ref CE) = some true)
    (hrest : ∀ ea oe, oe.cls = .ref D → WS (pinX X ea oe) rest (((Γ.set i (.im (rExc ea) ())).set j (.im (rExc ea) ())).set i .no) N T)
    (hst : X.stack = X.env :: X.outer := by rfl) (hef : X.env.frame = some X.env.locals := by rfl) (hN : X.N.Nodup := by first | assumption | decide) (hi : X.N[i]? = some n := by rfl) (hj : X.N[j]? = some y := by rfl)
    (hin : X.env.scope.names.lookup n = some .local := by rfl) (hjy : X.env.scope.names.lookup y = some .local := by rfl) (hg : Gl X ce := by rfl) (hgf : Gl X f1 := by rfl) (hgf2 : Gl X f2 := by rfl)
    (hs : swapsWith (.Name n p2) (some (.Name y p1)) p3.line X.env = pure false := by rfl) (hsc : swapsWith (.Call (.Name f1 p) (e0 :: es) [] pos) none ep.line X.env = pure false := by rfl) (hsc2 : swapsWith (.Call (.Name f2 p') (d0 :: ds) [] pos') none ep'.line X.env = pure false := by rfl)
    (he : starEach (e0 :: es) X.env = (false, eval e0 X.env) :: starEach es X.env := by rfl) (hpl : (backTo pos (starEach es X.env)).any (·.1) = false := by rfl) (he2 : starEach (d0 :: ds) X.env = (false, eval d0 X.env) :: starEach ds X.env := by rfl) (hpl2 : (backTo pos' (starEach ds X.env)).any (·.1) = false := by rfl)
    (d1 : (ce == ("__debug__" : Str)) = false := by decide) (d2 : (f1 == ("__debug__" : Str)) = false := by decide) (d5 : (f2 == ("__debug__" : Str)) = false := by decide) (d3 : (n == ("__debug__" : Str)) = false := by decide) (d4 : (n == ("__classdict__" : Str)) = false := by decide) :
    WS X (.Try [.If c [.Expr (.Call (.Name f1 p) (e0 :: es) [] pos) ep] [.Expr (.Call (.Name f2 p') (d0 :: ds) [] pos') ep'] ip] [.ExceptHandler (some (.Name ce np)) (some n) [.Assign [.Name y p1] (.Name n p2) p3] hp] [] [] tp :: rest) Γ N T := by
  intro σ H0 R0 H R E D dn dr pins s I
  refine wpAny_execs_cons (wpAny_Try_except (wpAny_execs_cons ?_))
  refine PySem.wpAny_If (thn (semT.noxE (hc σ H0 R0 H R E (fun b H' => b = kb ∧ ∃ R', EnvOk X.K σ H0 R0 H' R' Γ ∧ Same R R') fun H' R' E' s' => ⟨rfl, R', E', s'⟩) _ pins s I) fun b s1 ⟨H', I', hb, R', E', sR0⟩ => ?_)
  cases b with
  | true =>
    rw [if_pos rfl]
    refine wpAny_execs_cons (wpAny_Expr_any ?_ I'.quiet hsc)
    refine exc_call C1 hr ha1 hS1 E' I' (fun s1 H1 ea T H2 R2 s' I1 ho bare un hok fly E2 sR => ?_) hgf d2 he hpl
    refine caught I1 ho bare un hok fly hst hef hm hx hg d1 hN hi hj hin hjy hs d3 d4 fun oe s6 hc I6 => ?_
    have E3 := EnvOk.gone ((E2.set i (r := rExc ea) (v := .ref ea) (x := ()) rfl).set j (r := rExc ea) (v := .ref ea) (x := ()) rfl) i
    exact thn (hrest ea oe hc _ H0 R0 H2 R2 E3 D (fun σ2 H2 R2 Γ2 E2 s2 => dn σ2 H2 R2 Γ2 E2 (sR0.trans (sR.trans s2))) dr pins s6 I6) fun f s7 z => SP.unpin z
  | false =>
    rw [if_neg Bool.false_ne_true]
    refine wpAny_execs_cons (wpAny_Expr_any ?_ I'.quiet hsc2)
    refine exc_call C2 hr ha2 hS2 E' I' (fun s1 H1 ea T H2 R2 s' I1 ho bare un hok fly E2 sR => ?_) hgf2 d5 he2 hpl2
    refine caught I1 ho bare un hok fly hst hef hm hx hg d1 hN hi hj hin hjy hs d3 d4 fun oe s6 hc I6 => ?_
    have E3 := EnvOk.gone ((E2.set i (r := rExc ea) (v := .ref ea) (x := ()) rfl).set j (r := rExc ea) (v := .ref ea) (x := ()) rfl) i
    exact thn (hrest ea oe hc _ H0 R0 H2 R2 E3 D (fun σ2 H2 R2 Γ2 E2 s2 => dn σ2 H2 R2 Γ2 E2 (sR0.trans (sR.trans s2))) dr pins s6 I6) fun f s7 z => SP.unpin z
end Fc
namespace K1
open PySem L2 Fc
open PySem.Spec hiding Row
open PyProof.Rows hiding St
open PySem.Builtin.Int (intBits)
section
variable {P : Program} {w : World} {K : PySem.W.Frag} {mg : Str → Option Value} {base : Heap} {f : Addr} {fd : FuncData}
abbrev sRX : Stmt := top at__law_refused
abbrev nRX : List Str := ["_law_web_here", "_law_thing", "_law_choice", "_law_caught", "e"]
theorem scRX : FnScope nRX ["_law_web_here", "_law_thing", "_law_choice"] (defScope sRX) := ⟨rfl, rfl, rfl, by decide +kernel, rfl, by decide +kernel, by decide +kernel⟩
def SRX : SpD := fun K ps T => ∃ (v : Web) (th : List Int) (ch : Int), ps = [⟨rWeb, v⟩, ⟨rList rInt, th⟩, ⟨rInt, ch⟩] ∧ v.1.length ≤ 1000 ∧ v.2.length ≤ 1000 ∧ webF v = false ∧ T = rtP K rBool (· = true)
theorem ok_RX {C : Addr} (M : Mods mg) (X : Excs8 K mg C) (C1 : CalX P w K mg base "_law_first" 13 (spX (SFX C) K)) (C2 : CalX P w K mg base "_law_second" 13 (spX (SFX C) K)) (F : Fun K "_law_refused" "_law_refused" sRX f fd) (hm : mg "_law_refused" = some (.ref f)) (hb : Binds K fd ["_law_web_here", "_law_thing", "_law_choice"] []) : Cal P w K mg base "_law_refused" 14 (spG SRX K) := by
  have nd := scRX.nd
  obtain ⟨CE, hCE, hex⟩ := X.ce
  obtain ⟨D1, D2, D3, D4, D5, D6, D7, D8, h1, h2, h3, h4, h5, h6, h7, h8, hk⟩ := X.oth
  refine fn_ok F scRX hm hb (fun qs T ⟨_, _, _, e, _⟩ => by rw [e]; rfl) (fun cdv A outer s H E qs T hr hS => ?_)
  obtain ⟨v, th, ch, rfl, l1, l2, hw, rfl⟩ := hS
  change WS _ _ [.im (rPair (rList rInt) (rList rRow)) v, .im (rList rInt) th, .im rInt ch, .no, .no] _ _
  refine ws_seq (w_set 3 ev_nonC ?_)
  refine ws_tryIf 4 3 (ps1 := [⟨rWeb, v⟩, ⟨rList rInt, th⟩, ⟨rInt, ch⟩]) (ps2 := [⟨rWeb, v⟩, ⟨rList rInt, th⟩, ⟨rInt, ch⟩]) C1 C2 hr (tv_cmp c_lt (ev_name 2 rfl) ev_int) (ha_cons (ev_name 0 rfl) (ha_cons (ev_name 1 rfl) (ha_cons (ev_name 2 rfl) ha_nil))) (ha_cons (ev_name 0 rfl) (ha_cons (ev_name 1 rfl) (ha_cons (ev_name 2 rfl) ha_nil))) ⟨v, th, ch, rfl, l1, l2, hw, rfl⟩ ⟨v, th, ch, rfl, l1, l2, hw, rfl⟩ hCE hex (fun ea oe hc => ?_)
  refine ws_seq (w_if (tv_bool (ev_isi8 (i := 3) List.mem_cons_self hc X.look M.isinstance rfl h1 h2 h3 h4 h5 h6 h7 h8 hk)) (fun h => absurd h (by decide)) (fun _ => ws_end ?_))
  exact ws_one (w_ret (ev_and (ev_isiC (i := 3) List.mem_cons_self hc X.look M.isinstance rfl X.own.bound X.self) (fun _ => ev_one (ev_isiB (i := 3) List.mem_cons_self hc X.look M.isinstance rfl X.ve.1 boot_VE X.ve.2))) rfl)
end
end K1

set_option Elab.async false
set_option linter.all false
set_option maxRecDepth 100000
set_option maxHeartbeats 4000000
namespace Fc
open PySem PySem.Spec L2
open PyProof.Rows hiding St
section
variable {X : Cx} {Γ Γ1 Γ2 Γ3 : Ga} {α β γ δ : Type} {N : Ga → Prop} {T : RT}
theorem EV.repS {e : Expr} {r : Rep α} {x : α} {r' : Rep β} {y : β} (h : EV X e Γ r x Γ1) (c : ∀ (R : Hp) v, r.R X.K R v x → r'.R X.K R v y) : EV X e Γ r' y Γ1 := fun σ H0 R0 H R E Q q => h σ H0 R0 H R E Q fun v H' R' E' s' e' => q v H' R' E' s' (c R' v e')
def rSum (r : Rep α) (r' : Rep β) : Rep (α ⊕ β) := ⟨fun K H v o => match o with | .inl x => r.R K H v x | .inr y => r'.R K H v y, fun {K H H' v o} s h => by cases o with | inl x => exact r.mono s h | inr y => exact r'.mono s h⟩
theorem EV.inl {e : Expr} {r : Rep α} {r' : Rep β} {x : α} (h : EV X e Γ r x Γ1) : EV X e Γ (rSum r r') (.inl x) Γ1 := EV.repS h fun _ _ q => q
theorem EV.inr {e : Expr} {r : Rep α} {r' : Rep β} {y : β} (h : EV X e Γ r' y Γ1) : EV X e Γ (rSum r r') (.inr y) Γ1 := EV.repS h fun _ _ q => q
theorem EV.ofl {e : Expr} {r : Rep α} {r' : Rep β} {x : α} (h : EV X e Γ (rSum r r') (.inl x) Γ1) : EV X e Γ r x Γ1 := EV.repS h fun _ _ q => q
theorem EV.ofr {e : Expr} {r : Rep α} {r' : Rep β} {y : β} (h : EV X e Γ (rSum r r') (.inr y) Γ1) : EV X e Γ r' y Γ1 := EV.repS h fun _ _ q => q
end
theorem eq_sum {α β γ : Type} {r : Rep α} {r' : Rep β} {rc : Rep γ} [DecidableEq α] [DecidableEq β] [DecidableEq γ] {n m k : Nat} (e : EqRep (rPair r r') n) (e' : EqRep (rList rc) m) (hn : n ≤ k) (hm : m ≤ k) : EqRep (rSum (rPair r r') (rList rc)) k := by
  have tl : ∀ {K : PySem.W.Frag} {R : Hp} {v : V} {x : α × β} {y : List γ}, (rPair r r').R K R v x → (rList rc).R K R v y → False := by
    rintro K R v x y ⟨a, v1, v2, rfl, h, _⟩ ⟨a', vs, e1, h', _⟩
    cases e1
    rw [h] at h'; cases h'
  refine ⟨?_, ?_⟩
  · intro K R v x y h1 h2
    cases x with
    | inl x => cases y with
      | inl y => exact congrArg _ (e.inj h1 h2)
      | inr y => exact (tl h1 h2).elim
    | inr x => cases y with
      | inl y => exact (tl h2 h1).elim
      | inr y => exact congrArg _ (e'.inj h1 h2)
  · intro X pins σ H s R A I sub v u vv uu x y rv ru h1 h2 hu
    have isT : ∀ {a : Addr} {vs : List V}, R a = some (.tup vs) → ∃ its, s.heap.IsTuple a its := fun {a vs} ha => by
      obtain ⟨_, its, _, o, h1, h2, n, h3⟩ := (show ObjOk X.prog X.w H s.heap a (.tup vs) from I.hok a _ (sub _ _ ha))
      exact ⟨_, o, h1, h2, n, h3⟩
    have isL : ∀ {a : Addr} {vs : List V}, R a = some (.lst vs) → ∃ its, s.heap.IsList a its := fun {a vs} ha => by
      obtain ⟨us, hv, pl, _⟩ := I.list (SqL.of (sub _ _ ha))
      exact ⟨_, pl.isList⟩
    cases x with
    | inl x => cases y with
      | inl y => rw [show decide (Sum.inl (β := List γ) x = Sum.inl y) = decide (x = y) by simp]; exact e.eq I sub rv ru h1 h2 (by omega)
      | inr y =>
        obtain ⟨a, v1, v2, rfl, ha, _⟩ := h1
        obtain ⟨b, vs, rfl, hb, _⟩ := h2
        cases rv
        cases ru
        obtain ⟨_, ta⟩ := isT ha
        obtain ⟨_, lb⟩ := isL hb
        rw [show decide (Sum.inl x = Sum.inr (α := α × β) y) = false by simp]
        exact SeqAt.EqAt.of_refs (fun z => by rw [z, hb] at ha; cases ha) (SeqAt.RcAt.tuple_list ta lb (by omega))
    | inr x => cases y with
      | inl y =>
        obtain ⟨b, vs, rfl, hb, _⟩ := h1
        obtain ⟨a, v1, v2, rfl, ha, _⟩ := h2
        cases rv
        cases ru
        obtain ⟨_, ta⟩ := isT ha
        obtain ⟨_, lb⟩ := isL hb
        rw [show decide (Sum.inr (α := α × β) x = Sum.inl y) = false by simp]
        exact SeqAt.EqAt.of_refs (fun z => by rw [z, ha] at hb; cases hb) (SeqAt.RcAt.list_tuple lb ta (by omega))
      | inr y => rw [show decide (Sum.inr (α := α × β) x = Sum.inr y) = decide (x = y) by simp]; exact e'.eq I sub rv ru h1 h2 (by omega)
end Fc
namespace K1
open PySem L2 Fc
open PySem.Spec hiding Row
open PyProof.Rows hiding St
open PySem.Builtin.Int (intBits)
theorem small_le {n : Nat} (h : n ≤ 1000000) : n ≤ sizeLine := Nat.le_trans h (by decide)
theorem webF_facts {u : Web} (h : webF u = true) : sizes u = true ∧ (∀ r ∈ u.2, leads u.1 r = true) ∧ (∀ q ∈ ups (0 + 1) ((u.1.length : Int) - (0 + 1)).toNat, called u.2 q = true) ∧ ∀ x ∈ nums u.1, lieF u.2 x.1 x.2 = true := by
  unfold webF at h
  split at h
  · cases h
  rename_i h1
  split at h
  · cases h
  rename_i h2
  split at h
  · cases h
  rename_i h3
  have h1 : sizes u = true := by simpa using h1
  have h2 : ((u.2.filter fun _ => true).map (leads u.1)).all id = true := by
    cases e : ((u.2.filter fun _ => true).map (leads u.1)).all id with
    | true => rfl
    | false => rw [e] at h2; exact absurd rfl h2
  have h3 : (((ups (0 + 1) ((u.1.length : Int) - (0 + 1)).toNat).filter fun _ => true).map (called u.2)).all id = true := by
    cases e : (((ups (0 + 1) ((u.1.length : Int) - (0 + 1)).toNat).filter fun _ => true).map (called u.2)).all id with
    | true => rfl
    | false => rw [e] at h3; exact absurd rfl h3
  exact ⟨h1, all_map.mp h2, all_map.mp h3, all_map.mp h⟩
theorem not_true {b : Bool} (h : b = true → False) : b = false := by cases b <;> simp_all
theorem no_row {places : List Int} {rows : List Row} {r : Row} (hr : r ∈ rows) (hl : leads places r = false) : webF (places, rows) = false := not_true fun h => by
  have := (webF_facts h).2.1 r hr
  rw [hl] at this; cases this
theorem no_wide {v : Web} (hv : WebG v) {p : Int} (p0 : 0 ≤ p) (p1 : p < (v.1.length : Int)) {wide : List Int} (hw : wide[p.toNat]? = some (v.1.getD p.toNat 0 + 1)) : webF (wide, v.2) = false := not_true fun h => by
  have nb := hv.sz (v.1.getD p.toNat 0) (by rw [List.getD_eq_getElem?_getD, List.getElem?_eq_getElem (by omega)]; exact List.getElem_mem _)
  have h4 := (webF_facts h).2.2.2 (p, v.1.getD p.toNat 0 + 1) (nums_mem.mpr ⟨p.toNat, by show p = _; omega, hw⟩)
  unfold lieF at h4
  have h5 := (Bool.and_eq_true_iff.mp h4).1
  unfold reachN at h5
  classical
  have h5 := of_decide_eq_true h5
  obtain ⟨ks, k1, k2, k3⟩ := h5
  have := nodup_le (xs := ks) (ys := ups 0 (v.1.getD p.toNat 0).toNat) k1 fun x hx => by
    have hR := (k2 x).mp hx
    have : 0 ≤ x ∧ x < v.1.getD p.toNat 0 := Reach.sub (P := fun x => 0 ≤ x ∧ x < v.1.getD p.toNat 0) ⟨Int.le_refl _, by omega⟩ (fun a b _ hab => by
      obtain ⟨r, hr, r1, r2, r3⟩ := fwd_mem.mp hab
      have q := hv.rowP hr
      have e0 := q.e0; have en := q.en
      rw [r1] at en
      rw [r3] at e0 en
      exact ⟨e0, en⟩) hR
    exact ups_mem.mpr (by omega)
  rw [ups_length] at this
  have k3 : (ks.length : Int) = v.1.getD p.toNat 0 + 1 := k3
  omega
theorem no_rows (places : List Int) : webF (places, []) = false := not_true fun h => by
  have := (webF_facts h).1
  unfold sizes at this
  simp at this
theorem no_called {v : Web} (hv : WebG v) : webF (v.1 ++ [2], v.2) = false := not_true fun h => by
  have pl := hv.pl
  have h3 := (webF_facts h).2.2.1 (v.1.length : Int) (by
    show (v.1.length : Int) ∈ ups (0 + 1) (((v.1 ++ [2]).length : Int) - (0 + 1)).toNat
    unfold ups
    rw [List.mem_map]
    refine ⟨v.1.length - 1, List.mem_range.mpr ?_, ?_⟩
    · rw [List.length_append, List.length_singleton]; omega
    · omega)
  unfold called at h3
  obtain ⟨b, hb, hb2⟩ := List.any_eq_true.mp h3
  obtain ⟨r, hr, rfl⟩ := List.mem_map.mp hb
  have q := hv.rowP (List.mem_filter.mp hr).1
  have c1 := q.c1
  have : r.2.2.2 = (v.1.length : Int) := of_decide_eq_true hb2
  omega
section
variable {P : Program} {w : World} {K : PySem.W.Frag} {mg : Str → Option Value} {base : Heap} {f : Addr} {fd : FuncData}
abbrev sBE : Stmt := top at__law_bent
abbrev nBE : List Str := ["_law_web_here", "_law_cell", "_law_places", "_law_rows", "_law_at", "_law_part_here", "_law_start", "_law_end", "_law_calls", "_law_wide", "_law_some", "_law_bent_here"]
theorem scBE : FnScope nBE ["_law_web_here", "_law_cell"] (defScope sBE) := ⟨rfl, rfl, rfl, by decide +kernel, rfl, by decide +kernel, by decide +kernel⟩
def SBE : SpD := fun K ps T => ∃ (v : Web) (c : Int), ps = [⟨rWeb, v⟩, ⟨rInt, c⟩] ∧ WebG v ∧ T = rtP K rWeb (fun u => webF u = false ∧ u.1.length ≤ 1000 ∧ u.2.length ≤ 1000)
theorem ok_BE (M : Mods mg) (F : Fun K "_law_bent" "_law_bent" sBE f fd) (hm : mg "_law_bent" = some (.ref f)) (hb : Binds K fd ["_law_web_here", "_law_cell"] []) : Cal P w K mg base "_law_bent" 1 (spG SBE K) := by
  have nd := scBE.nd
  refine fn_ok F scBE hm hb (fun qs T ⟨_, _, e, _⟩ => by rw [e]; rfl) (fun cdv A outer s H E qs T hr hS => ?_)
  obtain ⟨v, c, rfl, hv, rfl⟩ := hS
  have pl := hv.pl
  have rl := hv.rl
  change WS _ _ [.im (rPair (rList rInt) (rList rRow)) v, .im rInt c, .no, .no, .no, .no, .no, .no, .no, .no, .no, .no] _ _
  refine ws_seq (w_asg (ev_name 0 rfl) (bg_pair 2 3) ?_)
  refine ws_seq (w_set 4 (ev_mod (ev_fdiv (ev_name 1 rfl) ev_int ⟨by decide, by decide⟩) (ev_len M.len (ev_name 3 rfl)) (by omega)) ?_)
  have a0 : 0 ≤ c / 8 % (v.2.length : Int) := Int.emod_nonneg _ (by omega)
  have a1 : c / 8 % (v.2.length : Int) < v.2.length := Int.emod_lt_of_pos _ (by omega)
  generalize c / 8 % (v.2.length : Int) = at_ at a0 a1 ⊢
  obtain ⟨r, hr0⟩ : ∃ r, v.2[at_.toNat]? = some r := ⟨_, List.getElem?_eq_getElem (by omega)⟩
  have hrat : atI v.2 at_ = some r := by rw [atI_of a0 a1]; exact hr0
  have q := hv.rowP (List.mem_of_getElem? hr0)
  have p0 := q.p0; have p1 := q.p1
  refine ws_seq (w_asg (ev_ixL (ev_name 3 rfl) (ev_name 4 rfl) hrat) (bg_row 5 6 7 8) ?_)
  have hn : atI v.1 r.1 = some (v.1.getD r.1.toNat 0) := atI_getD p0 p1
  have c1 := cut_length v.1 none (some r.1)
  have c2 := cut_length v.1 (some (r.1 + 1)) none
  have d1 := cut_length v.2 none (some at_)
  have d2 := cut_length v.2 (some (at_ + 1)) none
  refine ws_seq (w_set 9 (EVL.im (evl_cat (EVL.im (evl_cat (EVL.im (evl_slice (ev_name 2 rfl) ov_none (ov_some (ev_name 5 rfl)))) (EVL.im (evl_lst (ea_cons (ev_add (ev_ixL (ev_name 2 rfl) (ev_name 5 rfl) hn) ev_int) ea_nil) (by show 1 ≤ sizeLine; decide))) (small_le (by simp; omega)))) (EVL.im (evl_slice (ev_name 2 rfl) (ov_some (ev_add (ev_name 5 rfl) ev_int)) ov_none)) (small_le (by simp; omega)))) ?_)
  refine ws_seq (w_set 10 (EVL.im (evl_lst (r := rPair (rList rInt) (rList rRow)) (ea_cons (ev_pair (ha_cons (ev_name 9 rfl) (ha_cons (ev_name 3 rfl) ha_nil))) (ea_cons (ev_pair (ha_cons (ev_name 2 rfl) (ha_cons (EVL.im (evl_lst (r := rRow) ea_nil (by decide))) ha_nil))) (ea_cons (ev_pair (ha_cons (EVL.im (evl_cat (ev_name 2 rfl) (EVL.im (evl_lst (ea_cons ev_int ea_nil) (by show 1 ≤ sizeLine; decide))) (small_le (by show _ + 1 ≤ _; omega)))) (ha_cons (ev_name 3 rfl) ha_nil))) ea_nil))) (by show 3 ≤ sizeLine; decide))) ?_)
  refine ws_seq (w_setL 11 (r := rRow) (evl_lst (ea_cons (ev_row (ha_cons (ev_name 5 rfl) (ha_cons ev_int (ha_cons (ev_name 7 rfl) (ha_cons (ev_name 8 rfl) ha_nil))))) (ea_cons (ev_row (ha_cons (ev_name 5 rfl) (ha_cons (ev_name 6 rfl) (ha_cons (ev_ixL (ev_name 2 rfl) (ev_name 5 rfl) hn) (ha_cons (ev_name 8 rfl) ha_nil))))) (ea_cons (ev_row (ha_cons (ev_len M.len (ev_name 2 rfl)) (ha_cons (ev_name 6 rfl) (ha_cons (ev_name 7 rfl) (ha_cons (ev_name 8 rfl) ha_nil))))) ea_nil))) (by show 3 ≤ sizeLine; decide)) ?_)
  refine ws_seq (w_append 11 (ev_row (ha_cons (ev_name 5 rfl) (ha_cons (ev_name 6 rfl) (ha_cons (ev_name 7 rfl) (ha_cons (ev_name 5 rfl) ha_nil))))) rfl rfl (by show 3 < sizeLine; decide) ?_)
  refine WS.freeze 11 rfl (by show 4 ≤ sizeLine; decide) ?_
  have ch0 : 0 ≤ c % 7 := Int.emod_nonneg _ (by decide)
  have ch1 : c % 7 < 7 := Int.emod_lt_of_pos _ (by decide)
  have hwide : (cut v.1 none (some r.1) ++ [v.1.getD r.1.toNat 0 + 1] ++ cut v.1 (some (r.1 + 1)) none)[r.1.toNat]? = some (v.1.getD r.1.toNat 0 + 1) := by
    have e : HT.sIx v.1.length v.1.length (some r.1) = r.1.toNat := by
      show (if r.1 < 0 then (r.1 + (v.1.length : Int)).toNat else min r.1.toNat v.1.length) = r.1.toNat
      rw [if_neg (by omega)]; omega
    have el : (cut v.1 none (some r.1)).length = r.1.toNat := by
      unfold cut
      rw [e]
      show ((v.1.drop 0).take (r.1.toNat - 0)).length = _
      rw [List.length_take, List.drop_zero]; omega
    rw [List.append_assoc, List.getElem?_append_right (by omega), el]
    simp
  refine ws_seq (w_if (tv_cmp c_lt (ev_mod (ev_name 1 rfl) ev_int (by decide)) ev_int) (fun h => ?_) (fun h => ws_end ?_))
  · have h : c % 7 < 3 := of_decide_eq_true h
    obtain ⟨u, hu, hf, h1, h2⟩ : ∃ u : Web, atI [(cut v.1 none (some r.1) ++ [v.1.getD r.1.toNat 0 + 1] ++ cut v.1 (some (r.1 + 1)) none, v.2), (v.1, []), (v.1 ++ [2], v.2)] (c % 7) = some u ∧ webF u = false ∧ u.1.length ≤ 1000 ∧ u.2.length ≤ 1000 := by
      rcases (show c % 7 = 0 ∨ c % 7 = 1 ∨ c % 7 = 2 by omega) with e | e | e <;> rw [e]
      · exact ⟨_, rfl, no_wide hv p0 p1 hwide, by simp; omega, by show v.2.length ≤ 1000; omega⟩
      · exact ⟨_, rfl, no_rows _, by show v.1.length ≤ 1000; omega, by show 0 ≤ 1000; decide⟩
      · exact ⟨_, rfl, no_called hv, by simp; omega, by show v.2.length ≤ 1000; omega⟩
    exact ws_one (w_ret (r := rPair (rList rInt) (rList rRow)) (ev_ixL (ev_name 10 rfl) (ev_mod (ev_name 1 rfl) ev_int (by decide)) hu) ⟨hf, h1, h2⟩)
  · have h : ¬ c % 7 < 3 := of_decide_eq_false h
    obtain ⟨b, hb, hf⟩ : ∃ b : Row, atI ([((r.1, (1 : Int), r.2.2.1, r.2.2.2) : Row), (r.1, r.2.1, v.1.getD r.1.toNat 0, r.2.2.2), ((v.1.length : Int), r.2.1, r.2.2.1, r.2.2.2)] ++ [(r.1, r.2.1, r.2.2.1, r.1)]) (c % 7 - 3) = some b ∧ leads v.1 b = false := by
      rcases (show c % 7 = 3 ∨ c % 7 = 4 ∨ c % 7 = 5 ∨ c % 7 = 6 by omega) with e | e | e | e <;> rw [e]
      · exact ⟨_, rfl, by unfold leads; simp⟩
      · exact ⟨_, rfl, by unfold leads; simp⟩
      · exact ⟨_, rfl, by unfold leads; simp⟩
      · refine ⟨_, rfl, ?_⟩
        unfold leads
        have : ¬ r.1 = -1 := by omega
        simp [this]
    refine ws_one (w_ret (r := rPair (rList rInt) (rList rRow)) (ev_pair (ha_cons (ev_name 2 rfl) (ha_cons (EVL.im (evl_cat (EVL.im (evl_cat (EVL.im (evl_slice (ev_name 3 rfl) ov_none (ov_some (ev_name 4 rfl)))) (EVL.im (evl_lst (ea_cons (ev_ixL (ev_name 11 rfl) (ev_sub (ev_mod (ev_name 1 rfl) ev_int (by decide)) ev_int) hb) ea_nil) (by show 1 ≤ sizeLine; decide))) (small_le (by simp; omega)))) (EVL.im (evl_slice (ev_name 3 rfl) (ov_some (ev_add (ev_name 4 rfl) ev_int)) ov_none)) (small_le (by simp; omega)))) ha_nil))) ⟨no_row (r := b) (by simp) hf, by show v.1.length ≤ 1000; omega, by simp; omega⟩)
@[reducible] instance decWL : DecidableEq ((List Int × List Row) ⊕ List Int) := @instDecidableEqSum (List Int × List Row) (List Int) inferInstance inferInstance
abbrev sLA : Stmt := top at_law
abbrev nLA : List Str := ["_law_script", "_law_web_here", "_law_choice", "_law_cell", "_law_one", "_law_thing", "_law_handed"]
theorem scLA : FnScope nLA ["_law_script"] (defScope sLA) := ⟨rfl, rfl, rfl, by decide +kernel, rfl, by decide +kernel, by decide +kernel⟩
def SLAW : SpD := fun K ps T => ∃ ns : List Int, ps = [⟨rScr, ns⟩] ∧ ns.length ≤ 63 ∧ (∀ n ∈ ns, intBits n ≤ 2 ^ 20) ∧ T = rtP K rBool (· = true)
theorem ok_LA (M : Mods mg) (CA : Cal P w K mg base "_law_cell_at" 1 (spG SCA K)) (C1 : Cal P w K mg base "_law_web" 4 (spG SWB K)) (CB : Cal P w K mg base "_law_bent" 1 (spG SBE K)) (C4 : Cal P w K mg base "_law_copy" 1 (spG SCP K)) (CX : Cal P w K mg base "_law_refused" 14 (spG SRX K)) (F : Fun K "law" "law" sLA f fd) : FnOk P w K mg base CX0 15 f fd ["_law_script"] (spG SLAW K) := by
  have nd := scLA.nd
  have CA := CA.mono (show 1 ≤ 14 by decide)
  have C1 := C1.mono (show 4 ≤ 14 by decide)
  have CB := CB.mono (show 1 ≤ 14 by decide)
  have C4 := C4.mono (show 1 ≤ 14 by decide)
  refine fn_okF F scLA (fun qs T ⟨_, e, _⟩ => by rw [e]; rfl) (fun cdv A outer s H E qs T hr hS => ?_)
  obtain ⟨ns, rfl, hlen, hbits, rfl⟩ := hS
  have hu : ∀ n, n ≤ 8 → (A.deeper (envOfC "law" (defScope sLA) s.heap.objs.size f cdv)).units + n < cLine := fun n hn => Nat.lt_of_le_of_lt (Nat.add_le_add_left (by omega : n ≤ 64) _) hr.units
  have hu4 := hu 4 (by decide)
  change WS _ _ [.im rScr ns, .no, .no, .no, .no, .no, .no] _ _
  refine ws_seq (w_callP 1 C1 hr (ha_cons (ev_name 0 rfl) (ha_cons ev_int (ha_cons ev_int ha_nil))) ⟨ns, 3, 4, rfl, hbits, by decide, by decide, by decide, by decide, rfl⟩ ?_)
  intro v hwv
  have hv : WebG v := hwv.g (by decide) (by decide) (by decide) (by decide)
  refine ws_seq (w_forI (r := rInt) (fun i Γ => ∃ v2 v3 v4 v5 v6, Γ = [.im rScr ns, .im rWeb v, v2, v3, v4, v5, v6]) (iv_range1 M.range ev_int ⟨by decide, by decide⟩) (bg_name 2) ⟨_, _, _, _, _, rfl⟩ ?_ ?_)
  · rintro i ch Γ hc ⟨v2, v3, v4, v5, v6, rfl⟩
    have cb := ups_mem.mp (List.mem_of_getElem? hc)
    refine ws_seq (w_set 3 (ev_call CA hr (ha_cons (ev_name 0 rfl) (ha_cons (ev_add ev_int (ev_name 2 rfl)) ha_nil)) ⟨ns, _, rfl, by omega, rfl⟩) ?_)
    generalize ns.getD (6 + ch).toNat 0 = cell
    refine ws_seq (w_callP 4 CB hr (ha_cons (ev_name 1 rfl) (ha_cons (ev_fdiv (ev_name 3 rfl) ev_int ⟨by decide, by decide⟩) ha_nil)) ⟨v, _, rfl, hv, rfl⟩ ?_)
    rintro u ⟨hf, l1, l2⟩
    have m0 : 0 ≤ cell % 2 := Int.emod_nonneg _ (by decide)
    have m1 : cell % 2 < 2 := Int.emod_lt_of_pos _ (by decide)
    obtain ⟨th, hth, tl⟩ : ∃ th : List Int, atI [([] : List Int), [99, -1]] (cell % 2) = some th ∧ th.length ≤ 2 := by
      rcases (show cell % 2 = 0 ∨ cell % 2 = 1 by omega) with e | e <;> rw [e]
      · exact ⟨_, rfl, by decide⟩
      · exact ⟨_, rfl, by decide⟩
    refine ws_seq (w_set 5 (ev_ixL (r := rList rInt) (EVL.im (evl_lst (ea_cons (EVL.im (evl_lst (r := rInt) ea_nil (by decide))) (ea_cons (EVL.im (evl_lst (ea_cons ev_int (ea_cons (ev_neg ev_int) ea_nil)) (by show 2 ≤ sizeLine; decide))) ea_nil)) (by show 2 ≤ sizeLine; decide))) (ev_mod (ev_name 3 rfl) ev_int (by decide)) hth) ?_)
    refine ws_seq (w_set 6 (EVL.im (evl_lst (r := rSum rWeb (rList rInt)) (ea_cons (EV.inl (ev_call C4 hr (ha_cons (ev_name 4 rfl) ha_nil) ⟨u, rfl, rfl⟩)) (ea_cons (EV.inr (EVL.im (evl_list M.list (ev_name 5 rfl)))) ea_nil)) (by show 2 ≤ sizeLine; decide))) ?_)
    refine ws_one (w_if (TW.tv (tw_or (tv_not (tv_bool (ev_call CX hr (ha_cons (EV.ofl (x := u) (ev_ixL (ev_name 6 rfl) ev_int rfl)) (ha_cons (EV.ofr (y := th) (ev_ixL (ev_name 6 rfl) ev_int rfl)) (ha_cons (ev_name 2 rfl) ha_nil))) ⟨u, th, ch, rfl, l1, l2, hf, rfl⟩))) fun _ =>
      tw_or1 (tv_cmp (c_neL (α := (List Int × List Row) ⊕ List Int) (r := rSum (rPair (rList rInt) (rList rRow)) (rList rInt)) (eq_sum (n := 3) (m := 1) (k := 3) (eq_pair (eq_list eq_int) (eq_list eq_row) (by decide) (by decide)) (eq_list eq_int) (by decide) (by decide)) hu4) (ev_name 6 rfl) (EVL.im (evl_lst (ea_cons (EV.inl (ev_name 4 rfl)) (ea_cons (EV.inr (ev_name 5 rfl)) ea_nil)) (by show 2 ≤ sizeLine; decide)))))) (fun h => ?_) (fun h => ws_end ⟨_, _, _, _, _, rfl⟩))
    simp at h
  · rintro Γ ⟨v2, v3, v4, v5, v6, rfl⟩
    exact ws_one (w_ret ev_bool rfl)
end
end K1

set_option Elab.async false
set_option linter.all false
set_option maxRecDepth 100000
set_option maxHeartbeats 4000000
namespace K1
open PySem L2 Fc
open PySem.Spec hiding Row
open PyProof.Rows hiding St
open PySem.Builtin.Int (intBits)
structure Top (K : PySem.W.Frag) (mg : Str → Option Value) : Prop where
  M : Mods mg
  X : ∃ C, Excs8 K mg C
  IW : Def K mg "is_whole" sIW ["value"]
  AW : Def K mg "are_whole" sAW ["values"]
  RF : Def K mg "has_row_form" sRF ["row"]
  WF : Def K mg "has_web_form" sWF ["web"]
  WZ : Def K mg "has_web_sizes" sWZ ["web"]
  LW : Def K mg "leads_within" sLW ["places", "row"]
  IC : Def K mg "is_called" sIC ["rows", "part"]
  RE : Def K mg "reached" sRE ["leads", "start"]
  LO : Def K mg "lies_on_ways" sLO ["rows", "part", "size"]
  WE : Def K mg "is_web" sWE ["web"]
  NWx : Def K mg "need_web" sNWx ["web"]
  IRx : Def K mg "is_run" sIRx ["web", "rows"]
  STx : Def K mg "stood" sSTx ["web", "rows"]
  COx : Def K mg "counts" sCOx ["web", "heap"]
  RLx : Def K mg "relations" sRLx ["web"]
  ACx : Def K mg "are_counts" sACx ["web", "numbers"]
  HFx : Def K mg "heap_of" sHFx ["web", "numbers"]
  JUx : Def K mg "judged" sJUx ["web", "plan"]
  PFx : Def K mg "plan_for" sPFx ["web", "guesses"]
  CSx : Def K mg "cost" sCSx ["web", "choice", "guesses"]
  IEx : Def K mg "is_enough" sIEx ["web", "choice"]
  TWx : Def K mg "twins" sTWx ["web", "choice"]
  SDx : Def K mg "stopped" sSDx ["web", "stops"]
  RFk : Def K mg "read_from" sRFk ["web", "plan", "marks", "at_stops"]
  RBx : Def K mg "read_back" sRBx ["web", "plan", "marks", "stops"]
  NPx : Def K mg "need_part" sNPx ["web", "part"]
  ILx : Def K mg "is_loose" sILx ["web", "part"]
  NOx : Def K mg "need_loose" sNOx ["web", "part"]
  WYx : Def K mg "ways" sWYx ["web", "part"]
  WTx : Def K mg "worths" sWTx ["web", "part"]
  SPx : Def K mg "steps" sSPx ["web", "part"]
  NUx : Def K mg "number_of" sNUx ["web", "part", "way"]
  WOx : Def K mg "way_of" sWOx ["web", "part", "number"]
  CUx : Def K mg "cuts" sCUx ["web", "part"]
  LYx : Def K mg "laid_out" sLYx ["web", "part"]
  SWx : Def K mg "stretch_web" sSWx ["web", "part"]
  SHx : Def K mg "stretches" sSHx ["web", "part", "rows"]
  CBx : Def K mg "counts_by" sCBx ["web", "part", "numbers"]
  CHx : Def K mg "chains" sCHx ["web"]
  OSx : Def K mg "offsets" sOSx ["web"]
  CNx : Def K mg "chain_number" sCNx ["web", "chain"]
  CFx : Def K mg "chain_of" sCFx ["web", "part", "number"]
  MX : Def K mg "_law_mix" sMX ["_law_number", "_law_k"]
  CA : Def K mg "_law_cell_at" sCA ["_law_script", "_law_k"]
  LF : Def K mg "_law_left" sLF ["_law_script", "_law_k"]
  DR : Def K mg "_law_draw" sDR ["_law_left_here", "_law_base"]
  PT : Def K mg "_law_part" sPT ["_law_left_here", "_law_most"]
  WB : Def K mg "_law_web" sWB ["_law_script", "_law_parts_most", "_law_most"]
  CP : Def K mg "_law_copy" sCP ["_law_web_here"]
  BE : Def K mg "_law_bent" sBE ["_law_web_here", "_law_cell"]
  FI : Def K mg "_law_first" sFI ["_law_web_here", "_law_thing", "_law_choice"]
  SE : Def K mg "_law_second" sSE ["_law_web_here", "_law_thing", "_law_choice"]
  RX : Def K mg "_law_refused" sRX ["_law_web_here", "_law_thing", "_law_choice"]
theorem law_ok {P : Program} {w : World} {K : PySem.W.Frag} {mg : Str → Option Value} {base : Heap} {f : Addr} {fd : FuncData} (T : Top K mg) (F : Fun K "law" "law" sLA f fd) : FnOk P w K mg base CX0 15 f fd ["_law_script"] (spG SLAW K) := by
  have M := T.M
  obtain ⟨C0, X⟩ := T.X
  obtain ⟨_, _, F1, m1, b1⟩ := T.IW
  have IW := ok_IW (P := P) (w := w) (base := base) M F1 m1 b1
  obtain ⟨_, _, F1, m1, b1⟩ := T.AW
  have AW := ok_AW (P := P) (w := w) (base := base) M IW F1 m1 b1
  obtain ⟨_, _, F1, m1, b1⟩ := T.RF
  have RF := ok_RF (P := P) (w := w) (base := base) M AW F1 m1 b1
  obtain ⟨_, _, F1, m1, b1⟩ := T.WF
  have WF := ok_WF (P := P) (w := w) (base := base) M AW RF F1 m1 b1
  obtain ⟨_, _, F1, m1, b1⟩ := T.WZ
  have WZ := ok_WZ (P := P) (w := w) (base := base) M F1 m1 b1
  obtain ⟨_, _, F1, m1, b1⟩ := T.LW
  have LW := ok_LW (P := P) (w := w) (base := base) M F1 m1 b1
  obtain ⟨_, _, F1, m1, b1⟩ := T.IC
  have IC := ok_IC (P := P) (w := w) (base := base) M F1 m1 b1
  obtain ⟨_, _, F1, m1, b1⟩ := T.RE
  have RE := ok_RE (P := P) (w := w) (base := base)  F1 m1 b1
  obtain ⟨_, _, F1, m1, b1⟩ := T.LO
  have LO := ok_LO (P := P) (w := w) (base := base) M RE F1 m1 b1
  obtain ⟨_, _, F1, m1, b1⟩ := T.WE
  have WE := ok_WE (P := P) (w := w) (base := base) M WF WZ LW IC LO F1 m1 b1
  obtain ⟨_, _, F1, m1, b1⟩ := T.NWx
  have NWx := ok_NWx (P := P) (w := w) (base := base) X.own WE F1 m1 b1
  obtain ⟨_, _, F1, m1, b1⟩ := T.IRx
  have IRx := ok_IRx (P := P) (w := w) (base := base) NWx F1 m1 b1
  obtain ⟨_, _, F1, m1, b1⟩ := T.STx
  have STx := ok_STx (P := P) (w := w) (base := base) NWx F1 m1 b1
  obtain ⟨_, _, F1, m1, b1⟩ := T.COx
  have COx := ok_COx (P := P) (w := w) (base := base) NWx F1 m1 b1
  obtain ⟨_, _, F1, m1, b1⟩ := T.RLx
  have RLx := ok_RLx (P := P) (w := w) (base := base) NWx F1 m1 b1
  obtain ⟨_, _, F1, m1, b1⟩ := T.ACx
  have ACx := ok_ACx (P := P) (w := w) (base := base) NWx F1 m1 b1
  obtain ⟨_, _, F1, m1, b1⟩ := T.HFx
  have HFx := ok_HFx (P := P) (w := w) (base := base) ACx F1 m1 b1
  obtain ⟨_, _, F1, m1, b1⟩ := T.JUx
  have JUx := ok_JUx (P := P) (w := w) (base := base) NWx F1 m1 b1
  obtain ⟨_, _, F1, m1, b1⟩ := T.PFx
  have PFx := ok_PFx (P := P) (w := w) (base := base) NWx F1 m1 b1
  obtain ⟨_, _, F1, m1, b1⟩ := T.CSx
  have CSx := ok_CSx (P := P) (w := w) (base := base) NWx F1 m1 b1
  obtain ⟨_, _, F1, m1, b1⟩ := T.IEx
  have IEx := ok_IEx (P := P) (w := w) (base := base) NWx F1 m1 b1
  obtain ⟨_, _, F1, m1, b1⟩ := T.TWx
  have TWx := ok_TWx (P := P) (w := w) (base := base) NWx F1 m1 b1
  obtain ⟨_, _, F1, m1, b1⟩ := T.SDx
  have SDx := ok_SDx (P := P) (w := w) (base := base) NWx F1 m1 b1
  obtain ⟨_, _, F1, m1, b1⟩ := T.RFk
  have RFk := known F1 m1 b1
  obtain ⟨_, _, F1, m1, b1⟩ := T.RBx
  have RBx := ok_RBx (P := P) (w := w) (base := base) RFk SDx F1 m1 b1
  obtain ⟨_, _, F1, m1, b1⟩ := T.NPx
  have NPx := ok_NPx (P := P) (w := w) (base := base) NWx F1 m1 b1
  obtain ⟨_, _, F1, m1, b1⟩ := T.ILx
  have ILx := ok_ILx (P := P) (w := w) (base := base) NPx F1 m1 b1
  obtain ⟨_, _, F1, m1, b1⟩ := T.NOx
  have NOx := ok_NOx (P := P) (w := w) (base := base) ILx F1 m1 b1
  obtain ⟨_, _, F1, m1, b1⟩ := T.WYx
  have WYx := ok_WYx (P := P) (w := w) (base := base) NOx F1 m1 b1
  obtain ⟨_, _, F1, m1, b1⟩ := T.WTx
  have WTx := ok_WTx (P := P) (w := w) (base := base) NOx F1 m1 b1
  obtain ⟨_, _, F1, m1, b1⟩ := T.SPx
  have SPx := ok_SPx (P := P) (w := w) (base := base) WTx F1 m1 b1
  obtain ⟨_, _, F1, m1, b1⟩ := T.NUx
  have NUx := ok_NUx (P := P) (w := w) (base := base) WTx F1 m1 b1
  obtain ⟨_, _, F1, m1, b1⟩ := T.WOx
  have WOx := ok_WOx (P := P) (w := w) (base := base) NOx F1 m1 b1
  obtain ⟨_, _, F1, m1, b1⟩ := T.CUx
  have CUx := ok_CUx (P := P) (w := w) (base := base) NPx F1 m1 b1
  obtain ⟨_, _, F1, m1, b1⟩ := T.LYx
  have LYx := ok_LYx (P := P) (w := w) (base := base) CUx F1 m1 b1
  obtain ⟨_, _, F1, m1, b1⟩ := T.SWx
  have SWx := ok_SWx (P := P) (w := w) (base := base) LYx F1 m1 b1
  obtain ⟨_, _, F1, m1, b1⟩ := T.SHx
  have SHx := ok_SHx (P := P) (w := w) (base := base) NPx F1 m1 b1
  obtain ⟨_, _, F1, m1, b1⟩ := T.CBx
  have CBx := ok_CBx (P := P) (w := w) (base := base) LYx F1 m1 b1
  obtain ⟨_, _, F1, m1, b1⟩ := T.CHx
  have CHx := ok_CHx (P := P) (w := w) (base := base) NWx F1 m1 b1
  obtain ⟨_, _, F1, m1, b1⟩ := T.OSx
  have OSx := ok_OSx (P := P) (w := w) (base := base) CHx F1 m1 b1
  obtain ⟨_, _, F1, m1, b1⟩ := T.CNx
  have CNx := ok_CNx (P := P) (w := w) (base := base) OSx F1 m1 b1
  obtain ⟨_, _, F1, m1, b1⟩ := T.CFx
  have CFx := ok_CFx (P := P) (w := w) (base := base) OSx F1 m1 b1
  obtain ⟨_, _, F1, m1, b1⟩ := T.MX
  have MX := ok_MX (P := P) (w := w) (base := base)  F1 m1 b1
  obtain ⟨_, _, F1, m1, b1⟩ := T.CA
  have CA := ok_CA (P := P) (w := w) (base := base) M F1 m1 b1
  obtain ⟨_, _, F1, m1, b1⟩ := T.LF
  have LF := ok_LF (P := P) (w := w) (base := base) CA F1 m1 b1
  obtain ⟨_, _, F1, m1, b1⟩ := T.DR
  have DR := ok_DR (P := P) (w := w) (base := base) MX F1 m1 b1
  obtain ⟨_, _, F1, m1, b1⟩ := T.PT
  have PT := ok_PT (P := P) (w := w) (base := base) M DR F1 m1 b1
  obtain ⟨_, _, F1, m1, b1⟩ := T.WB
  have WB := ok_WB (P := P) (w := w) (base := base) M LF DR PT F1 m1 b1
  obtain ⟨_, _, F1, m1, b1⟩ := T.CP
  have CP := ok_CP (P := P) (w := w) (base := base) M F1 m1 b1
  obtain ⟨_, _, F1, m1, b1⟩ := T.BE
  have BE := ok_BE (P := P) (w := w) (base := base) M F1 m1 b1
  obtain ⟨_, _, F1, m1, b1⟩ := T.FI
  have FI := ok_FI (P := P) (w := w) (base := base) IRx STx COx RLx ACx HFx JUx PFx CSx IEx TWx SDx RBx F1 m1 b1
  obtain ⟨_, _, F1, m1, b1⟩ := T.SE
  have SE := ok_SE (P := P) (w := w) (base := base) ILx WYx WTx NUx WOx SPx CUx SWx SHx CBx CHx OSx CNx CFx F1 m1 b1
  obtain ⟨_, _, F1, m1, b1⟩ := T.RX
  have RX := ok_RX (P := P) (w := w) (base := base) M X FI SE F1 m1 b1
  exact ok_LA M CA WB BE CP RX F
theorem excs_mk {h : Heap} {K : PySem.W.Frag} {mg : Str → Option Value} (KX : K.In h) (G : h.Ns mainGlobals mg) {C CE C1 C2 C3 C4 C5 C6 C7 C8 : Addr} {cd : ClassData} (e1 : PySem.W.nsIn K mainGlobals "NoWeb" = some (some (.ref C))) (e2 : PySem.W.nsIn K mainGlobals "CountError" = some (some (.ref CE))) (f1 : PySem.W.nsIn K mainGlobals "NoChain" = some (some (.ref C1))) (f2 : PySem.W.nsIn K mainGlobals "NoChoice" = some (some (.ref C2))) (f3 : PySem.W.nsIn K mainGlobals "NoCounts" = some (some (.ref C3))) (f4 : PySem.W.nsIn K mainGlobals "NoGuess" = some (some (.ref C4))) (f5 : PySem.W.nsIn K mainGlobals "NoLoose" = some (some (.ref C5))) (f6 : PySem.W.nsIn K mainGlobals "NoMarks" = some (some (.ref C6))) (f7 : PySem.W.nsIn K mainGlobals "NoRun" = some (some (.ref C7))) (f8 : PySem.W.nsIn K mainGlobals "NoWay" = some (some (.ref C8))) (e6 : PySem.W.nsIn K mainGlobals "ValueError" = some none)
    (q1 : PySem.W.excIn K C bmV "ValueError.__new__" = true) (q2 : PySem.W.exmOne K (.ref C) (.ref CE) = some true) (r0 : PySem.W.findIn K (.ref C) "__getattribute__" = some (some (.builtin "BaseException.__getattribute__"))) (r1 : PySem.W.findIn K (.ref C) "__getattr__" = some none) (r2 : PySem.W.findIn K (.ref C) "__class__" = some (some (.builtin "object.__class__"))) (r3 : PySem.W.specialIn K (.builtin "object.__class__") "__get__" = some (some (.builtin "getset_descriptor.__get__"))) (r4 : PySem.W.takesIn K (.builtin "object.__class__") = some true) (r5 : PySem.W.mroIn K C (.type "object") = some true) (r7 : PySem.W.subIn K (.ref C) (.type "BaseException") = some true) (r6 : PySem.W.clsIn K C = some cd) (q4 : PySem.W.kitAny K (.ref C) [.ref C1, .ref C2, .ref C3, .ref C4, .ref C5, .ref C6, .ref C7, .ref C8] = some false) (q5 : PySem.W.kitOne K (.ref C) (.ref C) = some true) (q6 : PySem.W.kitOne K (.ref C) (.type "ValueError") = some true) : ∃ C, Excs8 K mg C :=
  ⟨C, ⟨PySem.W.mg_of KX G e1, q1⟩, ⟨CE, PySem.W.mg_of KX G e2, q2⟩, by unfold excLook; rw [r0, r1, r2, r3, r4, r5, r7, r6]; rfl, ⟨C1, C2, C3, C4, C5, C6, C7, C8, PySem.W.mg_of KX G f1, PySem.W.mg_of KX G f2, PySem.W.mg_of KX G f3, PySem.W.mg_of KX G f4, PySem.W.mg_of KX G f5, PySem.W.mg_of KX G f6, PySem.W.mg_of KX G f7, PySem.W.mg_of KX G f8, q4⟩, q5, PySem.W.mg_none_of KX G e6, q6⟩
theorem mods_mk {h : Heap} {K : PySem.W.Frag} {mg : Str → Option Value} (KX : K.In h) (G : h.Ns mainGlobals mg) {t1 t2 t3 t4 t5 t6 t7 t8 : Tok}
    (a1 : PySem.W.nsIn K mainGlobals "MOST_PARTS" = some (some (.int 4 t1))) (a2 : PySem.W.nsIn K mainGlobals "LEAST_PLACES" = some (some (.int 2 t2))) (a3 : PySem.W.nsIn K mainGlobals "MOST_PLACES" = some (some (.int 16 t3))) (a4 : PySem.W.nsIn K mainGlobals "MOST_ROWS" = some (some (.int 60 t4))) (a5 : PySem.W.nsIn K mainGlobals "FIRST_PART" = some (some (.int 0 t5))) (a6 : PySem.W.nsIn K mainGlobals "BEGIN" = some (some (.int 0 t6))) (a7 : PySem.W.nsIn K mainGlobals "END" = some (some (.int 1 t7))) (a8 : PySem.W.nsIn K mainGlobals "NO_CALL" = some (some (.int (-1) t8)))
    (b1 : PySem.W.nsIn K mainGlobals "len" = some none) (b2 : PySem.W.nsIn K mainGlobals "all" = some none) (b3 : PySem.W.nsIn K mainGlobals "any" = some none) (b4 : PySem.W.nsIn K mainGlobals "range" = some none) (b5 : PySem.W.nsIn K mainGlobals "enumerate" = some none) (b6 : PySem.W.nsIn K mainGlobals "isinstance" = some none) (b7 : PySem.W.nsIn K mainGlobals "int" = some none) (b8 : PySem.W.nsIn K mainGlobals "bool" = some none) (b9 : PySem.W.nsIn K mainGlobals "list" = some none) (b10 : PySem.W.nsIn K mainGlobals "tuple" = some none) (b11 : PySem.W.nsIn K mainGlobals "min" = some none) (b12 : PySem.W.nsIn K mainGlobals "max" = some none) (b13 : PySem.W.nsIn K mainGlobals "sorted" = some none) (b14 : PySem.W.nsIn K mainGlobals "sum" = some none) (b15 : PySem.W.nsIn K mainGlobals "zip" = some none) (b16 : PySem.W.nsIn K mainGlobals "reversed" = some none) : Mods mg :=
  ⟨⟨_, PySem.W.mg_of KX G a1⟩, ⟨_, PySem.W.mg_of KX G a2⟩, ⟨_, PySem.W.mg_of KX G a3⟩, ⟨_, PySem.W.mg_of KX G a4⟩, ⟨_, PySem.W.mg_of KX G a5⟩, ⟨_, PySem.W.mg_of KX G a6⟩, ⟨_, PySem.W.mg_of KX G a7⟩, ⟨_, PySem.W.mg_of KX G a8⟩, PySem.W.mg_none_of KX G b1, PySem.W.mg_none_of KX G b2, PySem.W.mg_none_of KX G b3, PySem.W.mg_none_of KX G b4, PySem.W.mg_none_of KX G b5, PySem.W.mg_none_of KX G b6, PySem.W.mg_none_of KX G b7, PySem.W.mg_none_of KX G b8, PySem.W.mg_none_of KX G b9, PySem.W.mg_none_of KX G b10, PySem.W.mg_none_of KX G b11, PySem.W.mg_none_of KX G b12, PySem.W.mg_none_of KX G b13, PySem.W.mg_none_of KX G b14, PySem.W.mg_none_of KX G b15, PySem.W.mg_none_of KX G b16⟩
theorem law_mk {l : PySem.W.OpenLaw} {w : World} {K : PySem.W.Frag} {h : Heap} {mg : Str → Option Value} {fa f : Addr} {oc kV doc pm cdv ct : Value} {od an : Option Addr} {osl : Array (Option Value)} (KX : K.In h) (G : h.Ns mainGlobals mg) (hfa : mg "law" = some (.ref fa)) (T : Top K mg)
    (a : PySem.W.nsIn K mainGlobals "law" = some (some (.ref f))) (lk : K.lookup f = some ⟨oc, od, .func (PySem.W.fnOf "law" "law" (defArgs sLA) (defBody sLA) (defScope sLA) .none kV doc pm an cdv ct), osl⟩) (c : PySem.W.codeIn K cdv "law" = true) (k : PySem.W.keepIn K (.ref f) = true) :
    ∃ fd : FuncData, (∀ (s : Shared) (v : Value), BindsTo s fd ⟨[v], []⟩ [("_law_script", v)]) ∧ ∀ base : Heap, K.In base → base.Ns mainGlobals mg → FnOk l.prog w K mg base CX0 15 fa fd ["_law_script"] (spG SLAW K) := by
  have e := hfa.symm.trans (PySem.W.mg_of KX G a)
  cases e
  exact ⟨PySem.W.fnOf "law" "law" (defArgs sLA) (defBody sLA) (defScope sLA) .none kV doc pm an cdv ct, fun s v => .of_eq rfl, fun base _ _ => law_ok T (fun_mk lk c k)⟩
theorem walk {l : PySem.W.OpenLaw} {q : Program} {loose : List Str} {XP : (Str → Option Value) → Heap → Prop} {YP : World → Heap → Prop} {d : DefRec} {K : Params → PySem.W.Frag} (hn : l.most = some 63) (hdf : d.params.defaults = [])
    (hY : ∀ (w : World) (h : Heap), YP w h → (K w.params).In h)
    (F : ∀ (w : World) (mg : Str → Option Value) (fa : Addr) (h : Heap), (K w.params).In h → h.Ns mainGlobals mg → mg d.name = some (.ref fa) →
      ∃ fd : FuncData, (∀ (s : Shared) (u : Value), BindsTo s fd ⟨[u], []⟩ [("_law_script", u)]) ∧ ∀ base : Heap, (K w.params).In base → base.Ns mainGlobals mg → FnOk l.prog w (K w.params) mg base CX0 15 fa fd ["_law_script"] (spG SLAW (K w.params))) :
    PySem.W.WalkO q loose XP YP l.row.toRowW d [] (fun f vs => PySem.call f vs) :=
  L2.walk_ofB (n := 63) (k := 15) (x := "_law_script") (CX := fun _ => CX0) (sp := fun w => spG SLAW (K w.params)) hn (by decide) hdf ⟨rfl, by decide, by decide⟩ hY F
    (fun w H a ns hl hbits _ hS => ⟨H, [⟨rScr, ns⟩], _, Same.refl _, .cons ⟨a, rfl, hS, hl⟩ .nil, ⟨ns, rfl, hl, hbits, rfl⟩, fun v H' R' _ t => by obtain ⟨y, hy, rfl⟩ := t; exact hy⟩) fun _ _ _ _ _ z => z
end K1

set_option Elab.async false
open PySem PySem.W PyProof.Rows
theorem PySem.W.Fast.tw15712556066379720840 : True := trivial
theorem PySem.W.Fast.tw14511610420259447302 : True := trivial
theorem PySem.W.Fast.tw15400988166584392419 : True := trivial
theorem PySem.W.Fast.tw10256244395891229421 : True := trivial
theorem PySem.W.Fast.tw7627503773681644039 : True := trivial
theorem PySem.W.Fast.tw11107610476454512380 : True := trivial
theorem PySem.W.Fast.tw15876772060010085707 : True := trivial
theorem PySem.W.Fast.tw17925274396307597018 : True := trivial
theorem PySem.W.Fast.tw3951320727792867217 : True := trivial
theorem PySem.W.Fast.tw1902560695467087252 : True := trivial
theorem PySem.W.Fast.tw6555230676226292040 : True := trivial
theorem PySem.W.Fast.tw16448786151537497771 : True := trivial
theorem PySem.W.Fast.tw17930885068080961050 : True := trivial
theorem PySem.W.Fast.tw12730383750966937821 : True := trivial
theorem PySem.W.Fast.tw16427644481080509414 : True := trivial
theorem PySem.W.Fast.tw12908112955204122117 : True := trivial
theorem PySem.W.Fast.tw765155864119264986 : True := trivial
theorem PySem.W.Fast.tw5038703080353314893 : True := trivial
theorem PySem.W.Fast.tw10797503942221149279 : True := trivial
theorem PySem.W.Fast.tw14829991979183668261 : True := trivial
theorem PySem.W.Fast.tw8850335762368704144 : True := trivial
theorem PySem.W.Fast.tw4869747574722480570 : True := trivial
theorem PySem.W.Fast.tw2026368394681166869 : True := trivial
theorem PySem.W.Fast.tw14660421849642482046 : True := trivial
theorem PySem.W.Fast.tw12193846905697285390 : True := trivial
theorem PySem.W.Fast.tw15658825836210808288 : True := trivial
theorem PySem.W.Fast.tw17851850859898487207 : True := trivial
theorem PySem.W.Fast.tw1714048782774698476 : True := trivial
theorem PySem.W.Fast.tw12672409694496386944 : True := trivial
theorem PySem.W.Fast.tw7253074143227382572 : True := trivial
theorem PySem.W.Fast.tw7324397332798834475 : True := trivial
theorem PySem.W.Fast.tw8389116422261873066 : True := trivial
theorem PySem.W.Fast.tw10533715951676834389 : True := trivial
theorem PySem.W.Fast.tw14688800088374765786 : True := trivial
theorem PySem.W.Fast.tw10003931939927437404 : True := trivial
theorem PySem.W.Fast.tw2186006667458328290 : True := trivial
theorem PySem.W.Fast.tw11687625283546230440 : True := trivial
theorem PySem.W.Fast.tw15303603495498664529 : True := trivial
theorem PySem.W.Fast.tw7389388326667697812 : True := trivial
theorem PySem.W.Fast.tw9051181874766042360 : True := trivial
theorem PySem.W.Fast.tw14390101861055089954 : True := trivial
theorem PySem.W.Fast.tw15379138460766454570 : True := trivial
theorem PySem.W.Fast.tw16090574311768240668 : True := trivial
theorem PySem.W.Fast.tw3316663639043396283 : True := trivial
theorem PySem.W.Fast.tw10378646894758111227 : True := trivial
theorem PySem.W.Fast.tw4246537009405969662 : True := trivial
theorem PySem.W.Fast.tw9809531456637622 : True := trivial
theorem PySem.W.Fast.tw17704752571513526074 : True := trivial
theorem PySem.W.Fast.tw18245766470412208497 : True := trivial
theorem PySem.W.Fast.tw18125036069879463346 : True := trivial
theorem PySem.W.Fast.tw13355295308492878213 : True := trivial
theorem PySem.W.Fast.tw13713652475768208680 : True := trivial
theorem PySem.W.Fast.tw8764787039776553520 : True := trivial
theorem PySem.W.Fast.tw9592669892344947766 : True := trivial
theorem PySem.W.Fast.tw123981797571100763 : True := trivial
theorem PySem.W.Fast.tw6533399817928788014 : True := trivial
theorem PySem.W.Fast.tw17312927712958462451 : True := trivial
theorem PySem.W.Fast.tw8377462327354896991 : True := trivial
theorem PySem.W.Fast.tw5275973511514369683 : True := trivial
theorem PySem.W.Fast.tw15171808319148518464 : True := trivial
theorem PySem.W.Fast.tw13107595497992398662 : True := trivial
theorem PySem.W.Fast.tw1443263607321266709 : True := trivial
theorem PySem.W.Fast.tw6269425563816523166 : True := trivial
theorem PySem.W.Fast.tw15447367488766861723 : True := trivial
theorem PySem.W.Fast.tw170006314535996676 : True := trivial
theorem PySem.W.Fast.tw6825815082178351785 : True := trivial
theorem PySem.W.Fast.tw4890767094569815848 : True := trivial
theorem PySem.W.Fast.tw4539920140713374151 : True := trivial
theorem PySem.W.Fast.tw10664324862702875759 : True := trivial
theorem PySem.W.Fast.tw1581908561546424431 : True := trivial
theorem PySem.W.Fast.tw9492666942781182799 : True := trivial
theorem PySem.W.Fast.tw8198229082599734313 : True := trivial
theorem PySem.W.Fast.tw14584192985166091054 : True := trivial
theorem PySem.W.Fast.tw4177167422622408761 : True := trivial
theorem PySem.W.Fast.tw15776859017960709324 : True := trivial
theorem PySem.W.Fast.tw3854416354490001485 : True := trivial
theorem PySem.W.Fast.tw14534640186656759298 : True := trivial
theorem PySem.W.Fast.tw6561855410397888932 : True := trivial
theorem PySem.W.Fast.tw10643520508151658412 : True := trivial
theorem PySem.W.Fast.tw17186781647521200343 : True := trivial
theorem PySem.W.Fast.tw1071741430353758601 : True := trivial
theorem PySem.W.Fast.tw2969015540472856230 : True := trivial
theorem PySem.W.Fast.tw13110773002417628206 : True := trivial
theorem PySem.W.Fast.tw3687957503594466263 : True := trivial
theorem PySem.W.Fast.tw9314091610287702510 : True := trivial
theorem PySem.W.Fast.tw3951723747985314360 : True := trivial
theorem PySem.W.Fast.tw14590122362432127986 : True := trivial
theorem PySem.W.Fast.tw3955248257549397795 : True := trivial
theorem PySem.W.Fast.tw13582626152526454700 : True := trivial
theorem PySem.W.Fast.tw11229596100378229913 : True := trivial
theorem PySem.W.Fast.tw12891509206324049879 : True := trivial
theorem PySem.W.Fast.tw10117356889252847760 : True := trivial
theorem PySem.W.Fast.tw6546997265528789188 : True := trivial
theorem PySem.W.Fast.tw4797816714955377663 : True := trivial
theorem PySem.W.Fast.tw3775971159636485302 : True := trivial
theorem PySem.W.Fast.tw779455393423342053 : True := trivial
theorem PySem.W.Fast.tw10672279540956175737 : True := trivial
theorem PySem.W.Fast.tw488675002659228197 : True := trivial
theorem PySem.W.Fast.tw16934164300340204815 : True := trivial
theorem PySem.W.Fast.tw15038218672802542545 : True := trivial
theorem PySem.W.Fast.tw8760726016042976579 : True := trivial
theorem PySem.W.Fast.tw16351827126324648354 : True := trivial
theorem PySem.W.Fast.tw6308312326565311676 : True := trivial
theorem PySem.W.Fast.tw17814428072923033747 : True := trivial
theorem PySem.W.Fast.tw8922777509869734008 : True := trivial
theorem PySem.W.Fast.tw8759588370192507962 : True := trivial
theorem PySem.W.Fast.tw13540494056669849839 : True := trivial
theorem PySem.W.Fast.tw2569198720960310652 : True := trivial
theorem PySem.W.Fast.tw16923804801130262853 : True := trivial
theorem PySem.W.Fast.tw1050831830587477239 : True := trivial
theorem PySem.W.Fast.tw1276353109941121799 : True := trivial
theorem PySem.W.Fast.tw13638762868739701881 : True := trivial
theorem PySem.W.Fast.tw3848813933434025805 : True := trivial
theorem PySem.W.Fast.tw2504990982422246509 : True := trivial
theorem PySem.W.Fast.tw16791016287338275033 : True := trivial
theorem PySem.W.Fast.tw8396185458421647748 : True := trivial
theorem PySem.W.Fast.tw15122243264221629132 : True := trivial
theorem PySem.W.Fast.tw2433049925466387139 : True := trivial
theorem PySem.W.Fast.tw14255312100735165813 : True := trivial
theorem PySem.W.Fast.tw12869368452223237822 : True := trivial
theorem PySem.W.Fast.tw12591881212242542571 : True := trivial
theorem PySem.W.Fast.tw17179556830205349979 : True := trivial
theorem PySem.W.Fast.tw7017536005685691830 : True := trivial
theorem PySem.W.Fast.tw9747968131172421715 : True := trivial
theorem PySem.W.Fast.tw14534398219176311564 : True := trivial
theorem PySem.W.Fast.tw6670731681445174260 : True := trivial
theorem PySem.W.Fast.tw13538093734122835712 : True := trivial
theorem PySem.W.Fast.tw6122874371687457083 : True := trivial
theorem PySem.W.Fast.tw4796556365345450283 : True := trivial
theorem PySem.W.Fast.tw8892199098789906108 : True := trivial
theorem PySem.W.Fast.tw11008024153838469140 : True := trivial
theorem PySem.W.Fast.tw4045687851038778310 : True := trivial
theorem PySem.W.Fast.tw12613956452799547755 : True := trivial
theorem PySem.W.Fast.tw2947870282850415454 : True := trivial
theorem PySem.W.Fast.tw7332369812815071426 : True := trivial
theorem PySem.W.Fast.tw6618099011388687207 : True := trivial
theorem PySem.W.Fast.tw6463250385502214171 : True := trivial
theorem PySem.W.Fast.tw13255562950151580217 : True := trivial
theorem PySem.W.Fast.tw17814438289008158338 : True := trivial
theorem PySem.W.Fast.tw18345706835623589287 : True := trivial
theorem PySem.W.Fast.tw11572089499455030621 : True := trivial
theorem PySem.W.Fast.tw17340872113870640234 : True := trivial
theorem PySem.W.Fast.tw2973516480588704562 : True := trivial
theorem PySem.W.Fast.tw12244268812136444695 : True := trivial
theorem PySem.W.Fast.tw3125114540275339092 : True := trivial
theorem PySem.W.Fast.tw624697475177238518 : True := trivial
theorem PySem.W.Fast.tw16854925786303727001 : True := trivial
theorem PySem.W.Fast.tw4631737857623223508 : True := trivial
theorem PySem.W.Fast.tw17915443503637447174 : True := trivial
theorem PySem.W.Fast.tw14291462280719892657 : True := trivial
theorem PySem.W.Fast.tw1407132877101794747 : True := trivial
theorem PySem.W.Fast.tw7389582064792064473 : True := trivial
theorem PySem.W.Fast.tw12073687125400878832 : True := trivial
theorem PySem.W.Fast.tw12721961330496372115 : True := trivial
theorem PySem.W.Fast.tw9912677675687287227 : True := trivial
theorem PySem.W.Fast.tw3053648179906534791 : True := trivial
theorem PySem.W.Fast.tw13212307913559644551 : True := trivial
theorem PySem.W.Fast.tw17109499162001824016 : True := trivial
theorem PySem.W.Fast.tw7405850491965127295 : True := trivial
theorem PySem.W.Fast.tw4869282833544882076 : True := trivial
theorem PySem.W.Fast.tw18215377705627575232 : True := trivial
theorem PySem.W.Fast.tw2871092009763477492 : True := trivial
theorem PySem.W.Fast.tw10801581318938899510 : True := trivial
theorem PySem.W.Fast.tw4786675992482707350 : True := trivial
theorem PySem.W.Fast.tw7984026033836862280 : True := trivial
theorem PySem.W.Fast.tw1057382530258610234 : True := trivial
theorem PySem.W.Fast.tw12474031982061612443 : True := trivial
theorem PySem.W.Fast.tw11837418780197117339 : True := trivial
theorem PySem.W.Fast.tw16643932820667543664 : True := trivial
theorem PySem.W.Fast.tw4495297151294022948 : True := trivial
theorem PySem.W.Fast.tw1708359646956754660 : True := trivial
theorem PySem.W.Fast.tw12181715198422771945 : True := trivial
theorem PySem.W.Fast.tw14425509516134001236 : True := trivial
theorem PySem.W.Fast.tw10392404723868893898 : True := trivial
theorem PySem.W.Fast.tw8469403837213545349 : True := trivial
theorem PySem.W.Fast.tw310644349411513479 : True := trivial
theorem PySem.W.Fast.tw14692042009119721918 : True := trivial
theorem PySem.W.Fast.tw17442613520618311178 : True := trivial
theorem PySem.W.Fast.tw9602753192904728152 : True := trivial
theorem PySem.W.Fast.tw16997383554138408322 : True := trivial
theorem PySem.W.Fast.tw17532762503117313068 : True := trivial
theorem PySem.W.Fast.tw13943635789733102744 : True := trivial
theorem PySem.W.Fast.tw9722723727839010345 : True := trivial
theorem PySem.W.Fast.tw2071710256163773251 : True := trivial
theorem PySem.W.Fast.tw16336707417231125460 : True := trivial
theorem PySem.W.Fast.tw7932173780673295835 : True := trivial
theorem PySem.W.Fast.tw1836433797184400315 : True := trivial
theorem PySem.W.Fast.tw4624827090039839757 : True := trivial
theorem PySem.W.Fast.tw13759245195036092048 : True := trivial
theorem PySem.W.Fast.tw17563187663666707598 : True := trivial
theorem PySem.W.Fast.tw15940054605165601264 : True := trivial
theorem PySem.W.Fast.tw1092330578248089675 : True := trivial
theorem PySem.W.Fast.tw6252996091652908295 : True := trivial
theorem PySem.W.Fast.tw6623220385106776089 : True := trivial
theorem PySem.W.Fast.tw10471651569267119108 : True := trivial
theorem PySem.W.Fast.tw6947724862055629526 : True := trivial
theorem PySem.W.Fast.tw870730612804133182 : True := trivial
theorem PySem.W.Fast.tw911902087784288498 : True := trivial
theorem PySem.W.Fast.tw1298666566479765566 : True := trivial
theorem PySem.W.Fast.tw8860578351531666951 : True := trivial
theorem PySem.W.Fast.tw14091998386876519235 : True := trivial
theorem PySem.W.Fast.tw2573326666761833972 : True := trivial
theorem PySem.W.Fast.tw17019750511179452293 : True := trivial
theorem PySem.W.Fast.tw13741477844915143943 : True := trivial
theorem PySem.W.Fast.tw13144995290625498014 : True := trivial
theorem PySem.W.Fast.tw1817891007200440947 : True := trivial
theorem PySem.W.Fast.tw17956575005285210450 : True := trivial
theorem PySem.W.Fast.tw9968600482100281675 : True := trivial
theorem PySem.W.Fast.tw1863041806054215630 : True := trivial
theorem PySem.W.Fast.tw18406336638028018170 : True := trivial
theorem PySem.W.Fast.tw18353584688329327162 : True := trivial
theorem PySem.W.Fast.tw7493678418247644441 : True := trivial
theorem PySem.W.Fast.tw4400101531744303568 : True := trivial
theorem PySem.W.Fast.tw15457472622872270893 : True := trivial
theorem PySem.W.Fast.tw1236670306542008827 : True := trivial
theorem PySem.W.Fast.tw9824310346204381166 : True := trivial
theorem PySem.W.Fast.tw15652431273490033571 : True := trivial
theorem PySem.W.Fast.tw15609918333014310317 : True := trivial
theorem PySem.W.Fast.tw1725316733507015124 : True := trivial
theorem PySem.W.Fast.tw5977825433259203920 : True := trivial
theorem PySem.W.Fast.tw4670673103610654865 : True := trivial
theorem PySem.W.Fast.tw1602546782731767763 : True := trivial
theorem PySem.W.Fast.tw13014017098170555977 : True := trivial
theorem PySem.W.Fast.tw10413644279968501219 : True := trivial
theorem PySem.W.Fast.tw15920322653061702680 : True := trivial
theorem PySem.W.Fast.tw14164433028264442538 : True := trivial
theorem PySem.W.Fast.tw6974660808991682614 : True := trivial
theorem PySem.W.Fast.tw13782107880849520826 : True := trivial
theorem PySem.W.Fast.tw2282510378781907419 : True := trivial
theorem PySem.W.Fast.tw1318900501157302402 : True := trivial
theorem PySem.W.Fast.tw3973545207802844389 : True := trivial
theorem PySem.W.Fast.tw15688317794868856588 : True := trivial
theorem PySem.W.Fast.tw17306435274717526417 : True := trivial
theorem PySem.W.Fast.tw11594110270636048418 : True := trivial
theorem PySem.W.Fast.tw17258775350324591834 : True := trivial
theorem PySem.W.Fast.tw3862486990408594454 : True := trivial
theorem PySem.W.Fast.tw4072268932795226899 : True := trivial
theorem PySem.W.Fast.tw5749553908456616804 : True := trivial
theorem PySem.W.Fast.tw13116027738594174728 : True := trivial
theorem PySem.W.Fast.tw1712536439472395398 : True := trivial
theorem PySem.W.Fast.tw3641141555088751388 : True := trivial
theorem PySem.W.Fast.tw15269834992212171239 : True := trivial
theorem PySem.W.Fast.tw8110743450935283453 : True := trivial
theorem PySem.W.Fast.tw2642010899642520215 : True := trivial
theorem PySem.W.Fast.tw13531054887944644063 : True := trivial
theorem PySem.W.Fast.tw4607437670746604442 : True := trivial
theorem PySem.W.Fast.tw3676672055451704210 : True := trivial
theorem PySem.W.Fast.tw6574265602485748275 : True := trivial
theorem PySem.W.Fast.tw2006714960135231792 : True := trivial
theorem PySem.W.Fast.tw7688937479733473855 : True := trivial
theorem PySem.W.Fast.tw2195220567043371119 : True := trivial
theorem PySem.W.Fast.tw10473300549895887161 : True := trivial
theorem PySem.W.Fast.tw17592355554303592242 : True := trivial
theorem PySem.W.Fast.tw13586141852288610936 : True := trivial
theorem PySem.W.Fast.tw9455989397626578573 : True := trivial
theorem PySem.W.Fast.tw1745295537675074865 : True := trivial
theorem PySem.W.Fast.tw2664340295661385372 : True := trivial
theorem PySem.W.Fast.tw16899613879298537237 : True := trivial
theorem PySem.W.Fast.tw6679757898880570942 : True := trivial
theorem PySem.W.Fast.tw3676695326572658652 : True := trivial
theorem PySem.W.Fast.tw2904009853296033416 : True := trivial
theorem PySem.W.Fast.tw5781592825336986697 : True := trivial
theorem PySem.W.Fast.tw14839881475543474214 : True := trivial
theorem PySem.W.Fast.tw15441175291660747169 : True := trivial
theorem PySem.W.Fast.tw14902463754473884584 : True := trivial
theorem PySem.W.Fast.tw4402799460007268125 : True := trivial
theorem PySem.W.Fast.tw16197389735906828852 : True := trivial
theorem PySem.W.Fast.tw14044458409737825793 : True := trivial
theorem PySem.W.Fast.tw960437707935696671 : True := trivial
theorem PySem.W.Fast.tw15327908610512831369 : True := trivial
theorem PySem.W.Fast.tw16129795778667755636 : True := trivial
theorem PySem.W.Fast.tw4494145779098110456 : True := trivial
theorem PySem.W.Fast.tw4028693641559094063 : True := trivial
theorem PySem.W.Fast.tw7859170520747753947 : True := trivial
theorem PySem.W.Fast.tw10531119287497957843 : True := trivial
theorem PySem.W.Fast.tw1215208036147203611 : True := trivial
theorem PySem.W.Fast.tw14414823010540222704 : True := trivial
theorem PySem.W.Fast.tw5273952603092694937 : True := trivial
theorem PySem.W.Fast.tw7366729706315743227 : True := trivial
theorem PySem.W.Fast.tw11958455759305110093 : True := trivial
theorem PySem.W.Fast.tw13004789685699020178 : True := trivial
theorem PySem.W.Fast.tw14804325168975485615 : True := trivial
theorem PySem.W.Fast.tw15697702380579747740 : True := trivial
theorem PySem.W.Fast.tw12394451939873529265 : True := trivial
theorem PySem.W.Fast.tw5416467165460782894 : True := trivial
theorem PySem.W.Fast.tw13662475661824833937 : True := trivial
theorem PySem.W.Fast.tw17417016809408947809 : True := trivial
theorem PySem.W.Fast.tw15373697012751085883 : True := trivial
theorem PySem.W.Fast.tw13498869856459350713 : True := trivial
theorem PySem.W.Fast.tw11671871126563966591 : True := trivial
theorem PySem.W.Fast.tw1174480586719140006 : True := trivial
theorem PySem.W.Fast.tw15916804246091242521 : True := trivial
theorem PySem.W.Fast.tw623795548230813066 : True := trivial
theorem PySem.W.Fast.tw13571929325812769724 : True := trivial
theorem PySem.W.Fast.tw12846548250781944851 : True := trivial
theorem PySem.W.Fast.tw15690985984638743788 : True := trivial
theorem PySem.W.Fast.tw1678155815663446949 : True := trivial
theorem PySem.W.Fast.tw15392628012395503154 : True := trivial
theorem PySem.W.Fast.tw8628442955627761632 : True := trivial
theorem PySem.W.Fast.tw3088149901943658291 : True := trivial
set_option maxRecDepth 100000 in
set_option maxHeartbeats 0 in
theorem PySem.Challenge.cw_fewcounters_k02_no_webs_refused_holds : PySem.Challenge.rw_fewcounters_k02_no_webs_refused.Holds := by
  w_on; o_law; k_head; (case hw => w_witness2)
  k_fill
  refine K1.walk (l := PySem.Challenge.rw_fewcounters_k02_no_webs_refused) rfl rfl (fun w h Y => PySem.W.km_in_of Y) ?F
  case F =>
    intro w mg fa h KX G hmg
    have M : K1.Mods mg := by
      refine' K1.mods_mk KX G ?a1 ?a2 ?a3 ?a4 ?a5 ?a6 ?a7 ?a8 ?b1 ?b2 ?b3 ?b4 ?b5 ?b6 ?b7 ?b8 ?b9 ?b10 ?b11 ?b12 ?b13 ?b14 ?b15 ?b16
      (case a1 => k_is); (case a2 => k_is); (case a3 => k_is); (case a4 => k_is); (case a5 => k_is); (case a6 => k_is); (case a7 => k_is); (case a8 => k_is); (case b1 => k_is); (case b2 => k_is); (case b3 => k_is); (case b4 => k_is); (case b5 => k_is); (case b6 => k_is); (case b7 => k_is); (case b8 => k_is); (case b9 => k_is); (case b10 => k_is); (case b11 => k_is); (case b12 => k_is); (case b13 => k_is); (case b14 => k_is); (case b15 => k_is); (case b16 => k_is)
    have DX : ∃ C, K1.Excs8 (L2.KOf KX) mg C := by
      dsimp only [L2.KOf]
      refine' K1.excs_mk KX G ?e1 ?e2 ?f1 ?f2 ?f3 ?f4 ?f5 ?f6 ?f7 ?f8 ?e6 ?q1 ?q2 ?r0 ?r1 ?r2 ?r3 ?r4 ?r5 ?r7 ?r6 ?q4 ?q5 ?q6
      (case e1 => k_is); (case e2 => k_is); (case f1 => k_is); (case f2 => k_is); (case f3 => k_is); (case f4 => k_is); (case f5 => k_is); (case f6 => k_is); (case f7 => k_is); (case f8 => k_is); (case e6 => k_is); (case q1 => k_exc); (case q2 => kts_exm); (case r0 => k_is); (case r1 => k_is); (case r2 => k_is); (case r3 => k_is); (case r4 => k_is); (case r5 => k_is); (case r7 => k_is); (case r6 => k_is); (case q4 => kit_is); (case q5 => kit_is); (case q6 => kit_is)
    have DIW : Fc.Def (L2.KOf KX) mg "is_whole" K1.sIW ["value"] := by
      dsimp only [L2.KOf]
      refine' Fc.def_mk KX G ?a ?l ?c ?k ?b
      (case a => k_is); (case l => k_is); (case c => k_is); (case k => k_is); (case b => exact fun _ _ _ _ _ _ us hl => match us, hl with | [_], _ => rfl)
    have DAW : Fc.Def (L2.KOf KX) mg "are_whole" K1.sAW ["values"] := by
      dsimp only [L2.KOf]
      refine' Fc.def_mk KX G ?a ?l ?c ?k ?b
      (case a => k_is); (case l => k_is); (case c => k_is); (case k => k_is); (case b => exact fun _ _ _ _ _ _ us hl => match us, hl with | [_], _ => rfl)
    have DRF : Fc.Def (L2.KOf KX) mg "has_row_form" K1.sRF ["row"] := by
      dsimp only [L2.KOf]
      refine' Fc.def_mk KX G ?a ?l ?c ?k ?b
      (case a => k_is); (case l => k_is); (case c => k_is); (case k => k_is); (case b => exact fun _ _ _ _ _ _ us hl => match us, hl with | [_], _ => rfl)
    have DWF : Fc.Def (L2.KOf KX) mg "has_web_form" K1.sWF ["web"] := by
      dsimp only [L2.KOf]
      refine' Fc.def_mk KX G ?a ?l ?c ?k ?b
      (case a => k_is); (case l => k_is); (case c => k_is); (case k => k_is); (case b => exact fun _ _ _ _ _ _ us hl => match us, hl with | [_], _ => rfl)
    have DWZ : Fc.Def (L2.KOf KX) mg "has_web_sizes" K1.sWZ ["web"] := by
      dsimp only [L2.KOf]
      refine' Fc.def_mk KX G ?a ?l ?c ?k ?b
      (case a => k_is); (case l => k_is); (case c => k_is); (case k => k_is); (case b => exact fun _ _ _ _ _ _ us hl => match us, hl with | [_], _ => rfl)
    have DLW : Fc.Def (L2.KOf KX) mg "leads_within" K1.sLW ["places", "row"] := by
      dsimp only [L2.KOf]
      refine' Fc.def_mk KX G ?a ?l ?c ?k ?b
      (case a => k_is); (case l => k_is); (case c => k_is); (case k => k_is); (case b => exact fun _ _ _ _ _ _ us hl => match us, hl with | [_, _], _ => rfl)
    have DIC : Fc.Def (L2.KOf KX) mg "is_called" K1.sIC ["rows", "part"] := by
      dsimp only [L2.KOf]
      refine' Fc.def_mk KX G ?a ?l ?c ?k ?b
      (case a => k_is); (case l => k_is); (case c => k_is); (case k => k_is); (case b => exact fun _ _ _ _ _ _ us hl => match us, hl with | [_, _], _ => rfl)
    have DRE : Fc.Def (L2.KOf KX) mg "reached" K1.sRE ["leads", "start"] := by
      dsimp only [L2.KOf]
      refine' Fc.def_mk KX G ?a ?l ?c ?k ?b
      (case a => k_is); (case l => k_is); (case c => k_is); (case k => k_is); (case b => exact fun _ _ _ _ _ _ us hl => match us, hl with | [_, _], _ => rfl)
    have DLO : Fc.Def (L2.KOf KX) mg "lies_on_ways" K1.sLO ["rows", "part", "size"] := by
      dsimp only [L2.KOf]
      refine' Fc.def_mk KX G ?a ?l ?c ?k ?b
      (case a => k_is); (case l => k_is); (case c => k_is); (case k => k_is); (case b => exact fun _ _ _ _ _ _ us hl => match us, hl with | [_, _, _], _ => rfl)
    have DWE : Fc.Def (L2.KOf KX) mg "is_web" K1.sWE ["web"] := by
      dsimp only [L2.KOf]
      refine' Fc.def_mk KX G ?a ?l ?c ?k ?b
      (case a => k_is); (case l => k_is); (case c => k_is); (case k => k_is); (case b => exact fun _ _ _ _ _ _ us hl => match us, hl with | [_], _ => rfl)
    have DNWx : Fc.Def (L2.KOf KX) mg "need_web" K1.sNWx ["web"] := by
      dsimp only [L2.KOf]
      refine' Fc.def_mk KX G ?a ?l ?c ?k ?b
      (case a => k_is); (case l => k_is); (case c => k_is); (case k => k_is); (case b => exact fun _ _ _ _ _ _ us hl => match us, hl with | [_], _ => rfl)
    have DIRx : Fc.Def (L2.KOf KX) mg "is_run" K1.sIRx ["web", "rows"] := by
      dsimp only [L2.KOf]
      refine' Fc.def_mk KX G ?a ?l ?c ?k ?b
      (case a => k_is); (case l => k_is); (case c => k_is); (case k => k_is); (case b => exact fun _ _ _ _ _ _ us hl => match us, hl with | [_, _], _ => rfl)
    have DSTx : Fc.Def (L2.KOf KX) mg "stood" K1.sSTx ["web", "rows"] := by
      dsimp only [L2.KOf]
      refine' Fc.def_mk KX G ?a ?l ?c ?k ?b
      (case a => k_is); (case l => k_is); (case c => k_is); (case k => k_is); (case b => exact fun _ _ _ _ _ _ us hl => match us, hl with | [_, _], _ => rfl)
    have DCOx : Fc.Def (L2.KOf KX) mg "counts" K1.sCOx ["web", "heap"] := by
      dsimp only [L2.KOf]
      refine' Fc.def_mk KX G ?a ?l ?c ?k ?b
      (case a => k_is); (case l => k_is); (case c => k_is); (case k => k_is); (case b => exact fun _ _ _ _ _ _ us hl => match us, hl with | [_, _], _ => rfl)
    have DRLx : Fc.Def (L2.KOf KX) mg "relations" K1.sRLx ["web"] := by
      dsimp only [L2.KOf]
      refine' Fc.def_mk KX G ?a ?l ?c ?k ?b
      (case a => k_is); (case l => k_is); (case c => k_is); (case k => k_is); (case b => exact fun _ _ _ _ _ _ us hl => match us, hl with | [_], _ => rfl)
    have DACx : Fc.Def (L2.KOf KX) mg "are_counts" K1.sACx ["web", "numbers"] := by
      dsimp only [L2.KOf]
      refine' Fc.def_mk KX G ?a ?l ?c ?k ?b
      (case a => k_is); (case l => k_is); (case c => k_is); (case k => k_is); (case b => exact fun _ _ _ _ _ _ us hl => match us, hl with | [_, _], _ => rfl)
    have DHFx : Fc.Def (L2.KOf KX) mg "heap_of" K1.sHFx ["web", "numbers"] := by
      dsimp only [L2.KOf]
      refine' Fc.def_mk KX G ?a ?l ?c ?k ?b
      (case a => k_is); (case l => k_is); (case c => k_is); (case k => k_is); (case b => exact fun _ _ _ _ _ _ us hl => match us, hl with | [_, _], _ => rfl)
    have DJUx : Fc.Def (L2.KOf KX) mg "judged" K1.sJUx ["web", "plan"] := by
      dsimp only [L2.KOf]
      refine' Fc.def_mk KX G ?a ?l ?c ?k ?b
      (case a => k_is); (case l => k_is); (case c => k_is); (case k => k_is); (case b => exact fun _ _ _ _ _ _ us hl => match us, hl with | [_, _], _ => rfl)
    have DPFx : Fc.Def (L2.KOf KX) mg "plan_for" K1.sPFx ["web", "guesses"] := by
      dsimp only [L2.KOf]
      refine' Fc.def_mk KX G ?a ?l ?c ?k ?b
      (case a => k_is); (case l => k_is); (case c => k_is); (case k => k_is); (case b => exact fun _ _ _ _ _ _ us hl => match us, hl with | [_, _], _ => rfl)
    have DCSx : Fc.Def (L2.KOf KX) mg "cost" K1.sCSx ["web", "choice", "guesses"] := by
      dsimp only [L2.KOf]
      refine' Fc.def_mk KX G ?a ?l ?c ?k ?b
      (case a => k_is); (case l => k_is); (case c => k_is); (case k => k_is); (case b => exact fun _ _ _ _ _ _ us hl => match us, hl with | [_, _, _], _ => rfl)
    have DIEx : Fc.Def (L2.KOf KX) mg "is_enough" K1.sIEx ["web", "choice"] := by
      dsimp only [L2.KOf]
      refine' Fc.def_mk KX G ?a ?l ?c ?k ?b
      (case a => k_is); (case l => k_is); (case c => k_is); (case k => k_is); (case b => exact fun _ _ _ _ _ _ us hl => match us, hl with | [_, _], _ => rfl)
    have DTWx : Fc.Def (L2.KOf KX) mg "twins" K1.sTWx ["web", "choice"] := by
      dsimp only [L2.KOf]
      refine' Fc.def_mk KX G ?a ?l ?c ?k ?b
      (case a => k_is); (case l => k_is); (case c => k_is); (case k => k_is); (case b => exact fun _ _ _ _ _ _ us hl => match us, hl with | [_, _], _ => rfl)
    have DSDx : Fc.Def (L2.KOf KX) mg "stopped" K1.sSDx ["web", "stops"] := by
      dsimp only [L2.KOf]
      refine' Fc.def_mk KX G ?a ?l ?c ?k ?b
      (case a => k_is); (case l => k_is); (case c => k_is); (case k => k_is); (case b => exact fun _ _ _ _ _ _ us hl => match us, hl with | [_, _], _ => rfl)
    have DRFk : Fc.Def (L2.KOf KX) mg "read_from" K1.sRFk ["web", "plan", "marks", "at_stops"] := by
      dsimp only [L2.KOf]
      refine' Fc.def_mk KX G ?a ?l ?c ?k ?b
      (case a => k_is); (case l => k_is); (case c => k_is); (case k => k_is); (case b => exact fun _ _ _ _ _ _ us hl => match us, hl with | [_, _, _, _], _ => rfl)
    have DRBx : Fc.Def (L2.KOf KX) mg "read_back" K1.sRBx ["web", "plan", "marks", "stops"] := by
      dsimp only [L2.KOf]
      refine' Fc.def_mk KX G ?a ?l ?c ?k ?b
      (case a => k_is); (case l => k_is); (case c => k_is); (case k => k_is); (case b => exact fun _ _ _ _ _ _ us hl => match us, hl with | [_, _, _, _], _ => rfl)
    have DNPx : Fc.Def (L2.KOf KX) mg "need_part" K1.sNPx ["web", "part"] := by
      dsimp only [L2.KOf]
      refine' Fc.def_mk KX G ?a ?l ?c ?k ?b
      (case a => k_is); (case l => k_is); (case c => k_is); (case k => k_is); (case b => exact fun _ _ _ _ _ _ us hl => match us, hl with | [_, _], _ => rfl)
    have DILx : Fc.Def (L2.KOf KX) mg "is_loose" K1.sILx ["web", "part"] := by
      dsimp only [L2.KOf]
      refine' Fc.def_mk KX G ?a ?l ?c ?k ?b
      (case a => k_is); (case l => k_is); (case c => k_is); (case k => k_is); (case b => exact fun _ _ _ _ _ _ us hl => match us, hl with | [_, _], _ => rfl)
    have DNOx : Fc.Def (L2.KOf KX) mg "need_loose" K1.sNOx ["web", "part"] := by
      dsimp only [L2.KOf]
      refine' Fc.def_mk KX G ?a ?l ?c ?k ?b
      (case a => k_is); (case l => k_is); (case c => k_is); (case k => k_is); (case b => exact fun _ _ _ _ _ _ us hl => match us, hl with | [_, _], _ => rfl)
    have DWYx : Fc.Def (L2.KOf KX) mg "ways" K1.sWYx ["web", "part"] := by
      dsimp only [L2.KOf]
      refine' Fc.def_mk KX G ?a ?l ?c ?k ?b
      (case a => k_is); (case l => k_is); (case c => k_is); (case k => k_is); (case b => exact fun _ _ _ _ _ _ us hl => match us, hl with | [_, _], _ => rfl)
    have DWTx : Fc.Def (L2.KOf KX) mg "worths" K1.sWTx ["web", "part"] := by
      dsimp only [L2.KOf]
      refine' Fc.def_mk KX G ?a ?l ?c ?k ?b
      (case a => k_is); (case l => k_is); (case c => k_is); (case k => k_is); (case b => exact fun _ _ _ _ _ _ us hl => match us, hl with | [_, _], _ => rfl)
    have DSPx : Fc.Def (L2.KOf KX) mg "steps" K1.sSPx ["web", "part"] := by
      dsimp only [L2.KOf]
      refine' Fc.def_mk KX G ?a ?l ?c ?k ?b
      (case a => k_is); (case l => k_is); (case c => k_is); (case k => k_is); (case b => exact fun _ _ _ _ _ _ us hl => match us, hl with | [_, _], _ => rfl)
    have DNUx : Fc.Def (L2.KOf KX) mg "number_of" K1.sNUx ["web", "part", "way"] := by
      dsimp only [L2.KOf]
      refine' Fc.def_mk KX G ?a ?l ?c ?k ?b
      (case a => k_is); (case l => k_is); (case c => k_is); (case k => k_is); (case b => exact fun _ _ _ _ _ _ us hl => match us, hl with | [_, _, _], _ => rfl)
    have DWOx : Fc.Def (L2.KOf KX) mg "way_of" K1.sWOx ["web", "part", "number"] := by
      dsimp only [L2.KOf]
      refine' Fc.def_mk KX G ?a ?l ?c ?k ?b
      (case a => k_is); (case l => k_is); (case c => k_is); (case k => k_is); (case b => exact fun _ _ _ _ _ _ us hl => match us, hl with | [_, _, _], _ => rfl)
    have DCUx : Fc.Def (L2.KOf KX) mg "cuts" K1.sCUx ["web", "part"] := by
      dsimp only [L2.KOf]
      refine' Fc.def_mk KX G ?a ?l ?c ?k ?b
      (case a => k_is); (case l => k_is); (case c => k_is); (case k => k_is); (case b => exact fun _ _ _ _ _ _ us hl => match us, hl with | [_, _], _ => rfl)
    have DLYx : Fc.Def (L2.KOf KX) mg "laid_out" K1.sLYx ["web", "part"] := by
      dsimp only [L2.KOf]
      refine' Fc.def_mk KX G ?a ?l ?c ?k ?b
      (case a => k_is); (case l => k_is); (case c => k_is); (case k => k_is); (case b => exact fun _ _ _ _ _ _ us hl => match us, hl with | [_, _], _ => rfl)
    have DSWx : Fc.Def (L2.KOf KX) mg "stretch_web" K1.sSWx ["web", "part"] := by
      dsimp only [L2.KOf]
      refine' Fc.def_mk KX G ?a ?l ?c ?k ?b
      (case a => k_is); (case l => k_is); (case c => k_is); (case k => k_is); (case b => exact fun _ _ _ _ _ _ us hl => match us, hl with | [_, _], _ => rfl)
    have DSHx : Fc.Def (L2.KOf KX) mg "stretches" K1.sSHx ["web", "part", "rows"] := by
      dsimp only [L2.KOf]
      refine' Fc.def_mk KX G ?a ?l ?c ?k ?b
      (case a => k_is); (case l => k_is); (case c => k_is); (case k => k_is); (case b => exact fun _ _ _ _ _ _ us hl => match us, hl with | [_, _, _], _ => rfl)
    have DCBx : Fc.Def (L2.KOf KX) mg "counts_by" K1.sCBx ["web", "part", "numbers"] := by
      dsimp only [L2.KOf]
      refine' Fc.def_mk KX G ?a ?l ?c ?k ?b
      (case a => k_is); (case l => k_is); (case c => k_is); (case k => k_is); (case b => exact fun _ _ _ _ _ _ us hl => match us, hl with | [_, _, _], _ => rfl)
    have DCHx : Fc.Def (L2.KOf KX) mg "chains" K1.sCHx ["web"] := by
      dsimp only [L2.KOf]
      refine' Fc.def_mk KX G ?a ?l ?c ?k ?b
      (case a => k_is); (case l => k_is); (case c => k_is); (case k => k_is); (case b => exact fun _ _ _ _ _ _ us hl => match us, hl with | [_], _ => rfl)
    have DOSx : Fc.Def (L2.KOf KX) mg "offsets" K1.sOSx ["web"] := by
      dsimp only [L2.KOf]
      refine' Fc.def_mk KX G ?a ?l ?c ?k ?b
      (case a => k_is); (case l => k_is); (case c => k_is); (case k => k_is); (case b => exact fun _ _ _ _ _ _ us hl => match us, hl with | [_], _ => rfl)
    have DCNx : Fc.Def (L2.KOf KX) mg "chain_number" K1.sCNx ["web", "chain"] := by
      dsimp only [L2.KOf]
      refine' Fc.def_mk KX G ?a ?l ?c ?k ?b
      (case a => k_is); (case l => k_is); (case c => k_is); (case k => k_is); (case b => exact fun _ _ _ _ _ _ us hl => match us, hl with | [_, _], _ => rfl)
    have DCFx : Fc.Def (L2.KOf KX) mg "chain_of" K1.sCFx ["web", "part", "number"] := by
      dsimp only [L2.KOf]
      refine' Fc.def_mk KX G ?a ?l ?c ?k ?b
      (case a => k_is); (case l => k_is); (case c => k_is); (case k => k_is); (case b => exact fun _ _ _ _ _ _ us hl => match us, hl with | [_, _, _], _ => rfl)
    have DMX : Fc.Def (L2.KOf KX) mg "_law_mix" K1.sMX ["_law_number", "_law_k"] := by
      dsimp only [L2.KOf]
      refine' Fc.def_mk KX G ?a ?l ?c ?k ?b
      (case a => k_is); (case l => k_is); (case c => k_is); (case k => k_is); (case b => exact fun _ _ _ _ _ _ us hl => match us, hl with | [_, _], _ => rfl)
    have DCA : Fc.Def (L2.KOf KX) mg "_law_cell_at" K1.sCA ["_law_script", "_law_k"] := by
      dsimp only [L2.KOf]
      refine' Fc.def_mk KX G ?a ?l ?c ?k ?b
      (case a => k_is); (case l => k_is); (case c => k_is); (case k => k_is); (case b => exact fun _ _ _ _ _ _ us hl => match us, hl with | [_, _], _ => rfl)
    have DLF : Fc.Def (L2.KOf KX) mg "_law_left" K1.sLF ["_law_script", "_law_k"] := by
      dsimp only [L2.KOf]
      refine' Fc.def_mk KX G ?a ?l ?c ?k ?b
      (case a => k_is); (case l => k_is); (case c => k_is); (case k => k_is); (case b => exact fun _ _ _ _ _ _ us hl => match us, hl with | [_, _], _ => rfl)
    have DDR : Fc.Def (L2.KOf KX) mg "_law_draw" K1.sDR ["_law_left_here", "_law_base"] := by
      dsimp only [L2.KOf]
      refine' Fc.def_mk KX G ?a ?l ?c ?k ?b
      (case a => k_is); (case l => k_is); (case c => k_is); (case k => k_is); (case b => exact fun _ _ _ _ _ _ us hl => match us, hl with | [_, _], _ => rfl)
    have DPT : Fc.Def (L2.KOf KX) mg "_law_part" K1.sPT ["_law_left_here", "_law_most"] := by
      dsimp only [L2.KOf]
      refine' Fc.def_mk KX G ?a ?l ?c ?k ?b
      (case a => k_is); (case l => k_is); (case c => k_is); (case k => k_is); (case b => exact fun _ _ _ _ _ _ us hl => match us, hl with | [_, _], _ => rfl)
    have DWB : Fc.Def (L2.KOf KX) mg "_law_web" K1.sWB ["_law_script", "_law_parts_most", "_law_most"] := by
      dsimp only [L2.KOf]
      refine' Fc.def_mk KX G ?a ?l ?c ?k ?b
      (case a => k_is); (case l => k_is); (case c => k_is); (case k => k_is); (case b => exact fun _ _ _ _ _ _ us hl => match us, hl with | [_, _, _], _ => rfl)
    have DCP : Fc.Def (L2.KOf KX) mg "_law_copy" K1.sCP ["_law_web_here"] := by
      dsimp only [L2.KOf]
      refine' Fc.def_mk KX G ?a ?l ?c ?k ?b
      (case a => k_is); (case l => k_is); (case c => k_is); (case k => k_is); (case b => exact fun _ _ _ _ _ _ us hl => match us, hl with | [_], _ => rfl)
    have DBE : Fc.Def (L2.KOf KX) mg "_law_bent" K1.sBE ["_law_web_here", "_law_cell"] := by
      dsimp only [L2.KOf]
      refine' Fc.def_mk KX G ?a ?l ?c ?k ?b
      (case a => k_is); (case l => k_is); (case c => k_is); (case k => k_is); (case b => exact fun _ _ _ _ _ _ us hl => match us, hl with | [_, _], _ => rfl)
    have DFI : Fc.Def (L2.KOf KX) mg "_law_first" K1.sFI ["_law_web_here", "_law_thing", "_law_choice"] := by
      dsimp only [L2.KOf]
      refine' Fc.def_mk KX G ?a ?l ?c ?k ?b
      (case a => k_is); (case l => k_is); (case c => k_is); (case k => k_is); (case b => exact fun _ _ _ _ _ _ us hl => match us, hl with | [_, _, _], _ => rfl)
    have DSE : Fc.Def (L2.KOf KX) mg "_law_second" K1.sSE ["_law_web_here", "_law_thing", "_law_choice"] := by
      dsimp only [L2.KOf]
      refine' Fc.def_mk KX G ?a ?l ?c ?k ?b
      (case a => k_is); (case l => k_is); (case c => k_is); (case k => k_is); (case b => exact fun _ _ _ _ _ _ us hl => match us, hl with | [_, _, _], _ => rfl)
    have DRX : Fc.Def (L2.KOf KX) mg "_law_refused" K1.sRX ["_law_web_here", "_law_thing", "_law_choice"] := by
      dsimp only [L2.KOf]
      refine' Fc.def_mk KX G ?a ?l ?c ?k ?b
      (case a => k_is); (case l => k_is); (case c => k_is); (case k => k_is); (case b => exact fun _ _ _ _ _ _ us hl => match us, hl with | [_, _, _], _ => rfl)
    refine' K1.law_mk KX G hmg ⟨M, DX, DIW, DAW, DRF, DWF, DWZ, DLW, DIC, DRE, DLO, DWE, DNWx, DIRx, DSTx, DCOx, DRLx, DACx, DHFx, DJUx, DPFx, DCSx, DIEx, DTWx, DSDx, DRFk, DRBx, DNPx, DILx, DNOx, DWYx, DWTx, DSPx, DNUx, DWOx, DCUx, DLYx, DSWx, DSHx, DCBx, DCHx, DOSx, DCNx, DCFx, DMX, DCA, DLF, DDR, DPT, DWB, DCP, DBE, DFI, DSE, DRX⟩ ?a ?l ?c ?k
    (case a => k_is); (case l => k_is); (case c => k_is); (case k => k_is)

