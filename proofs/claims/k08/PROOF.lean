import PyProof.Rows.All
import Wide.All
import OpenK.AllK
import Wide.FinOn
import Lean
import PyProof.EqAt
import PyProof.EqKinds
import PyProof.TupleCall
import PyProof.Rows.SetFrom
import PyProof.Rows.SortStr
import PyProof.CollectWalk
import PyProof.Rows.StrInSeq
import PyProof.SetRoads
import PyProof.Seq
import PyProof.MakeMany
import PyProof.Rows.SortWalk
import PyProof.Rows.StrMeet
import PyProof.DictWalks
import PyProof.FactsAll.subtypes_5
import PySem.SetTable
import PyProof.Tail
import PyProof.FactsAll.set_1
import PyProof.FactsAll.set_2
import PyProof.DictKeyH
import KE.KRevIter
import PyProof.ListRange
import PyProof.ListNew
import PyProof.NeKinds
import PyProof.StrLawsRepr
import PyProof.ReprLoop
import KE.KTryMore
import PyProof.NsDelKeeps
import PySem.Challenge.RW_clubroll_k08_no_rolls
set_option Elab.async false
set_option linter.all false
set_option maxRecDepth 100000
set_option maxHeartbeats 4000000
namespace L2
open PySem PySem.Spec PyProof.Rows
abbrev Key := Sum Int Str
def keyIs : Key → Value → Bool
  | .inl k, v => Value.isInt k v
  | .inr x, v => Value.isStrOf x v
def keyH (w : World) : Key → Int
  | .inl k => hashInt k
  | .inr x => hashStr w x
theorem keyIs_shape : ∀ {k : Key} {v : Value}, keyIs k v = true → (∃ i t, k = Sum.inl i ∧ v = Value.int i t) ∨ (∃ x t, k = Sum.inr x ∧ v = Value.str x t)
  | .inl i, v, h => by
    obtain ⟨t, e⟩ := Value.isInt_shape (k := i) (v := v) h
    exact .inl ⟨i, t, rfl, e⟩
  | .inr x, v, h => by
    obtain ⟨t, e⟩ := Value.isStrOf_shape (x := x) (v := v) h
    exact .inr ⟨x, t, rfl, e⟩
theorem keyIs_int (i : Int) (t : Tok) : keyIs (.inl i) (.int i t) = true := by simp [keyIs, Value.isInt]
theorem keyIs_str (x : Str) (t : Tok) : keyIs (.inr x) (.str x t) = true := by simp [keyIs, Value.isStrOf]
theorem key_ll (a b : Int) : decide ((Sum.inl a : Key) = Sum.inl b) = (a == b) := by
  by_cases e : a = b
  · subst e; simp
  · have h : ¬ (Sum.inl a : Key) = Sum.inl b := fun q => e (Sum.inl.inj q)
    rw [decide_eq_false h]
    exact (beq_eq_false_iff_ne.mpr e).symm
theorem key_rr (a b : Str) : decide ((Sum.inr a : Key) = Sum.inr b) = decide (a = b) := by
  by_cases e : a = b
  · subst e; simp
  · have h : ¬ (Sum.inr a : Key) = Sum.inr b := fun q => e (Sum.inr.inj q)
    rw [decide_eq_false h, decide_eq_false e]
theorem key_lr (a : Int) (b : Str) : decide ((Sum.inl a : Key) = Sum.inr b) = false := decide_eq_false (fun q => nomatch q)
theorem key_rl (a : Str) (b : Int) : decide ((Sum.inr a : Key) = Sum.inl b) = false := decide_eq_false (fun q => nomatch q)
def mixKind (prog : Program) (w : World) : PySem.KeyKind prog w Key where
  is := keyIs
  hash := keyH w
  inj := fun v a b ha hb => by
    rcases keyIs_shape ha with ⟨i, t, rfl, rfl⟩ | ⟨x, t, rfl, rfl⟩
    · rcases keyIs_shape hb with ⟨j, u, rfl, e⟩ | ⟨y, u, rfl, e⟩
      · injection e with e1 _; rw [e1]
      · exact nomatch e
    · rcases keyIs_shape hb with ⟨j, u, rfl, e⟩ | ⟨y, u, rfl, e⟩
      · exact nomatch e
      · injection e with e1 _; rw [e1]
  byValue := fun k v h => by
    rcases keyIs_shape h with ⟨i, t, rfl, rfl⟩ | ⟨x, t, rfl, rfl⟩ <;> rfl
  pyHash := fun hv h => by
    rcases keyIs_shape hv with ⟨i, t, rfl, rfl⟩ | ⟨x, t, rfl, rfl⟩
    · exact wpAny_pyHash_int h
    · exact wpAny_pyHash_str h
  eqBool := fun hu hv h => by
    rcases keyIs_shape hu with ⟨i, t, rfl, rfl⟩ | ⟨x, t, rfl, rfl⟩
    · rcases keyIs_shape hv with ⟨j, u, rfl, rfl⟩ | ⟨y, u, rfl, rfl⟩
      · rw [key_ll] at h; exact wpAny_eqBool_int h
      · rw [key_lr] at h; exact SeqAt.EqAt.int_str i t y u _ _ _ _ h
    · rcases keyIs_shape hv with ⟨j, u, rfl, rfl⟩ | ⟨y, u, rfl, rfl⟩
      · rw [key_rl] at h; exact SeqAt.EqAt.str_int x t j u _ _ _ _ h
      · rw [key_rr] at h; exact wpAny_eqBool_str h
  «strs» := fun k x t v h => by
    rcases keyIs_shape h with ⟨i, u, rfl, e⟩ | ⟨y, u, rfl, e⟩
    · exact nomatch e
    · injection e with e1 _
      subst e1
      cases v <;> rfl
theorem mixKind_int (prog : Program) (w : World) (i : Int) (t : Tok) : (mixKind prog w).is (.inl i) (.int i t) = true := keyIs_int i t
theorem mixKind_str (prog : Program) (w : World) (x : Str) (t : Tok) : (mixKind prog w).is (.inr x) (.str x t) = true := keyIs_str x t
end L2
namespace L2
open PySem PySem.Spec PyProof.Rows
inductive V where
  | non | bl (b : Bool) | int (i : Int) | str (x : Str) | byt (b : Array UInt8) | flt (b : UInt64) | ref (a : Addr) | ty (n : String)
  deriving DecidableEq
def RelV : V → Value → Prop
  | .non, u => u = Value.none
  | .bl b, u => u = Value.bool b
  | .int i, u => ∃ t, u = Value.int i t
  | .str x, u => ∃ t, u = Value.str x t
  | .byt b, u => ∃ t, u = Value.bytes b t
  | .flt b, u => ∃ t, u = Value.float b t
  | .ref a, u => u = Value.ref a
  | .ty n, u => u = Value.type n
abbrev Vals : List V → List Value → Prop := Paired RelV
theorem Vals.length {xs : List V} {us : List Value} (r : Vals xs us) : xs.length = us.length := Paired.length r
theorem Vals.get : ∀ {xs : List V} {us : List Value} {i : Nat} {x : V}, Vals xs us → xs[i]? = some x → ∃ u, us[i]? = some u ∧ RelV x u
  | _, _, _, _, .nil, e => by simp at e
  | _, _, 0, _, .cons r _, e => by simp at e; subst e; exact ⟨_, rfl, r⟩
  | _, _, i + 1, x, .cons _ t, e => by
    obtain ⟨u, h1, h2⟩ := Vals.get (i := i) (x := x) t (by simpa using e)
    exact ⟨u, by simpa using h1, h2⟩
theorem Vals.set {x : V} {u : Value} (r : RelV x u) : ∀ {xs : List V} {us : List Value} (i : Nat), Vals xs us → Vals (xs.set i x) (us.set i u)
  | _, _, _, .nil => .nil
  | _, _, 0, .cons _ t => .cons r t
  | _, _, i + 1, .cons q t => .cons q (Vals.set r i t)
theorem Vals.append : ∀ {xs ys : List V} {us ws : List Value}, Vals xs us → Vals ys ws → Vals (xs ++ ys) (us ++ ws)
  | _, _, _, _, .nil, s => s
  | _, _, _, _, .cons r t, s => .cons r (Vals.append t s)
theorem Vals.take : ∀ {xs : List V} {us : List Value} (n : Nat), Vals xs us → Vals (xs.take n) (us.take n)
  | _, _, 0, _ => .nil
  | _, _, _ + 1, .nil => .nil
  | _, _, n + 1, .cons r t => .cons r (Vals.take n t)
theorem Vals.drop : ∀ {xs : List V} {us : List Value} (n : Nat), Vals xs us → Vals (xs.drop n) (us.drop n)
  | _, _, 0, r => r
  | _, _, _ + 1, .nil => .nil
  | _, _, n + 1, .cons _ t => Vals.drop n t
def RelO : Option V → Option Value → Prop
  | some v, some u => RelV v u
  | none, none => True
  | _, _ => False
def KV {κ : Type} : List (κ × V) → List (κ × Value) → Prop := Paired fun (p : κ × V) (q : κ × Value) => p.1 = q.1 ∧ RelV p.2 q.2
def kV : Key → V
  | .inl i => .int i
  | .inr x => .str x
inductive HO where
  /-- a list -/
  | lst (xs : List V)
  /-- a tuple (never changes) -/
  | tup (xs : List V)
  /-- a dict whose keys are ints and texts; one whose keys are tuples of ints and texts (the empty one is both) -/
  | dK (kvs : List (Key × V)) | dT (kvs : List (List Key × V))
  /-- a set of ints: its members, its size -/
  | set (S : Int → Bool) (n : Nat)
  /-- an instance of the class at C, its dict at dx, its attributes -/
  | ins (C dx : Addr) (fs : List (Str × V))
  /-- the dict of the instance at x -/
  | own (x : Addr)
  /-- the dict of an exception -/
  | xd (fs : List (Str × V))
  /-- a bound method, f of x -/
  | met (f x : Addr)
  /-- a range object lo, lo + 1, .. below hi -/
  | rng (lo hi : Int)
  /-- a thing that is known to the object (the script; a dict while a loop walks it): read, never written while it is so -/
  | frz (o : Obj) (u : HO)
  /-- a code object's table -/
  | tbl (ps : Array Value)
  /-- any other thing, by what is true of its one object (a def of one's own: SetO a S n := HO.ext fun h => ..) -/
  | ext (φ : Heap → Prop)
abbrev Hp := Addr → Option HO
def upd (H : Hp) (a : Addr) (o : HO) : Hp := fun b => if b = a then some o else H b
theorem upd_same {H : Hp} {a : Addr} {o : HO} : upd H a o a = some o := by unfold upd; rw [if_pos rfl]
theorem upd_ne {H : Hp} {a b : Addr} {o : HO} (h : b ≠ a) : upd H a o b = H b := by unfold upd; rw [if_neg h]
theorem ne_of {H : Hp} {a b : Addr} {o u : HO} (h : H a = some o) (h' : H b = some u) (d : o ≠ u) : a ≠ b := by
  intro e; subst e; rw [h] at h'; exact d (Option.some.inj h')
theorem ne_of_none {H : Hp} {a b : Addr} {o : HO} (h : H a = some o) (h' : H b = none) : a ≠ b := by
  intro e; subst e; rw [h] at h'; cases h'
section
variable (P : Program) (w : World)
def ObjOk (H : Hp) (h : Heap) (a : Addr) : HO → Prop
  | .lst xs => xs.length ≤ sizeLine ∧ ∃ (its : List Value) (n : Nat), Vals xs its ∧ h.get? a = some { cls := .type "list", data := .seq its.toArray n }
  | .tup xs => xs.length ≤ sizeLine ∧ ∃ its : List Value, Vals xs its ∧ IsTup h a its.toArray
  | .dK kvs => kvs.length ≤ sizeLine ∧ (a == sysModules) = false ∧ ∃ vs, KV kvs vs ∧ h.DictOf (mixKind P w) a vs
  | .dT kvs => kvs.length ≤ sizeLine ∧ (a == sysModules) = false ∧ ∃ xs : List (List Key × Addr × Value),
      Paired (fun (p : List Key × V) (q : List Key × Addr × Value) => p.1 = q.1 ∧ H q.2.1 = some (.tup (p.1.map kV)) ∧ RelV p.2 q.2.2) kvs xs ∧
      ∃ o es ep, h.get? a = some o ∧ o.ExactDict ∧ o.data = .dict es ep ∧ es.toList = xs.map (entryOfKey (tupleKind (mixKind P w))) ∧ (xs.map (·.1)).Nodup
  | .set S n => h.SetOf (intKind P w) a S n
  | .ins C dx fs => H dx = some (.own a) ∧ fs.length ≤ 1000 ∧ dx ≠ a ∧ h.get? a = some (PySem.W.instObj C dx) ∧
      ∃ mA, h.Ns1 dx mA ∧ (∀ f, RelO (fs.lookup f) (mA f)) ∧ PySem.Within mA (fs.map (·.1))
  | .own _ => ∃ o, h.get? a = some o
  | .xd fs => ∃ mA, h.Ns1 a mA ∧ ∀ f, RelO (fs.lookup f) (mA f)
  | .rng lo hi => ∃ t u v, h.get? a = some { cls := .type "range", data := .fields #[.int lo t, .int hi u, .int 1 v] }
  | .frz o u => h.get? a = some o ∧ ObjOk H h a u
  | .tbl ps => h.get? a = some { cls := .none, data := .fields ps }
  | .met f x => h.get? a = some (PySem.W.methodObj (.ref f) (.ref x))
  | .ext φ => φ h ∧ (∃ o, h.get? a = some o) ∧ ∀ h1 h2 : Heap, φ h1 → (∀ o, h1.get? a = some o → h2.get? a = some o) → φ h2
def HOk (H : Hp) (h : Heap) : Prop := ∀ a o, H a = some o → ObjOk P w H h a o
end
section
variable {P : Program} {w : World} {H H' : Hp} {h h' : Heap} {a : Addr} {o : HO}
theorem ObjOk.lt (x : ObjOk P w H h a o) : a < h.objs.size := by
  cases o with
  | lst xs => obtain ⟨_, _, _, _, e⟩ := x; exact Heap.lt_size e
  | tup xs => obtain ⟨_, _, _, p⟩ := x; exact p.lt
  | dK kvs => obtain ⟨_, _, _, _, o, _, _, e, _⟩ := x; exact Heap.lt_size e
  | dT kvs => obtain ⟨_, _, _, _, o, _, _, e, _⟩ := x; exact Heap.lt_size e
  | set S n => obtain ⟨o, _, _, _, e, _⟩ := x; exact Heap.lt_size e
  | ins C dx fs => obtain ⟨_, _, _, e, _⟩ := x; exact Heap.lt_size e
  | own y => obtain ⟨_, e⟩ := x; exact Heap.lt_size e
  | xd fs => obtain ⟨_, ⟨_, _, _, e, _⟩, _⟩ := x; exact Heap.lt_size e
  | rng lo hi => obtain ⟨_, _, _, e⟩ := x; exact Heap.lt_size e
  | frz ob u => obtain ⟨e, _⟩ := x; exact Heap.lt_size e
  | tbl ps => exact Heap.lt_size (show h.get? a = some _ from x)
  | met f y => exact Heap.lt_size (show h.get? a = some _ from x)
  | ext φ => obtain ⟨_, ⟨_, e⟩, _⟩ := x; exact Heap.lt_size e
theorem Paired.mapP {α β : Type} {F G : α → β → Prop} : ∀ {l₁ : List α} {l₂ : List β}, Paired F l₁ l₂ → (∀ a b, F a b → G a b) → Paired G l₁ l₂
  | _, _, .nil, _ => .nil
  | _, _, .cons r t, f => .cons (f _ _ r) (Paired.mapP t f)
theorem ObjOk.stay (x : ObjOk P w H h a o) (k : ∀ b u, (b = a ∨ H b = some (.own a)) → h.get? b = some u → h'.get? b = some u)
    (ho : ∀ b, H b = some (.own a) → H' b = some (.own a)) (ht : ∀ b xs, H b = some (.tup xs) → H' b = some (.tup xs)) : ObjOk P w H' h' a o := by
  induction o with
  | lst xs => obtain ⟨z, its, n, r, e⟩ := x; exact ⟨z, its, n, r, k _ _ (.inl rfl) e⟩
  | tup xs => obtain ⟨z, its, r, ob, e, c⟩ := x; exact ⟨z, its, r, ob, k _ _ (.inl rfl) e, c⟩
  | dK kvs => obtain ⟨z, y, vs, r, ob, es, ep, e, c⟩ := x; exact ⟨z, y, vs, r, ob, es, ep, k _ _ (.inl rfl) e, c⟩
  | dT kvs =>
    obtain ⟨z, y, xs, r, ob, es, ep, e, c⟩ := x
    exact ⟨z, y, xs, Paired.mapP r fun p q z => ⟨z.1, ht _ _ z.2.1, z.2.2⟩, ob, es, ep, k _ _ (.inl rfl) e, c⟩
  | set S n => obtain ⟨ob, es, ep, t, e, c⟩ := x; exact ⟨ob, es, ep, t, k _ _ (.inl rfl) e, c⟩
  | ins C dx fs =>
    obtain ⟨d, z, ne, e, mA, ⟨od, es, ep, e2, c⟩, r⟩ := x
    exact ⟨ho _ d, z, ne, k _ _ (.inl rfl) e, mA, ⟨od, es, ep, k _ _ (.inr d) e2, c⟩, r⟩
  | own y => obtain ⟨ob, e⟩ := x; exact ⟨ob, k _ _ (.inl rfl) e⟩
  | xd fs => obtain ⟨mA, ⟨od, es, ep, e, c⟩, r⟩ := x; exact ⟨mA, ⟨od, es, ep, k _ _ (.inl rfl) e, c⟩, r⟩
  | rng lo hi => obtain ⟨t, u, v, e⟩ := x; exact ⟨t, u, v, k _ _ (.inl rfl) e⟩
  | frz ob u ih => obtain ⟨e, q⟩ := x; exact ⟨k _ _ (.inl rfl) e, ih q⟩
  | tbl ps =>
    have e : h.get? a = some { cls := .none, data := .fields ps } := x
    show h'.get? a = some { cls := .none, data := .fields ps }
    exact k a _ (.inl rfl) e
  | met f y =>
    have e : h.get? a = some (PySem.W.methodObj (.ref f) (.ref y)) := x
    show h'.get? a = some (PySem.W.methodObj (.ref f) (.ref y))
    exact k a _ (.inl rfl) e
  | ext φ => obtain ⟨p, ⟨o, e⟩, st⟩ := x; exact ⟨st _ _ p fun o q => k _ _ (.inl rfl) q, ⟨o, k _ _ (.inl rfl) e⟩, st⟩
theorem HOk.lt (x : HOk P w H h) (e : H a = some o) : a < h.objs.size := (x a o e).lt
theorem HOk.fresh (x : HOk P w H h) (e : h.objs.size ≤ a) : H a = none := by
  cases q : H a with
  | none => rfl
  | some u => exact absurd (Nat.lt_of_lt_of_le (x.lt q) e) (Nat.lt_irrefl _)
theorem HOk.kept (x : HOk P w H h) (k : ∀ b u, h.get? b = some u → h'.get? b = some u) : HOk P w H h' := fun a o e =>
  (x a o e).stay (fun b u _ q => k b u q) (fun _ q => q) fun _ _ q => q
theorem HOk.laid (x : HOk P w H h) (k : ∀ b u, h.get? b = some u → h'.get? b = some u) (hp : h.objs.size ≤ a) (new : ObjOk P w (upd H a o) h' a o) : HOk P w (upd H a o) h' := fun b u e => by
  have hn := x.fresh hp
  by_cases hb : b = a
  · subst hb; rw [upd_same] at e; cases e; exact new
  · rw [upd_ne hb] at e
    exact (x b u e).stay (fun c v _ q => k c v q) (fun c q => by rw [upd_ne (ne_of_none q hn)]; exact q) fun c xs q => by rw [upd_ne (ne_of_none q hn)]; exact q
end
def Rd (H : Hp) (a : Addr) (u : HO) : Prop := H a = some u ∨ ∃ o, H a = some (.frz o u)
theorem Rd.ok {P : Program} {w : World} {H : Hp} {h : Heap} {a : Addr} {u : HO} (r : Rd H a u) (x : HOk P w H h) : ObjOk P w H h a u := by
  rcases r with r | ⟨o, r⟩
  · exact x a u r
  · obtain ⟨_, q⟩ := x a _ r
    exact q
def Mut : Option HO → Prop
  | some (.lst _) => True
  | some (.dK _) => True
  | some (.dT _) => True
  | some (.set _ _) => True
  | some (.ins _ _ _) => True
  | some (.ext _) => True
  | _ => False
section
variable {P : Program} {w : World} {H : Hp} {h h' : Heap} {x e : Addr} {o' : HO}
theorem HOk.write (ok : HOk P w H h) (mu : Mut (H x)) (he : e = x ∨ H e = some (.own x)) (k : ∀ b u, b ≠ e → h.get? b = some u → h'.get? b = some u) (heo : ∃ u, h'.get? e = some u)
    (new : ObjOk P w (upd H x o') h' x o') : HOk P w (upd H x o') h' := fun b u q => by
  have nown : ∀ c y, H c = some (.own y) → c ≠ x := fun c y r z => by subst z; rw [r] at mu; exact mu
  have ntup : ∀ c xs, H c = some (.tup xs) → c ≠ x := fun c xs r z => by subst z; rw [r] at mu; exact mu
  by_cases hb : b = x
  · subst hb; rw [upd_same] at q; cases q; exact new
  · rw [upd_ne hb] at q
    by_cases hbe : b = e
    · have q' : H b = some (.own x) := by
        rcases he with z | z
        · exact absurd (hbe.trans z) hb
        · rw [hbe]; exact z
      rw [q] at q'; cases q'
      obtain ⟨v, hv⟩ := heo
      exact ⟨v, by rw [hbe]; exact hv⟩
    · refine (ok b u q).stay (fun c v hc r => k c v ?_ r) (fun c r => by rw [upd_ne (nown c b r)]; exact r) fun c xs r => by rw [upd_ne (ntup c xs r)]; exact r
      rcases hc with rfl | hc
      · exact hbe
      · rintro rfl
        rcases he with z | z
        · exact nown c b hc z
        · rw [hc] at z; cases z; exact hb rfl
end
structure Un (fs ex : List Addr) (H H' : Hp) (h h' : Heap) : Prop where
  keep : ∀ b o, h.get? b = some o → H b = none → b ∉ fs → b ∉ ex → h'.get? b = some o
  slot : ∀ b o, h.get? b = some o → H b = none → b ∈ fs → b ∉ ex → ∃ sl, h'.get? b = some { o with slots := sl }
  free : ∀ b o, h.get? b = some o → H b = none → b ∉ ex → H' b = none
  there : ∀ b o, h.get? b = some o → b ∉ ex → ∃ o', h'.get? b = some o'
  tups : ∀ b xs, H b = some (.tup xs) → H' b = some (.tup xs)
  frzs : ∀ b o u, H b = some (.frz o u) → H' b = some (.frz o u)
  tbls : ∀ b ps, H b = some (.tbl ps) → ∃ more, H' b = some (.tbl (ps ++ more))
section
variable {fs fs' ex ex' : List Addr} {H H1 H2 : Hp} {h h1 h2 h' : Heap} {a x e : Addr} {o : HO}
theorem Un.any (u : Un fs ex H H1 h h1) {b : Addr} {ob : Obj} (q : h.get? b = some ob) (n : H b = none) (hx : b ∉ ex) : ∃ sl, h1.get? b = some { ob with slots := sl } := by
  by_cases hb : b ∈ fs
  · exact u.slot b ob q n hb hx
  · exact ⟨ob.slots, u.keep b ob q n hb hx⟩
theorem Un.kept (k : ∀ b u, h.get? b = some u → h'.get? b = some u) : Un fs ex H H h h' :=
  ⟨fun b ob q _ _ _ => k b ob q, fun b ob q _ _ _ => ⟨ob.slots, k b ob q⟩, fun _ _ _ n _ => n, fun b ob q _ => ⟨ob, k b ob q⟩, fun _ _ q => q, fun _ _ _ q => q, fun _ ps q => ⟨#[], by rw [q]; simp⟩⟩
theorem Un.refl : Un fs ex H H h h := Un.kept fun _ _ q => q
theorem Un.laid (k : ∀ b u, h.get? b = some u → h'.get? b = some u) (hp : h.objs.size ≤ a) (hn : H a = none) : Un fs ex H (upd H a o) h h' where
  keep := fun b u q _ _ _ => k b u q
  slot := fun b u q _ _ _ => ⟨u.slots, k b u q⟩
  free := fun b u q n _ => by rw [upd_ne (Nat.ne_of_lt (Nat.lt_of_lt_of_le (Heap.lt_size q) hp))]; exact n
  there := fun b u q _ => ⟨u, k b u q⟩
  tups := fun b xs q => by rw [upd_ne (ne_of_none q hn)]; exact q
  frzs := fun b u xs q => by rw [upd_ne (ne_of_none q hn)]; exact q
  tbls := fun b ps q => ⟨#[], by rw [upd_ne (ne_of_none q hn), q]; simp⟩
theorem Un.write (mu : Mut (H x)) (he : e = x ∨ H e = some (.own x)) (k : ∀ b u, b ≠ e → h.get? b = some u → h'.get? b = some u) (heo : ∃ u, h'.get? e = some u) : Un fs ex H (upd H x o) h h' := by
  have hx : ∀ b, H b = none → b ≠ x := fun b n z => by subst z; rw [n] at mu; exact mu
  have hb : ∀ b, H b = none → b ≠ e := fun b n z => by
    subst z
    rcases he with r | r
    · exact hx b n r
    · rw [n] at r; cases r
  have hm : ∀ b u, H b = some u → ¬ Mut (some u) → b ≠ x := fun b u q nm z => by subst z; rw [q] at mu; exact nm mu
  refine ⟨fun b u q n _ _ => k b u (hb b n) q, fun b u q n _ _ => ⟨u.slots, k b u (hb b n) q⟩, fun b u q n _ => by rw [upd_ne (hx b n)]; exact n, fun b u q _ => ?_,
    fun b xs q => by rw [upd_ne (hm b _ q fun z => z)]; exact q, fun b u xs q => by rw [upd_ne (hm b _ q fun z => z)]; exact q, fun b ps q => ⟨#[], by rw [upd_ne (hm b _ q fun z => z), q]; simp⟩⟩
  by_cases hbe : b = e
  · subst hbe; exact heo
  · exact ⟨u, k b u hbe q⟩
end
def trk (h : Heap) (H : Hp) : List Addr := (List.range h.objs.size).filter fun a => (H a).isSome
def hidT (h : Heap) (H : Hp) : Heap := PySem.W.hideAll h (trk h H)
theorem hidT_size (h : Heap) (H : Hp) : (hidT h H).objs.size = h.objs.size := PySem.W.hideAll_size _ _
theorem hidT_get {h : Heap} {H : Hp} {b : Addr} {o : Obj} (e : h.get? b = some o) (n : H b = none) : (hidT h H).get? b = some o :=
  PySem.W.hideAll_get _ e fun hm => by
    have q : (H b).isSome = true := (List.mem_filter.mp hm).2
    rw [n] at q; simp at q
theorem of_hidT {h : Heap} {H : Hp} {b : Addr} {o : Obj} (e : (hidT h H).get? b = some o) : h.get? b = some o ∧ H b = none := by
  have e' : h.get? b = some o := PySem.W.of_hideAll (trk h H) e
  refine ⟨e', ?_⟩
  cases q : H b with
  | none => rfl
  | some x =>
    have hm : b ∈ trk h H := List.mem_filter.mpr ⟨List.mem_range.mpr (Heap.lt_size e'), by simp [q]⟩
    have z : (hidT h H).get? b = none := PySem.W.hideAll_none (trk h H) hm
    rw [z] at e; cases e
end L2
namespace L2
open PySem PySem.Spec PyProof.Rows
structure Mod (K : PySem.W.Frag) (mg : Str → Option Value) (base : Heap) : Prop where
  kin : K.In base
  glob : base.Ns mainGlobals mg
  blt : ∃ mb, base.Ns builtinsNs mb ∧ ∀ x : Str, x ≠ "__name__" → mb x = bootBuiltins x
  nolimit : base.NoLimit
structure Cx where
  prog : Program
  w : World
  K : PySem.W.Frag
  mg : Str → Option Value
  base : Heap
  A : Around
  N : List Str
  s₀ : Shared
  H₀ : Hp
  env : Env
  outer : List Env
  stack : List Env
  ex : List Addr
  fn : Str → Bool
  calm : Bool
  pn : List (Addr × Obj)
  xe : Value → Shared → Prop
def frs (l : List Env) : List Addr := l.filterMap (·.frame)
abbrev Cx.fs (X : Cx) : List Addr := frs X.outer
def Vis (sc : Scope) (x : Str) : Prop := sc.names.lookup x = some .local ∨ sc.names.lookup x = some .cell ∨ sc.names.lookup x = some .free
def Loc (sc : Scope) (x : Str) : Prop := sc.names.lookup x = some .local ∨ sc.names.lookup x = some .cell
def Look (env : Env) (h : Heap) (m : Str → Option Value) (x : Str) (u : Value) : Prop :=
  (env.kindOf x = some .local ∧ m x = some u) ∨ ((env.kindOf x = some .cell ∨ env.kindOf x = some .free) ∧ ∃ c, env.cells.lookup x = some c ∧ h.IsCell c (some u))
structure Cx.Ok (X : Cx) : Prop where
  mod : Mod X.K X.mg X.base
  kind : X.env.scope.kind = .function
  glob : X.env.globals = mainGlobals
  blt : X.env.builtins = builtinsNs
  above : X.s₀.heap.objs.size ≤ X.env.locals
  inj : ∀ x y c, X.env.cells.lookup x = some c → X.env.cells.lookup y = some c → x = y
  has : ∀ x, (X.env.kindOf x = some .cell ∨ X.env.kindOf x = some .free) → ∃ c, X.env.cells.lookup x = some c
  cab : ∀ x c, X.fn x = true → X.env.cells.lookup x = some c → X.s₀.heap.objs.size ≤ c
  hd : X.calm = true → X.A.handled = none
  frames : X.A.frames = some X.stack
  stk : X.stack = X.outer ∨ (X.stack = X.env :: X.outer ∧ X.env.frame = some X.env.locals)
  exf : ∀ b ∈ X.ex, b ≠ X.env.locals ∧ ∀ x c, X.env.cells.lookup x = some c → c ≠ b
  bs : ∀ b o, X.base.get? b = some o → X.s₀.heap.get? b = some o ∧ X.H₀ b = none
  bsz : X.base.objs.size ≤ X.s₀.heap.objs.size
  noex : ∀ b o, X.base.get? b = some o → b ∉ X.ex
  exfs : ∀ b ∈ X.ex, b ∉ X.fs
  funs : X.s₀.heap.FunFrames X.base X.outer
  frf : ∀ b ∈ X.fs, X.H₀ b = none
structure Inv (X : Cx) (pins : List (Addr × Obj)) (σ : List (Option V)) (H : Hp) (s : Shared) : Prop where
  ok : X.Ok
  os : s.os = X.s₀.os
  bare : AllBare s.gens
  base : Un X.fs X.ex X.H₀ H X.s₀.heap s.heap
  loc : ∃ m, s.heap.Ns X.env.locals m ∧ ∀ (i : Nat) (x : Str) (v : V), X.N[i]? = some x → σ[i]? = some (some v) → Vis X.env.scope x → ∃ u, RelV v u ∧ Look X.env s.heap m x u
  cell : ∀ x c, X.env.cells.lookup x = some c → ∃ v, s.heap.IsCell c v
  free : H X.env.locals = none
  freeC : ∀ x c, X.env.cells.lookup x = some c → H c = none
  pin : ∀ p ∈ X.pn ++ pins, s.heap.get? p.1 = some p.2 ∧ H p.1 = none ∧ p.1 ≠ X.env.locals ∧ p.1 ∉ X.fs ∧ ∀ v, p.2.data ≠ .cell v
  hok : HOk X.prog X.w H s.heap
  len : σ.length = X.N.length
section
variable {X : Cx} {pins : List (Addr × Obj)} {σ : List (Option V)} {H H' : Hp} {s : Shared} {h' : Heap}
theorem Cx.Ok.nofr (ok : X.Ok) {b : Addr} {o : Obj} (e : X.base.get? b = some o) : b ∉ X.fs := fun hb => by
  have := (ok.funs.mem hb).1
  rw [e] at this; cases this
theorem Inv.bs (I : Inv X pins σ H s) : ∀ b o, X.base.get? b = some o → s.heap.get? b = some o ∧ H b = none := fun b o e =>
  ⟨I.base.keep b o (I.ok.bs b o e).1 (I.ok.bs b o e).2 (I.ok.nofr e) (I.ok.noex b o e), I.base.free b o (I.ok.bs b o e).1 (I.ok.bs b o e).2 (I.ok.noex b o e)⟩
theorem Inv.bk (I : Inv X pins σ H s) : ∀ b o, X.base.get? b = some o → s.heap.get? b = some o := fun b o e => (I.bs b o e).1
theorem Inv.mod (I : Inv X pins σ H s) : Mod X.K X.mg X.base := I.ok.mod
theorem Inv.kIn (I : Inv X pins σ H s) : X.K.In s.heap := I.ok.mod.kin.keeps I.bk
theorem Inv.lt (I : Inv X pins σ H s) : X.env.locals < s.heap.objs.size := let ⟨_, hn, _⟩ := I.loc; hn.lt
theorem Inv.sz (I : Inv X pins σ H s) : X.s₀.heap.objs.size ≤ s.heap.objs.size := Nat.le_trans I.ok.above (Nat.le_of_lt I.lt)
theorem Inv.nofs (I : Inv X pins σ H s) {a : Addr} (h : s.heap.objs.size ≤ a) : a ∉ X.fs := fun hb => by
  obtain ⟨_, o, ho, _⟩ := I.ok.funs.mem hb
  exact absurd (Nat.lt_of_lt_of_le (Heap.lt_size ho) (Nat.le_trans I.sz h)) (Nat.lt_irrefl _)
theorem Inv.cne (I : Inv X pins σ H s) : ∀ x c, X.env.cells.lookup x = some c → c ≠ X.env.locals := fun x c e z => by
  obtain ⟨v, o, ho, hd⟩ := I.cell x c e
  obtain ⟨m, ⟨o', es, ep, ho', hd', _⟩, _⟩ := I.loc
  rw [z, ho'] at ho; cases ho; rw [hd'] at hd; cases hd
theorem Inv.funs (I : Inv X pins σ H s) : s.heap.FunFrames X.base X.outer := by
  have all : ∀ (l : List Env), (∀ b ∈ frs l, b ∈ X.fs) → X.s₀.heap.FunFrames X.base l → s.heap.FunFrames X.base l := by
    intro l
    induction l with
    | nil => intro _ _; trivial
    | cons env r ih =>
      intro hs hl
      obtain ⟨hk, ⟨L, o, hf, hn, ho, hd⟩, hr⟩ := hl
      have hL : L ∈ X.fs := hs L (by unfold frs; rw [List.filterMap_cons, hf]; exact List.mem_cons_self)
      obtain ⟨sl, e⟩ := I.base.slot L o ho (I.ok.frf L hL) hL fun z => I.ok.exfs L z hL
      exact ⟨hk, ⟨L, _, hf, hn, e, hd⟩, ih (fun b hb => hs b (by unfold frs; rw [List.filterMap_cons, hf]; exact List.mem_cons_of_mem _ hb)) hr⟩
  exact all X.outer (fun _ hb => hb) I.ok.funs
theorem Inv.stack (I : Inv X pins σ H s) : s.heap.FunFrames X.base X.stack := by
  rcases I.ok.stk with e | ⟨e, hf⟩
  · rw [e]; exact I.funs
  · rw [e]
    obtain ⟨m, hn, _⟩ := I.loc
    refine .cons (by rw [I.ok.kind]; decide) hf hn ?_ I.funs
    exact Heap.get?_none_of_le (Nat.le_trans I.ok.bsz I.ok.above)
theorem Inv.stkSub (I : Inv X pins σ H s) : ∀ b ∈ frs X.stack, b ∈ X.env.locals :: X.fs := fun b hb => by
  rcases I.ok.stk with e | ⟨e, hf⟩
  · rw [e] at hb; exact List.mem_cons_of_mem _ hb
  · rw [e] at hb
    unfold frs at hb
    rw [List.filterMap_cons, hf] at hb
    exact hb
theorem Inv.stkFree (I : Inv X pins σ H s) : ∀ b ∈ frs X.stack, H b = none := fun b hb => by
  rcases List.mem_cons.mp (I.stkSub b hb) with e | hb
  · rw [e]; exact I.free
  · obtain ⟨_, o, ho, _⟩ := I.ok.funs.mem hb
    exact I.base.free b o ho (I.ok.frf b hb) fun z => I.ok.exfs b z hb
theorem Inv.step {g' : Array GenState} {t' : Nat} {d' : Drawn} {ch : List Addr} (I : Inv X pins σ H s)
    (hch : ∀ b ∈ ch, (b ∈ X.ex ∨ X.s₀.heap.objs.size ≤ b) ∧ b ≠ X.env.locals ∧ (∀ x c, X.env.cells.lookup x = some c → c ≠ b) ∧ ∀ p ∈ X.pn ++ pins, p.1 ≠ b)
    (keep : ∀ b o, b ≠ X.env.locals → b ∉ X.fs → b ∉ ch → s.heap.get? b = some o → H b = none → h'.get? b = some o)
    (slot : ∀ b o, b ≠ X.env.locals → b ∈ X.fs → b ∉ ch → s.heap.get? b = some o → H b = none → ∃ sl, h'.get? b = some { o with slots := sl }) (free : ∀ b o, b ∉ ch → s.heap.get? b = some o → H b = none → H' b = none)
    (there : ∀ b o, b ∉ ch → s.heap.get? b = some o → ∃ o', h'.get? b = some o')
    (tups : ∀ b xs, H b = some (.tup xs) → H' b = some (.tup xs)) (frzs : ∀ b o u, H b = some (.frz o u) → H' b = some (.frz o u)) (tbls : ∀ b ps, H b = some (.tbl ps) → ∃ more, H' b = some (.tbl (ps ++ more)))
    (ns : ∀ m, s.heap.Ns X.env.locals m → h'.Ns X.env.locals m) (hok : HOk X.prog X.w H' h') (hg : AllBare g') :
    Inv X pins σ H' { s with heap := h', gens := g', drawn := d', toks := t' } := by
  have neL : ∀ b o, X.s₀.heap.get? b = some o → b ≠ X.env.locals := fun b o e => Nat.ne_of_lt (Nat.lt_of_lt_of_le (Heap.lt_size e) I.ok.above)
  have neC : ∀ b o, X.s₀.heap.get? b = some o → b ∉ X.ex → b ∉ ch := fun b o e hx hb => by
    rcases (hch b hb).1 with z | z
    · exact hx z
    · exact absurd (Nat.lt_of_lt_of_le (Heap.lt_size e) z) (Nat.lt_irrefl _)
  have cellK : ∀ x c, X.env.cells.lookup x = some c → ∀ v, s.heap.IsCell c v → h'.IsCell c v := fun x c e v ⟨o, ho, hd⟩ => by
    have nch : c ∉ ch := fun z => (hch c z).2.2.1 x c e rfl
    by_cases hc : c ∈ X.fs
    · obtain ⟨sl, q⟩ := slot c o (I.cne x c e) hc nch ho (I.freeC x c e)
      exact ⟨_, q, hd⟩
    · exact ⟨o, keep c o (I.cne x c e) hc nch ho (I.freeC x c e), hd⟩
  refine ⟨I.ok, I.os, hg, ⟨fun b o e n hb hx => ?_, fun b o e n hb hx => ?_, fun b o e n hx => ?_, fun b o e hx => ?_, fun b xs e => tups b xs (I.base.tups b xs e), fun b o xs e => frzs b o xs (I.base.frzs b o xs e), fun b ps e => ?_⟩, ?_, fun x c e => ?_, ?_, fun x c e => ?_, fun p hp => ?_, hok, I.len⟩
  · exact keep b o (neL b o e) hb (neC b o e hx) (I.base.keep b o e n hb hx) (I.base.free b o e n hx)
  · obtain ⟨sl, e1⟩ := I.base.slot b o e n hb hx
    obtain ⟨sl', e2⟩ := slot b _ (neL b o e) hb (neC b o e hx) e1 (I.base.free b o e n hx)
    exact ⟨sl', e2⟩
  · obtain ⟨o', e1⟩ := I.base.there b o e hx
    exact free b o' (neC b o e hx) e1 (I.base.free b o e n hx)
  · obtain ⟨o', e1⟩ := I.base.there b o e hx
    exact there b o' (neC b o e hx) e1
  · obtain ⟨m1, e1⟩ := I.base.tbls b ps e
    obtain ⟨m2, e2⟩ := tbls b _ e1
    exact ⟨m1 ++ m2, by rw [e2, Array.append_assoc]⟩
  · obtain ⟨m, hn, hl⟩ := I.loc
    refine ⟨m, ns m hn, fun i x v e1 e2 e3 => ?_⟩
    obtain ⟨u, r, l⟩ := hl i x v e1 e2 e3
    refine ⟨u, r, ?_⟩
    rcases l with l | ⟨k, c, e, z⟩
    · exact .inl l
    · exact .inr ⟨k, c, e, cellK x c e _ z⟩
  · obtain ⟨v, z⟩ := I.cell x c e
    exact ⟨v, cellK x c e v z⟩
  · obtain ⟨m, ⟨o, _, _, ho, _⟩, _⟩ := I.loc
    exact free _ o (fun z => (hch _ z).2.1 rfl) ho I.free
  · obtain ⟨v, o, ho, hd⟩ := I.cell x c e
    exact free c o (fun z => (hch c z).2.2.1 x c e rfl) ho (I.freeC x c e)
  · obtain ⟨e, n, ne, nf, d⟩ := I.pin p hp
    have nch : p.1 ∉ ch := fun z => (hch p.1 z).2.2.2 p hp rfl
    exact ⟨keep p.1 p.2 ne nf nch e n, free p.1 p.2 nch e n, ne, nf, d⟩
theorem Inv.un {t' : Nat} (I : Inv X pins σ H s) (u : Un X.fs [] H H' s.heap h') (hok : HOk X.prog X.w H' h') : Inv X pins σ H' { s with heap := h', toks := t' } := by
  obtain ⟨m, ⟨o, es, ep, ho, r⟩, _⟩ := id I.loc
  obtain ⟨sl, hL⟩ := u.any ho I.free (by simp)
  exact I.step (g' := s.gens) (d' := s.drawn) (ch := []) (fun _ z => nomatch z) (fun b o _ hb _ e n => u.keep b o e n hb (by simp)) (fun b o _ hb _ e n => u.slot b o e n hb (by simp)) (fun b o _ e n => u.free b o e n (by simp)) (fun b o _ e => u.there b o e (by simp)) u.tups u.frzs u.tbls (fun m' hm => by
    obtain ⟨o', es', ep', ho', r'⟩ := hm
    rw [ho] at ho'; cases ho'
    exact ⟨_, es', ep', hL, r'⟩) hok I.bare
theorem Inv.call {g' : Array GenState} {t' : Nat} {d' : Drawn} {ch : List Addr} (I : Inv X pins σ H s) (u : Un (frs X.stack) ch H H' s.heap h') (hok : HOk X.prog X.w H' h') (hg : AllBare g')
    (hch : ∀ b ∈ ch, (b ∈ X.ex ∨ X.s₀.heap.objs.size ≤ b) ∧ b ≠ X.env.locals ∧ (∀ x c, X.env.cells.lookup x = some c → c ≠ b) ∧ ∀ p ∈ X.pn ++ pins, p.1 ≠ b) :
    Inv X pins σ H' { s with heap := h', gens := g', drawn := d', toks := t' } := by
  obtain ⟨m, ⟨o, es, ep, ho, r⟩, _⟩ := id I.loc
  obtain ⟨sl, hL⟩ := u.any ho I.free fun z => (hch _ z).2.1 rfl
  exact I.step (ch := ch) hch (fun b o hL hb hc e n => u.keep b o e n (fun z => (List.mem_cons.mp (I.stkSub b z)).elim hL hb) hc) (fun b o _ _ hc e n => u.any e n hc) (fun b o hc e n => u.free b o e n hc) (fun b o hc e => u.there b o e hc) u.tups u.frzs u.tbls (fun m' hm => by
    obtain ⟨o', es', ep', ho', r'⟩ := hm
    rw [ho] at ho'; cases ho'
    exact ⟨_, es', ep', hL, r'⟩) hok hg
theorem Inv.turned {t' : Nat} {it : Addr} (I : Inv X pins σ H s) (k : ∀ b o, b ≠ it → s.heap.get? b = some o → h'.get? b = some o) (hn : H it = none) (hL : it ≠ X.env.locals)
    (h1 : it ∈ X.ex ∨ X.s₀.heap.objs.size ≤ it) (h2 : ∀ x c, X.env.cells.lookup x = some c → c ≠ it) (h3 : ∀ p ∈ X.pn ++ pins, p.1 ≠ it) : Inv X pins σ H { s with heap := h', toks := t' } := by
  have nit : ∀ b u, H b = some u → b ≠ it := fun b u e z => by rw [z, hn] at e; cases e
  refine I.step (g' := s.gens) (d' := s.drawn) (ch := [it]) (fun b hb => ?_) (fun b o _ _ hc e _ => k b o (fun z => hc (by simp [z])) e) (fun b o _ _ hc e _ => ⟨o.slots, k b o (fun z => hc (by simp [z])) e⟩) (fun _ _ _ _ n => n)
    (fun b o hc e => ⟨o, k b o (fun z => hc (by simp [z])) e⟩) (fun _ _ e => e) (fun _ _ _ e => e) (fun b ps e => ⟨#[], by rw [e]; simp⟩) (fun m hm => ?_) (fun b u e => ?_) I.bare
  · have e : b = it := by simpa using hb
    subst e
    exact ⟨h1, hL, h2, h3⟩
  · obtain ⟨o, es, ep, ho, r⟩ := hm
    exact ⟨o, es, ep, k _ o (Ne.symm hL) ho, r⟩
  · refine (I.hok b u e).stay (fun c v hc q => k c v ?_ q) (fun _ q => q) fun _ _ q => q
    rcases hc with z | z
    · rw [z]; exact nit b u e
    · exact nit c _ z
theorem Inv.tok (I : Inv X pins σ H s) (t : Nat) : Inv X pins σ H { s with toks := t } := I.un (h' := s.heap) (t' := t) Un.refl I.hok
theorem Inv.kept {t' : Nat} (I : Inv X pins σ H s) (k : ∀ b u, s.heap.get? b = some u → h'.get? b = some u) : Inv X pins σ H { s with heap := h', toks := t' } := I.un (Un.kept k) (I.hok.kept k)
theorem Inv.laid {a : Addr} {o : HO} {t' : Nat} (I : Inv X pins σ H s) (k : ∀ b u, s.heap.get? b = some u → h'.get? b = some u) (hp : s.heap.objs.size ≤ a) (new : ObjOk X.prog X.w (upd H a o) h' a o) :
    Inv X pins σ (upd H a o) { s with heap := h', toks := t' } := I.un (Un.laid k hp (I.hok.fresh hp)) (I.hok.laid k hp new)
theorem Inv.write {x e : Addr} {o : HO} {t' : Nat} (I : Inv X pins σ H s) (mu : Mut (H x)) (he : e = x ∨ H e = some (.own x)) (k : ∀ b u, b ≠ e → s.heap.get? b = some u → h'.get? b = some u) (heo : ∃ u, h'.get? e = some u)
    (new : ObjOk X.prog X.w (upd H x o) h' x o) : Inv X pins σ (upd H x o) { s with heap := h', toks := t' } := I.un (Un.write mu he k heo) (I.hok.write mu he k heo new)
theorem Inv.pins_of {pins' : List (Addr × Obj)} (I : Inv X pins σ H s) (h : ∀ p ∈ pins', s.heap.get? p.1 = some p.2 ∧ H p.1 = none ∧ p.1 ≠ X.env.locals ∧ p.1 ∉ X.fs ∧ ∀ v, p.2.data ≠ .cell v) : Inv X pins' σ H s :=
  ⟨I.ok, I.os, I.bare, I.base, I.loc, I.cell, I.free, I.freeC, fun p hp => (List.mem_append.mp hp).elim (fun z => I.pin p (List.mem_append_left _ z)) (h p), I.hok, I.len⟩
theorem nodup_ix {N : List Str} (hN : N.Nodup) {i j : Nat} {x : Str} (a : N[i]? = some x) (b : N[j]? = some x) : i = j := by
  obtain ⟨h1, e1⟩ := List.getElem?_eq_some_iff.mp a
  obtain ⟨h2, e2⟩ := List.getElem?_eq_some_iff.mp b
  exact (List.getElem_inj hN).mp (e1.trans e2.symm)
theorem store_ok2 {M : Model} {A : Around} {E : Value → Shared → Prop} {i : Nat} {x : Str} {v : V} {u : Value} {Q : Unit → Shared → Prop} (I : Inv X pins σ H s) (hN : X.N.Nodup) (hi : X.N[i]? = some x) (hx : Loc X.env.scope x) (r : RelV v u)
    (h : ∀ s', Inv X pins (σ.set i (some v)) H s' → (∃ a, Heap.SameBut a s.heap s'.heap ∧ (a = X.env.locals ∨ X.env.cells.lookup x = some a)) → Q () s') (hf : X.fn x = true ∨ X.env.scope.names.lookup x = some .local := by first | exact .inl rfl | exact .inr rfl | assumption) : wpAny M A (storeName X.env x u) Q E s := by
  obtain ⟨m, hn, hl⟩ := id I.loc
  have hcls : (X.env.scope.kind == .class || (X.env.scope.kind == .module && X.env.locals != X.env.globals)) = false := by rw [I.ok.kind]; rfl
  have hiσ : i < σ.length := by rw [I.len]; exact (List.getElem?_eq_some_iff.mp hi).1
  have cne := I.cne
  have tracked : ∀ {a : Addr} {h' : Heap}, (∃ o, s.heap.get? a = some o ∧ H a = none) → Heap.SameBut a s.heap h' → HOk X.prog X.w H h' := fun {a h'} ha hs b ob e => by
    obtain ⟨_, _, hfree⟩ := ha
    refine (I.hok b ob e).stay (fun c w' hc q => (hs.2 c ?_).trans q) (fun _ q => q) fun _ _ q => q
    rintro rfl
    rcases hc with rfl | hc
    · rw [hfree] at e; cases e
    · rw [hfree] at hc; cases hc
  rcases hx with hk | hk
  · refine wpAny_storeName_local hk hn (fun h' hn' hs => ?_) hcls
    obtain ⟨oL, _, _, hoL, _⟩ := id hn
    refine h _ ⟨I.ok, I.os, I.bare, ⟨fun b o e n hb hx => ?_, fun b o e n hb hx => ?_, I.base.free, fun b o e hx => ?_, I.base.tups, I.base.frzs, I.base.tbls⟩, ⟨_, hn', fun j y v' e1 e2 e3 => ?_⟩, fun y c e => ?_, I.free, I.freeC, fun p hp => ?_, tracked ⟨oL, hoL, I.free⟩ hs, by simpa using I.len⟩ ⟨_, hs, .inl rfl⟩
    · exact (hs.2 b (Nat.ne_of_lt (Nat.lt_of_lt_of_le (Heap.lt_size e) I.ok.above))).trans (I.base.keep b o e n hb hx)
    · obtain ⟨sl, e1⟩ := I.base.slot b o e n hb hx
      exact ⟨sl, (hs.2 b (Nat.ne_of_lt (Nat.lt_of_lt_of_le (Heap.lt_size e) I.ok.above))).trans e1⟩
    · obtain ⟨o', e1⟩ := I.base.there b o e hx
      exact ⟨o', (hs.2 b (Nat.ne_of_lt (Nat.lt_of_lt_of_le (Heap.lt_size e) I.ok.above))).trans e1⟩
    · by_cases hj : j = i
      · subst hj
        rw [hi] at e1; cases e1
        rw [List.getElem?_set_self hiσ] at e2
        cases e2
        exact ⟨u, r, .inl ⟨hk, by simp⟩⟩
      · rw [List.getElem?_set_ne (Ne.symm hj)] at e2
        obtain ⟨u', r', q⟩ := hl j y v' e1 e2 e3
        refine ⟨u', r', ?_⟩
        rcases q with ⟨k, e⟩ | ⟨k, c, e, z⟩
        · refine .inl ⟨k, ?_⟩
          have : y ≠ x := fun e => hj (nodup_ix hN e1 (e ▸ hi))
          simp [this, e]
        · exact .inr ⟨k, c, e, z.sameBut hs (cne y c e)⟩
    · obtain ⟨w', z⟩ := I.cell y c e
      exact ⟨w', z.sameBut hs (cne y c e)⟩
    · obtain ⟨e, n, ne, nf, d⟩ := I.pin p hp
      exact ⟨(hs.2 p.1 ne).trans e, n, ne, nf, d⟩
  · have hfn : X.fn x = true := by
      rcases hf with z | z
      · exact z
      · rw [z] at hk; cases hk
    obtain ⟨c, hc⟩ := I.ok.has x (.inl hk)
    obtain ⟨w', z⟩ := I.cell x c hc
    refine wpAny_storeName_cell I.ok.kind hk hc z (fun h' hc' hs => ?_)
    obtain ⟨oc, hoc, hocd⟩ := id z
    refine h { s with heap := h' } ⟨I.ok, I.os, I.bare, ⟨fun b o e n hb hx => ?_, fun b o e n hb hx => ?_, I.base.free, fun b o e hx => ?_, I.base.tups, I.base.frzs, I.base.tbls⟩, ⟨m, hn.sameBut hs (Ne.symm (cne x c hc)), fun j y v' e1 e2 e3 => ?_⟩, fun y c' e => ?_, I.free, I.freeC, fun p hp => ?_, tracked ⟨oc, hoc, I.freeC x c hc⟩ hs, by simpa using I.len⟩ ⟨c, hs, .inr hc⟩
    · exact (hs.2 b (Nat.ne_of_lt (Nat.lt_of_lt_of_le (Heap.lt_size e) (I.ok.cab x c hfn hc)))).trans (I.base.keep b o e n hb hx)
    · obtain ⟨sl, e1⟩ := I.base.slot b o e n hb hx
      exact ⟨sl, (hs.2 b (Nat.ne_of_lt (Nat.lt_of_lt_of_le (Heap.lt_size e) (I.ok.cab x c hfn hc)))).trans e1⟩
    · obtain ⟨o', e1⟩ := I.base.there b o e hx
      exact ⟨o', (hs.2 b (Nat.ne_of_lt (Nat.lt_of_lt_of_le (Heap.lt_size e) (I.ok.cab x c hfn hc)))).trans e1⟩
    · by_cases hj : j = i
      · subst hj
        rw [hi] at e1; cases e1
        rw [List.getElem?_set_self hiσ] at e2
        cases e2
        exact ⟨u, r, .inr ⟨.inl hk, c, hc, hc'⟩⟩
      · rw [List.getElem?_set_ne (Ne.symm hj)] at e2
        obtain ⟨u', r', q⟩ := hl j y v' e1 e2 e3
        refine ⟨u', r', ?_⟩
        rcases q with q | ⟨k, c', e, z'⟩
        · exact .inl q
        · refine .inr ⟨k, c', e, z'.sameBut hs ?_⟩
          rintro rfl
          exact hj (nodup_ix hN e1 (I.ok.inj _ _ _ e hc ▸ hi))
    · by_cases hcc : c' = c
      · subst hcc; exact ⟨_, hc'⟩
      · obtain ⟨w2, z2⟩ := I.cell y c' e
        exact ⟨w2, z2.sameBut hs hcc⟩
    · obtain ⟨e, n, ne, nf, d⟩ := I.pin p hp
      refine ⟨(hs.2 p.1 ?_).trans e, n, ne, nf, d⟩
      intro q
      rw [q, hoc] at e
      have q' : oc = p.2 := Option.some.inj e
      exact d w' (by rw [← q']; exact hocd)
theorem store_ok {M : Model} {A : Around} {E : Value → Shared → Prop} {i : Nat} {x : Str} {v : V} {u : Value} {Q : Unit → Shared → Prop} (I : Inv X pins σ H s) (hN : X.N.Nodup) (hi : X.N[i]? = some x) (hx : Loc X.env.scope x) (r : RelV v u)
    (h : ∀ s', Inv X pins (σ.set i (some v)) H s' → Q () s') (hf : X.fn x = true ∨ X.env.scope.names.lookup x = some .local := by first | exact .inl rfl | exact .inr rfl | assumption) : wpAny M A (storeName X.env x u) Q E s :=
  store_ok2 I hN hi hx r (fun s' I' _ => h s' I') hf
theorem Inv.call' {s' : Shared} {ch : List Addr} (I : Inv X pins σ H s) (ho : s'.os = s.os) (u : Un (frs X.stack) ch H H' s.heap s'.heap) (hok : HOk X.prog X.w H' s'.heap) (hg : AllBare s'.gens)
    (hch : ∀ b ∈ ch, (b ∈ X.ex ∨ X.s₀.heap.objs.size ≤ b) ∧ b ≠ X.env.locals ∧ (∀ x c, X.env.cells.lookup x = some c → c ≠ b) ∧ ∀ p ∈ X.pn ++ pins, p.1 ≠ b) : Inv X pins σ H' s' := by
  obtain ⟨h', g', d', t', o'⟩ := s'
  have e : o' = s.os := ho
  subst e
  exact I.call (g' := g') (t' := t') (d' := d') u hok hg hch
end
abbrev XK := Value → Option Addr → Hp → Prop
abbrev St := List (Option V)
abbrev VK := V → Hp → Prop
abbrev TE := St → Hp → VK → Prop
abbrev TT := St → Hp → (Bool → Hp → Prop) → Prop
abbrev TA := St → Hp → (List V → Hp → Prop) → Prop
structure Ends where
  nx : St → Hp → Prop
  rt : VK
  bk : St → Hp → Prop := fun _ _ => False
  ct : St → Hp → Prop := fun _ _ => False
abbrev TS := Ends → St → Hp → Prop
def EP (X : Cx) (pins : List (Addr × Obj)) (σ : St) (Q : VK) (u : Value) (s' : Shared) : Prop := ∃ v H', Inv X pins σ H' s' ∧ RelV v u ∧ Q v H'
def TP (X : Cx) (pins : List (Addr × Obj)) (σ : St) (Q : Bool → Hp → Prop) (b : Bool) (s' : Shared) : Prop := ∃ H', Inv X pins σ H' s' ∧ Q b H'
def AP (X : Cx) (pins : List (Addr × Obj)) (σ : St) (Q : List V → Hp → Prop) (us : List Value) (s' : Shared) : Prop := ∃ vs H', Inv X pins σ H' s' ∧ Vals vs us ∧ Q vs H'
def SP (X : Cx) (pins : List (Addr × Obj)) (D : Ends) (f : Flow) (s' : Shared) : Prop :=
  match f with
  | .next => ∃ σ' H', Inv X pins σ' H' s' ∧ D.nx σ' H'
  | .brk => ∃ σ' H', Inv X pins σ' H' s' ∧ D.bk σ' H'
  | .cont => ∃ σ' H', Inv X pins σ' H' s' ∧ D.ct σ' H'
  | .ret u => ∃ v σ' H', Inv X pins σ' H' s' ∧ RelV v u ∧ D.rt v H'
def PE (X : Cx) (e : Expr) (t : TE) : Prop :=
  ∀ (pins : List (Addr × Obj)) (s : Shared) (σ : St) (H : Hp) (Q : VK), Inv X pins σ H s → t σ H Q → wpAny (model X.prog X.w) X.A (eval e X.env) (EP X pins σ Q) X.xe s
def PT (X : Cx) (e : Expr) (t : TT) : Prop :=
  ∀ (pins : List (Addr × Obj)) (s : Shared) (σ : St) (H : Hp) (Q : Bool → Hp → Prop), Inv X pins σ H s → t σ H Q → wpAny (model X.prog X.w) X.A (isTrue e X.env (eval e X.env)) (TP X pins σ Q) X.xe s
def PW (X : Cx) (e : Expr) (t : TT) : Prop :=
  ∀ (whole : Sem Value) (pins : List (Addr × Obj)) (s : Shared) (σ : St) (H : Hp) (Q : Bool → Hp → Prop), Inv X pins σ H s → t σ H Q → wpAny (model X.prog X.w) X.A (isTrue e X.env whole) (TP X pins σ Q) X.xe s
theorem PW.pt {X : Cx} {e : Expr} {t : TT} (h : PW X e t) : PT X e t := h _
def PA (X : Cx) (es : List Expr) (t : TA) : Prop :=
  ∀ (pos : Pos) (pins : List (Addr × Obj)) (s : Shared) (σ : St) (H : Hp) (Q : List V → Hp → Prop), Inv X pins σ H s → t σ H Q → wpAny (model X.prog X.w) X.A (spliced (backTo pos (starEach es X.env))) (AP X pins σ Q) X.xe s
def PS (X : Cx) (st : Stmt) (t : TS) : Prop :=
  ∀ (pins : List (Addr × Obj)) (s : Shared) (σ : St) (H : Hp) (D : Ends), Inv X pins σ H s → t D σ H → wpAny (model X.prog X.w) X.A (exec st X.env) (SP X pins D) X.xe s
def PSs (X : Cx) (st : List Stmt) (t : TS) : Prop :=
  ∀ (pins : List (Addr × Obj)) (s : Shared) (σ : St) (H : Hp) (D : Ends), Inv X pins σ H s → t D σ H → wpAny (model X.prog X.w) X.A (execs st X.env) (SP X pins D) X.xe s
theorem thn {α : Type} {t : Sem α} {Q Q' : α → Shared → Prop} {M : Model} {A : Around} {E : Value → Shared → Prop} {s : Shared} (h : wpAny M A t Q E s) (hQ : ∀ a s, Q a s → Q' a s) : wpAny M A t Q' E s := wpAny_mono h hQ fun _ _ x => x
end L2
namespace L2
open PySem PySem.Spec PyProof.Rows
section
variable {X : Cx}
def tVar (i : Nat) : TE := fun σ H Q => ∃ v, σ[i]? = some (some v) ∧ Q v H
def tC (v : V) : TE := fun _ H Q => Q v H
theorem pe_var {i : Nat} {x : Str} {pos : Pos} (hN : X.N[i]? = some x) (hv : Vis X.env.scope x) (hd : (x == ("__debug__" : Str)) = false := by decide) (hcd : (x == ("__classdict__" : Str)) = false := by decide) : PE X (.Name x pos) (tVar i) := by
  intro pins s σ H Q I h
  obtain ⟨v, e, h⟩ := h
  obtain ⟨m, hn, hl⟩ := I.loc
  obtain ⟨u, r, l⟩ := hl i x v hN e hv
  have fin : EP X pins σ Q u s := ⟨v, H, I, r, h⟩
  rcases l with ⟨hk, hm⟩ | ⟨hk, c, hc, hcell⟩
  · exact wpAny_Name (wpAny_loadName_local I.ok.kind hk hn hm fin) hd
  · rcases hk with hk | hk
    · exact wpAny_Name (wpAny_loadName_cell I.ok.kind hk hc hcell fin) hd
    · exact wpAny_Name (wpAny_loadName_free I.ok.kind hk hc hcell fin hcd) hd
theorem pe_int {i j pos} : PE X (.Constant (.int i) j pos) (tC (.int i)) := fun _ _ _ H _ I h => wpAny_Constant_int ⟨.int i, H, I.tok _, ⟨_, rfl⟩, h⟩
theorem pe_bl {b j pos} : PE X (.Constant (.bool b) j pos) (tC (.bl b)) := fun _ _ _ H _ I h => Constant_bool ⟨.bl b, H, I, rfl, h⟩
theorem pe_non {j pos} : PE X (.Constant .none j pos) (tC .non) := fun _ _ _ H _ I h => Constant_none ⟨.non, H, I, rfl, h⟩
theorem pe_str {x j pos} : PE X (.Constant (.str x) j pos) (tC (.str x)) := fun _ _ _ H _ I h => Calls.Constant_str ⟨.str x, H, I.tok _, ⟨_, rfl⟩, h⟩
def Gl (X : Cx) (x : Str) : Prop := X.env.kindOf x = some .globalImplicit
theorem ld_glob {E : Value → Shared → Prop} {pins : List (Addr × Obj)} {s : Shared} {σ : St} {H : Hp} {x : Str} {u : Value} {pos : Pos} {Q : Value → Shared → Prop} (I : Inv X pins σ H s) (hg : Gl X x) (hm : X.mg x = some u) (h : Q u s)
    (hd : (x == ("__debug__" : Str)) = false := by decide) : wpAny (model X.prog X.w) X.A (eval (.Name x pos) X.env) Q E s :=
  Calls.Name_function_global I.ok.kind hg (Calls.loadGlobal_global (by rw [I.ok.glob]; exact I.mod.glob.keeps I.bk) hm h) hd
theorem ld_blt {E : Value → Shared → Prop} {pins : List (Addr × Obj)} {s : Shared} {σ : St} {H : Hp} {x : Str} {u : Value} {pos : Pos} {Q : Value → Shared → Prop} (I : Inv X pins σ H s) (hg : Gl X x) (hm : X.mg x = none) (hv : bootBuiltins x = some u) (h : Q u s)
    (hn : x ≠ "__name__" := by decide) (hd : (x == ("__debug__" : Str)) = false := by decide) : wpAny (model X.prog X.w) X.A (eval (.Name x pos) X.env) Q E s := by
  obtain ⟨mb, h1, h2⟩ := I.mod.blt
  exact Calls.Name_function_global I.ok.kind hg (Calls.loadGlobal_builtin (by rw [I.ok.glob]; exact I.mod.glob.keeps I.bk) hm (by rw [I.ok.blt]; exact h1.keeps I.bk) ((h2 x hn).trans hv) h) hd
theorem pe_bltn {x : Str} {v : V} {u : Value} {pos : Pos} (hg : Gl X x) (hm : X.mg x = none) (hv : bootBuiltins x = some u) (r : RelV v u) (hn : x ≠ "__name__" := by decide) (hd : (x == ("__debug__" : Str)) = false := by decide) : PE X (.Name x pos) (tC v) :=
  fun _ _ _ H _ I h => ld_blt I hg hm hv ⟨v, H, I, r, h⟩ hn hd
variable {a b : Expr} {ta tb : TE} {pos : Pos}
def tB (t : TE) : TT := fun σ H Q => t σ H fun x H1 => ∃ c, x = .bl c ∧ Q c H1
theorem pt_val {e : Expr} {t : TE} (h : PE X e t) (he : ∀ whole, isTrue e X.env whole = (do let v ← whole; standAt e.pos; holding [v] (truthy v)) := by intro _; rfl) : PT X e (tB t) := by
  intro pins s σ H Q I hw
  refine isTrue_plain (thn (h pins s σ H _ I hw) fun v s1 ⟨x, H1, I1, r1, q1⟩ => ?_) (he _)
  obtain ⟨d, rfl, q⟩ := q1
  cases r1
  exact wpAny_truthy_bool ⟨H1, I1, q⟩
variable {tA tB' : TT} {rest : List Expr}
def tAnd (t u : TT) : TT := fun σ H Q => t σ H fun c H1 => if c = true then u σ H1 Q else Q false H1
def tOr (t u : TT) : TT := fun σ H Q => t σ H fun c H1 => if c = true then Q true H1 else u σ H1 Q
def tNot (t : TT) : TT := fun σ H Q => t σ H fun c H1 => Q (!c) H1
theorem pw_and1 (ha : PT X a tA) : PW X (.BoolOp .And [a] pos) tA := by
  intro wh pins s σ H Q I h
  refine isTrue_and (thn (ha pins s σ H Q I h) fun c s1 e => ?_)
  cases c with
  | true => exact isTrue_and_nil e
  | false => exact e
theorem pw_or1 (ha : PT X a tA) : PW X (.BoolOp .Or [a] pos) tA := by
  intro wh pins s σ H Q I h
  refine isTrue_or (thn (ha pins s σ H Q I h) fun c s1 e => ?_)
  cases c with
  | false => exact isTrue_or_nil e
  | true => exact e
theorem pw_and (ha : PT X a tA) (hb : PW X (.BoolOp .And (b :: rest) pos) tB') : PW X (.BoolOp .And (a :: b :: rest) pos) (tAnd tA tB') := by
  intro wh pins s σ H Q I h
  refine isTrue_and (thn (ha pins s σ H _ I h) fun c s1 ⟨H1, I1, q1⟩ => ?_)
  cases c with
  | true => exact hb wh pins s1 σ H1 Q I1 q1
  | false => exact ⟨H1, I1, q1⟩
theorem pw_or (ha : PT X a tA) (hb : PW X (.BoolOp .Or (b :: rest) pos) tB') : PW X (.BoolOp .Or (a :: b :: rest) pos) (tOr tA tB') := by
  intro wh pins s σ H Q I h
  refine isTrue_or (thn (ha pins s σ H _ I h) fun c s1 ⟨H1, I1, q1⟩ => ?_)
  cases c with
  | true => exact ⟨H1, I1, q1⟩
  | false => exact hb wh pins s1 σ H1 Q I1 q1
theorem pt_not (ha : PT X a tA) : PT X (.UnaryOp .Not a pos) (tNot tA) := by
  intro pins s σ H Q I h
  exact isTrue_not (ha pins s σ H (fun c H1 => Q (!c) H1) I h)
def tAndV (ta tb : TE) : TE := fun σ H Q => ta σ H fun x H1 => ∃ c, x = .bl c ∧ if c = true then tb σ H1 Q else Q (.bl false) H1
def tOrV (ta tb : TE) : TE := fun σ H Q => ta σ H fun x H1 => ∃ c, x = .bl c ∧ if c = true then Q (.bl true) H1 else tb σ H1 Q
def tNotV (ta : TE) : TE := fun σ H Q => ta σ H fun x H1 => ∃ c, x = .bl c ∧ Q (.bl (!c)) H1
theorem pe_one {op} {t : TE} (h : PE X a t) : PE X (.BoolOp op [a] pos) t := fun pins s σ H Q I hw => BoolOp_one (h pins s σ H Q I hw)
theorem pe_and (ha : PE X a ta) (hb : PE X (.BoolOp .And (b :: rest) pos) tb) : PE X (.BoolOp .And (a :: b :: rest) pos) (tAndV ta tb) := by
  intro pins s σ H Q I h
  refine BoolOp_and (thn (ha pins s σ H _ I h) fun v s1 ⟨x, H1, I1, r1, q1⟩ => ?_)
  obtain ⟨c, rfl, q1⟩ := q1
  cases r1
  refine wpAny_truthy_bool ?_
  cases c with
  | true => exact hb pins s1 σ H1 Q I1 q1
  | false => exact ⟨.bl false, H1, I1, rfl, q1⟩
theorem pe_or (ha : PE X a ta) (hb : PE X (.BoolOp .Or (b :: rest) pos) tb) : PE X (.BoolOp .Or (a :: b :: rest) pos) (tOrV ta tb) := by
  intro pins s σ H Q I h
  refine BoolOp_or (thn (ha pins s σ H _ I h) fun v s1 ⟨x, H1, I1, r1, q1⟩ => ?_)
  obtain ⟨c, rfl, q1⟩ := q1
  cases r1
  refine wpAny_truthy_bool ?_
  cases c with
  | false => exact hb pins s1 σ H1 Q I1 q1
  | true => exact ⟨.bl true, H1, I1, rfl, q1⟩
theorem pe_not (ha : PE X a ta) : PE X (.UnaryOp .Not a pos) (tNotV ta) := by
  intro pins s σ H Q I h
  refine UnaryOp_ (thn (ha pins s σ H _ I h) fun v s1 ⟨x, H1, I1, r1, q1⟩ => ?_)
  obtain ⟨c, rfl, q1⟩ := q1
  cases r1
  exact not_of (wpAny_truthy_bool ⟨.bl (!c), H1, I1, rfl, q1⟩)
end
end L2
namespace L2
open PySem PySem.Spec PyProof.Rows
def SqL (K : PySem.W.Frag) (H : Hp) (a : Addr) (xs : List V) : Prop :=
  Rd H a (.lst xs) ∨
    ∃ (o : Obj) (its : Array Value) (n : Nat), K.lookup a = some o ∧ o.cls = .type "list" ∧ o.dict = none ∧ o.data = .seq its n ∧ its.size ≤ sizeLine ∧ Vals xs its.toList
def SqT (K : PySem.W.Frag) (H : Hp) (a : Addr) (xs : List V) : Prop :=
  Rd H a (.tup xs) ∨
    ∃ (o : Obj) (its : Array Value) (n : Nat), K.lookup a = some o ∧ o.cls = .type "tuple" ∧ o.data = .seq its n ∧ its.size ≤ sizeLine ∧ Vals xs its.toList
def absV : Value → Option V
  | .none => some .non
  | .bool b => some (.bl b)
  | .int i _ => some (.int i)
  | .str x _ => some (.str x)
  | .bytes b _ => some (.byt b)
  | .float b _ => some (.flt b)
  | .ref a => some (.ref a)
  | .type n => some (.ty n)
  | _ => none
theorem RelV.abs {x : V} {u : Value} (r : RelV x u) : absV u = some x := by
  cases x with
  | non => cases r; rfl
  | bl _ => cases r; rfl
  | int _ => obtain ⟨t, rfl⟩ := r; rfl
  | str _ => obtain ⟨t, rfl⟩ := r; rfl
  | byt _ => obtain ⟨t, rfl⟩ := r; rfl
  | flt _ => obtain ⟨t, rfl⟩ := r; rfl
  | ref _ => cases r; rfl
  | ty _ => cases r; rfl
theorem RelV.inj {x y : V} {u : Value} (r : RelV x u) (q : RelV y u) : x = y := Option.some.inj (r.abs.symm.trans q.abs)
theorem Vals.inj : ∀ {xs ys : List V} {us : List Value}, Vals xs us → Vals ys us → xs = ys
  | _, _, _, .nil, .nil => rfl
  | _, _, _, .cons r t, .cons r' t' => by rw [r.inj r', Vals.inj t t']
section
variable {X : Cx} {pins : List (Addr × Obj)} {σ : St} {H : Hp} {s : Shared} {a : Addr} {xs ys : List V}
theorem Inv.list (I : Inv X pins σ H s) (h : SqL X.K H a xs) : ∃ its : List Value, Vals xs its ∧ PlainL s.heap a its.toArray ∧ xs.length ≤ sizeLine := by
  rcases h with h | ⟨o, its, n, hk, hc, hd, hs, hz, r⟩
  · obtain ⟨z, its, n, r, e⟩ := h.ok I.hok
    exact ⟨its, r, ⟨_, n, e, rfl, rfl, rfl⟩, z⟩
  · refine ⟨its.toList, r, ⟨o, n, I.kIn a o hk, hc, hd, by simpa using hs⟩, ?_⟩
    have e := r.length
    simp only [Array.length_toList] at e
    omega
theorem Inv.tuple (I : Inv X pins σ H s) (h : SqT X.K H a xs) : ∃ its : List Value, Vals xs its ∧ IsTup s.heap a its.toArray ∧ xs.length ≤ sizeLine := by
  rcases h with h | ⟨o, its, n, hk, hc, hs, hz, r⟩
  · obtain ⟨z, its, r, p⟩ := h.ok I.hok
    exact ⟨its, r, p, z⟩
  · refine ⟨its.toList, r, ⟨o, I.kIn a o hk, hc, n, by simpa using hs⟩, ?_⟩
    have e := r.length
    simp only [Array.length_toList] at e
    omega
theorem Inv.list_inj (I : Inv X pins σ H s) (h : SqL X.K H a xs) (h' : SqL X.K H a ys) : xs = ys := by
  obtain ⟨its, r, ⟨o, n, e, _, _, d⟩, _⟩ := I.list h
  obtain ⟨its', r', ⟨o', n', e', _, _, d'⟩, _⟩ := I.list h'
  rw [e] at e'; cases e'
  rw [d] at d'
  injection d' with d1 _
  have : its = its' := by simpa using congrArg Array.toList d1
  subst this
  exact r.inj r'
end
abbrev Cx.wish (X : Cx) (E : Value → Shared → Prop) : Cx := { X with xe := E }
abbrev Cx.nox (X : Cx) : Cx := X.wish fun _ _ => False
theorem Cx.Ok.wish {X : Cx} (ok : X.Ok) (E : Value → Shared → Prop) : (X.wish E).Ok :=
  ⟨ok.mod, ok.kind, ok.glob, ok.blt, ok.above, ok.inj, ok.has, ok.cab, ok.hd, ok.frames, ok.stk, ok.exf, ok.bs, ok.bsz, ok.noex, ok.exfs, ok.funs, ok.frf⟩
theorem Cx.Ok.unwish {X : Cx} {E : Value → Shared → Prop} (ok : (X.wish E).Ok) : X.Ok :=
  ⟨ok.mod, ok.kind, ok.glob, ok.blt, ok.above, ok.inj, ok.has, ok.cab, ok.hd, ok.frames, ok.stk, ok.exf, ok.bs, ok.bsz, ok.noex, ok.exfs, ok.funs, ok.frf⟩
section
variable {X : Cx} {pins : List (Addr × Obj)} {σ : St} {H : Hp} {s : Shared} {E : Value → Shared → Prop}
theorem Inv.wish (I : Inv X pins σ H s) (E : Value → Shared → Prop) : Inv (X.wish E) pins σ H s := ⟨I.ok.wish E, I.os, I.bare, I.base, I.loc, I.cell, I.free, I.freeC, I.pin, I.hok, I.len⟩
theorem Inv.unwish (I : Inv (X.wish E) pins σ H s) : Inv X pins σ H s := ⟨I.ok.unwish, I.os, I.bare, I.base, I.loc, I.cell, I.free, I.freeC, I.pin, I.hok, I.len⟩
theorem SP.unwish {D : Ends} {f : Flow} {s' : Shared} (h : SP (X.wish E) pins D f s') : SP X pins D f s' := by
  cases f with
  | next => obtain ⟨σ', H', I, q⟩ := h; exact ⟨σ', H', I.unwish, q⟩
  | brk => obtain ⟨σ', H', I, q⟩ := h; exact ⟨σ', H', I.unwish, q⟩
  | cont => obtain ⟨σ', H', I, q⟩ := h; exact ⟨σ', H', I.unwish, q⟩
  | ret u => obtain ⟨v, σ', H', I, r, q⟩ := h; exact ⟨v, σ', H', I.unwish, r, q⟩
theorem PSs.nox {st : List Stmt} {t : TS} (h : PSs X.nox st t) : PSs X st t := fun pins s σ H D I hw =>
  wpAny_mono (h pins s σ H D (I.wish _) hw) (fun _ _ q => q.unwish) fun _ _ z => False.elim z
end
section
variable {X : Cx} {st : Stmt} {rest : List Stmt} {t u : TS} {e : Expr} {te : TE} {pos : Pos}
def tNext : TS := fun D σ H => D.nx σ H
def tSeq (t u : TS) : TS := fun D σ H => t { D with nx := u D } σ H
theorem pss_nil : PSs X [] tNext := fun _ _ σ H _ I h => wpAny_execs_nil ⟨σ, H, I, h⟩
theorem pss_cons (h1 : PS X st t) (h2 : PSs X rest u) : PSs X (st :: rest) (tSeq t u) := by
  intro pins s σ H D I h
  refine wpAny_execs_cons (thn (h1 pins s σ H { D with nx := u D } I h) fun f s1 q => ?_)
  cases f with
  | next =>
    obtain ⟨σ', H', I', q⟩ := q
    exact h2 pins s1 σ' H' D I' q
  | ret v => exact q
  | brk => exact q
  | cont => exact q
theorem pss_one (h1 : PS X st t) : PSs X [st] t := by
  intro pins s σ H D I h
  refine wpAny_execs_cons (thn (h1 pins s σ H D I h) fun f s1 q => ?_)
  cases f with
  | next => exact wpAny_execs_nil q
  | ret v => exact q
  | brk => exact q
  | cont => exact q
theorem Inv.quiet {pins : List (Addr × Obj)} {σ : St} {H : Hp} {s : Shared} (I : Inv X pins σ H s) : interactive X.env = false := by simp [interactive, I.ok.kind]
def tDrop (te : TE) : TS := fun D σ H => te σ H fun _ H1 => D.nx σ H1
theorem ps_expr (he : PE X e te) (hs : swapsWith e none pos.line X.env = pure false := by rfl) : PS X (.Expr e pos) (tDrop te) := by
  intro pins s σ H D I h
  exact wpAny_Expr_any (thn (he pins s σ H _ I h) fun v s1 ⟨x, H1, I1, r1, q1⟩ => ⟨σ, H1, I1, q1⟩) I.quiet hs
def tRet (te : TE) : TS := fun D σ H => te σ H D.rt
theorem ps_ret (he : PE X e te) : PS X (.Return (some e) pos) (tRet te) := by
  intro pins s σ H D I h
  exact wpAny_Return_some (thn (he pins s σ H _ I h) fun v s1 ⟨x, H1, I1, r1, q1⟩ => ⟨x, σ, H1, I1, r1, q1⟩)
def tIfS (c : TT) (t u : TS) : TS := fun D σ H => c σ H fun b H1 => if b = true then t D σ H1 else u D σ H1
theorem ps_if {c : Expr} {a b : List Stmt} {tc : TT} (hc : PT X c tc) (ha : PSs X a t) (hb : PSs X b u) : PS X (.If c a b pos) (tIfS tc t u) := by
  intro pins s σ H D I h
  refine wpAny_If (thn (hc pins s σ H _ I h) fun d s1 ⟨H1, I1, q1⟩ => ?_)
  cases d with
  | true => exact ha pins s1 σ H1 D I1 q1
  | false => exact hb pins s1 σ H1 D I1 q1
def tNever : TS := fun _ _ _ => False
theorem ps_never : PS X st tNever := fun _ _ _ _ _ _ h => h.elim
theorem pss_never {sts : List Stmt} : PSs X sts tNever := fun _ _ _ _ _ _ h => h.elim
end
abbrev TG := V → St → Hp → (St → Hp → Prop) → Prop
abbrev TGs := List V → St → Hp → (St → Hp → Prop) → Prop
def PG (X : Cx) (target : Expr) (t : TG) : Prop :=
  ∀ (pins : List (Addr × Obj)) (s : Shared) (σ : St) (H : Hp) (v : V) (u : Value) (Q : St → Hp → Prop), Inv X pins σ H s → RelV v u → t v σ H Q →
    wpAny (model X.prog X.w) X.A (assign target X.env u) (fun _ s' => ∃ σ' H', Inv X pins σ' H' s' ∧ Q σ' H') X.xe s
def PGs (X : Cx) (ts : List Expr) (t : TGs) : Prop :=
  ∀ (pins : List (Addr × Obj)) (s : Shared) (σ : St) (H : Hp) (vs : List V) (us : List Value) (Q : St → Hp → Prop), Inv X pins σ H s → Vals vs us → t vs σ H Q →
    wpAny (model X.prog X.w) X.A (assignInOrder ((assignEach ts X.env).map (·.2)) us) (fun _ s' => ∃ σ' H', Inv X pins σ' H' s' ∧ Q σ' H') X.xe s
abbrev TSet := V → V → V → Hp → (Hp → Prop) → Prop
def PSet (X : Cx) (t : TSet) : Prop :=
  ∀ (pins : List (Addr × Obj)) (s : Shared) (σ : St) (H : Hp) (o i v : V) (ov iv u : Value) (Q : Hp → Prop), Inv X pins σ H s → RelV o ov → RelV i iv → RelV v u → t o i v H Q →
    wpAny (model X.prog X.w) X.A (setItem ov iv u) (fun _ s' => ∃ H', Inv X pins σ H' s' ∧ Q H') X.xe s
section
variable {X : Cx} {pos : Pos}
def gName (i : Nat) : TG := fun v σ H Q => Q (σ.set i (some v)) H
theorem pg_name {i : Nat} {x : Str} (hN : X.N.Nodup) (hi : X.N[i]? = some x) (hx : Loc X.env.scope x) (hf : X.fn x = true ∨ X.env.scope.names.lookup x = some .local := by first | exact .inl rfl | exact .inr rfl | assumption) : PG X (.Name x pos) (gName i) := by
  intro pins s σ H v u Q I r h
  exact wpAny_assign_Name (store_ok I hN hi hx r (fun s' I' => ⟨_, H, I', h⟩) hf)
def gNil : TGs := fun vs σ H Q => vs = [] ∧ Q σ H
def gCons (t : TG) (u : TGs) : TGs := fun vs σ H Q => ∃ v r, vs = v :: r ∧ t v σ H fun σ' H' => u r σ' H' Q
theorem pgs_nil : PGs X [] gNil := by
  intro pins s σ H vs us Q I r h
  obtain ⟨e, h⟩ := h
  subst e
  cases r
  exact assignInOrder_nil ⟨σ, H, I, h⟩
theorem pgs_cons {e : Expr} {es : List Expr} {t : TG} {u : TGs} (h1 : PG X e t) (h2 : PGs X es u)
    (hs : (assignEach (e :: es) X.env).map (·.2) = assign e X.env :: (assignEach es X.env).map (·.2) := by rfl) : PGs X (e :: es) (gCons t u) := by
  intro pins s σ H vs us Q I r h
  obtain ⟨v, vr, e1, h⟩ := h
  subst e1
  cases r with
  | cons r rr =>
    rw [hs]
    refine assignInOrder_cons (thn (h1 pins s σ H _ _ _ I r h) fun _ s1 ⟨σ1, H1, I1, q1⟩ => ?_)
    exact h2 pins s1 σ1 H1 _ _ Q I1 rr q1
def gTup (K : PySem.W.Frag) (n : Nat) (t : TGs) : TG := fun v σ H Q => ∃ a xs, v = .ref a ∧ SqT K H a xs ∧ xs.length = n ∧ t xs σ H Q
theorem pg_tup {es : List Expr} {k : Nat} {t : TGs} {n : Nat} (hc : X.calm = true) (h : PGs X es t)
    (hn : (assignEach es X.env).length = n := by rfl) (hst : (assignEach es X.env).findIdx? (·.1) = none := by rfl) : PG X (.Tuple es k pos) (gTup X.K n t) := by
  intro pins s σ H v u Q I r hw
  obtain ⟨a, xs, e1, hq, hl, hw⟩ := hw
  subst e1
  cases r
  obtain ⟨its, rv, ht, hz⟩ := I.tuple hq
  refine assign_Tuple_tuple (I.ok.hd hc) ht (by simp [hn, ← hl, rv.length]) hst fun h' hx => ?_
  have I1 : Inv X pins σ H { s with heap := h' } := I.kept (t' := s.toks) fun b o e => hx b o (Nat.ne_of_lt (Heap.lt_size e)) e
  exact h pins _ σ H xs _ Q I1 (by simpa using rv) hw
def gSub (to ti : TE) (t : TSet) : TG := fun v σ H Q => to σ H fun o H1 => ti σ H1 fun i H2 => t o i v H2 fun H3 => Q σ H3
theorem pg_sub {o i : Expr} {to ti : TE} {t : TSet} (ho : PE X o to) (hi : PE X i ti) (hs : PSet X t)
    (ha : ∀ v, assign (.Subscript o i pos) X.env v = (do
      let ov ← holding [v] (eval o X.env)
      let iv ← holding [v, ov] (eval i X.env)
      standAt pos
      holding [v, ov, iv] (setItem ov iv v)
      release [v, ov, iv] []) := by intro _; rfl) : PG X (.Subscript o i pos) (gSub to ti t) := by
  intro pins s σ H v u Q I r h
  rw [ha]
  refine wpAny_bind (wpAny_holding (thn (ho pins s σ H _ I h) fun ov s1 ⟨x, H1, I1, r1, q1⟩ => ?_))
  refine wpAny_bind (wpAny_holding (thn (hi pins s1 σ H1 _ I1 q1) fun iv s2 ⟨y, H2, I2, r2, q2⟩ => ?_))
  refine wpAny_bind (wpAny_standAt (wpAny_bind (wpAny_holding (thn (hs pins s2 σ H2 x y v ov iv u _ I2 r1 r2 r q2) fun _ s3 ⟨H3, I3, q3⟩ => ?_))))
  exact wpAny_release ⟨σ, H3, I3, q3⟩
def tAsg (te : TE) (g : TG) : TS := fun D σ H => te σ H fun x H1 => g x σ H1 D.nx
theorem ps_asg {tg e : Expr} {te : TE} {g : TG} (he : PE X e te) (hg : PG X tg g) (hs : swapsWithSole [tg] e pos.line X.env = pure false := by rfl) (hw : swappedStores [tg] e X.env = pure none := by rfl)
    (h1 : (assignEach [tg] X.env).map (·.2) = [assign tg X.env] := by rfl) : PS X (.Assign [tg] e pos) (tAsg te g) := by
  intro pins s σ H D I h
  refine wpAny_Assign_stores (thn (he pins s σ H _ I h) fun v s1 ⟨x, H1, I1, r1, q1⟩ => ?_) hs hw
  rw [h1]
  exact thn (hg pins s1 σ H1 x v _ I1 r1 q1) fun _ s2 q => q
theorem ps_set {i : Nat} {x : Str} {e : Expr} {te : TE} {pos' : Pos} (hN : X.N.Nodup) (hi : X.N[i]? = some x) (hx : Loc X.env.scope x) (he : PE X e te) (hs : swapsWith e (some (.Name x pos')) pos.line X.env = pure false := by rfl) (hf : X.fn x = true ∨ X.env.scope.names.lookup x = some .local := by first | exact .inl rfl | exact .inr rfl | assumption) :
    PS X (.Assign [.Name x pos'] e pos) (tAsg te (gName i)) := by
  intro pins s σ H D I h
  refine wpAny_Assign_Name (thn (he pins s σ H _ I h) fun v s1 ⟨y, H1, I1, r1, q1⟩ => ?_) hs
  exact store_ok I1 hN hi hx r1 (fun s2 I2 => ⟨_, H1, I2, q1⟩) hf
end
section
variable {X : Cx} {pos : Pos}
def tWhile (c : TT) (tb : TS) : TS := fun D σ H => ∃ W : Nat → St → Hp → Prop, (∃ m, W m σ H) ∧ ∀ m σ H, W m σ H →
  c σ H fun b H1 => if b = true then ∃ N : St → Hp → Prop, (∀ σ' H', N σ' H' → ∃ m', m' < m ∧ W m' σ' H') ∧ tb { D with nx := N, ct := N, bk := D.nx } σ H1 else D.nx σ H1
theorem ps_while {c : Expr} {body : List Stmt} {tc : TT} {tb : TS} (hp : PassesOwn (model X.prog X.w) X.A X.env X.xe) (hc : PT X c tc) (hb : PSs X body tb) : PS X (.While c body [] pos) (tWhile tc tb) := by
  intro pins s σ H D I h
  obtain ⟨W, ⟨m0, w0⟩, turn⟩ := h
  refine wpAny_While (codeAny_whileLoop (fun n s' => ∃ σ' H', Inv X pins σ' H' s' ∧ W n σ' H') ?_ m0 ⟨σ, H, I, w0⟩)
  rintro n s1 ⟨σ1, H1, I1, w1⟩
  refine wpAny_passesOwn hp (thn (hc pins s1 σ1 H1 _ I1 (turn n σ1 H1 w1)) fun b s2 ⟨H2, I2, q2⟩ => ?_)
  cases b with
  | true =>
    obtain ⟨N, hN, q2⟩ := q2
    rw [if_pos rfl]
    refine wpAny_passesOwn hp (thn (hb pins s2 σ1 H2 _ I2 q2) fun f s3 q3 => ?_)
    cases f with
    | next =>
      obtain ⟨σ3, H3, I3, n3⟩ := q3
      obtain ⟨m', hm, w3⟩ := hN σ3 H3 n3
      exact ⟨m', hm, σ3, H3, I3, w3⟩
    | cont =>
      obtain ⟨σ3, H3, I3, n3⟩ := q3
      obtain ⟨m', hm, w3⟩ := hN σ3 H3 n3
      exact ⟨m', hm, σ3, H3, I3, w3⟩
    | brk => exact q3
    | ret v => exact q3
  | false =>
    rw [if_neg Bool.false_ne_true]
    exact wpAny_execs_nil ⟨σ1, H2, I2, q2⟩
end
structure It where
  go : Nat → Hp → Prop
  yld : Nat → Hp → V → Hp → Prop
  stop : Nat → Hp → Prop
def FpOk (X : Cx) (pins : List (Addr × Obj)) (H : Hp) (b : Addr) : Prop :=
  H b = none ∧ b ≠ X.env.locals ∧ b ∉ X.fs ∧ (b ∈ X.ex ∨ X.s₀.heap.objs.size ≤ b) ∧ (∀ x c, X.env.cells.lookup x = some c → c ≠ b) ∧ ∀ p ∈ X.pn ++ pins, p.1 ≠ b
theorem Inv.fpOk {X : Cx} {pins : List (Addr × Obj)} {σ : St} {H H' : Hp} {s : Shared} {b : Addr} (I : Inv X pins σ H s) (hb : s.heap.objs.size ≤ b) (hn : H' b = none) : FpOk X pins H' b := by
  refine ⟨hn, Nat.ne_of_gt (Nat.lt_of_lt_of_le I.lt hb), I.nofs hb, .inr (Nat.le_trans I.sz hb), fun x c e z => ?_, fun p hp z => ?_⟩
  · obtain ⟨v, q⟩ := I.cell x c e
    exact absurd (Nat.lt_of_lt_of_le q.lt (by rw [z]; exact hb)) (Nat.lt_irrefl _)
  · exact absurd (Nat.lt_of_lt_of_le (Heap.lt_size (I.pin p hp).1) (by rw [z]; exact hb)) (Nat.lt_irrefl _)
structure Turn (P : Program) (w : World) (K : PySem.W.Frag) (tg : Expr) (J : It) (fp : List Addr) (it : Addr) (tn : Nat → Heap → Prop) : Prop where
  mem : it ∈ fp
  obj : ∀ i h, tn i h → ∀ b ∈ fp, ∃ o, h.get? b = some o ∧ ∀ v, o.data ≠ .cell v
  keep : ∀ i h h', tn i h → (∀ b ∈ fp, ∀ o, h.get? b = some o → h'.get? b = some o) → tn i h'
  item : ∀ (X : Cx), X.prog = P → X.w = w → X.K = K → X.calm = true → ∀ (i : Nat) (pins : List (Addr × Obj)) (s : Shared) (σ : St) (H : Hp) (E : Value → Shared → Prop), Inv X pins σ H s → (∀ b ∈ fp, FpOk X pins H b) → tn i s.heap → J.go i H →
    wpAny (model P w) X.A (pyNext (.ref it)) (fun r s1 => ∃ u, r = some u ∧
      wpAny (model P w) X.A (letOwnedTupleGo tg (.ref it) u) (fun _ s2 => ∃ x H', Inv X pins σ H' s2 ∧ RelV x u ∧ J.yld i H x H' ∧ tn (i + 1) s2.heap ∧ ∀ b ∈ fp, H' b = none) E s1) E s
  done : ∀ (X : Cx), X.prog = P → X.w = w → X.K = K → X.calm = true → ∀ (i : Nat) (pins : List (Addr × Obj)) (s : Shared) (σ : St) (H : Hp) (E : Value → Shared → Prop), Inv X pins σ H s → (∀ b ∈ fp, FpOk X pins H b) → tn i s.heap → J.stop i H →
    wpAny (model P w) X.A (pyNext (.ref it)) (fun r s1 => r = none ∧ Inv X pins σ H s1) E s
  self : ∀ (A : Around) (i : Nat) (s : Shared) (Q : Value → Shared → Prop) (E : Value → Shared → Prop), tn i s.heap → Q (.ref it) s → wpAny (model P w) A (pyIter (.ref it)) Q E s
abbrev TI := St → Hp → (It → Hp → Prop) → Prop
def PIE (X : Cx) (pins : List (Addr × Obj)) (σ : St) (tg : Expr) (R : It → Hp → Prop) (itv : Value) (s2 : Shared) : Prop :=
  ∃ (it : Addr) (fp : List Addr) (tn : Nat → Heap → Prop) (J : It) (H' : Hp), itv = .ref it ∧ Inv X pins σ H' s2 ∧ Turn X.prog X.w X.K tg J fp it tn ∧ tn 0 s2.heap ∧ (∀ b ∈ fp, FpOk X pins H' b) ∧ R J H'
def PI (X : Cx) (tg iter : Expr) (wi : TI) : Prop :=
  ∀ (pins : List (Addr × Obj)) (s : Shared) (σ : St) (H : Hp) (R : It → Hp → Prop), Inv X pins σ H s → wi σ H R →
    wpAny (model X.prog X.w) X.A (eval iter X.env) (fun v s1 => wpAny (model X.prog X.w) X.A (pyIter v) (PIE X pins σ tg R) X.xe s1) X.xe s
theorem go_of {M : Model} {A : Around} {E : Value → Shared → Prop} {s : Shared} {tg : Expr} {it : Addr} {u : Value} {o : Obj} {n : String} {vs : Array Value} {Q : Unit → Shared → Prop} (ho : s.heap.get? it = some o) (hc : o.cls = .type n) (hd : o.data = .fields vs)
    (hn : ["enumerate", "zip", "dict_itemiterator", "dict_reverseitemiterator", "odict_iterator", "itertools.zip_longest", "itertools.pairwise"].contains n = false) (hQ : Q () s) : wpAny M A (letOwnedTupleGo tg (.ref it) u) Q E s := by
  unfold letOwnedTupleGo
  cases tg <;> first
    | exact wpAny_pure hQ
    | (cases u <;> first
        | exact wpAny_pure hQ
        | (refine wpAny_bind (wpAny_load ho ?_)
           rw [hc, hd]
           show wpAny M A (if (["enumerate", "zip", "dict_itemiterator", "dict_reverseitemiterator", "odict_iterator", "itertools.zip_longest", "itertools.pairwise"].contains n && vs[0]? == some (rawInt _)) = true then _ else _) Q E s
           rw [if_neg (by intro h; rw [hn, Bool.false_and] at h; cases h)]
           exact wpAny_pure hQ))
def Itl (K : PySem.W.Frag) (a : Addr) : It :=
  ⟨fun i H => ∃ xs x, SqL K H a xs ∧ xs[i]? = some x, fun i H x H' => H' = H ∧ ∀ xs, SqL K H a xs → xs[i]? = some x, fun i H => ∃ xs, SqL K H a xs ∧ xs.length ≤ i⟩
def Itr (lo : Int) (n : Nat) : It := ⟨fun i _ => i < n, fun i H x H' => H' = H ∧ x = .int (lo + i), fun i _ => n ≤ i⟩
theorem turn_list {P : Program} {w : World} {K : PySem.W.Frag} {tg : Expr} (a it : Addr) : Turn P w K tg (Itl K a) [it] it (fun i h => h.IsListIter it a i) where
  mem := by simp
  obj := fun i h st b hb => by
    have e : b = it := by simpa using hb
    subst e
    obtain ⟨o, e, c, d⟩ := st
    exact ⟨o, e, fun v z => by rw [d] at z; cases z⟩
  keep := fun i h h' st k => st.at fun o e => k it (by simp) o e
  item := by
    intro X hP hw hK hc i pins s σ H E I hf st hg
    subst hP hw hK
    obtain ⟨xs, x, hq, hx⟩ := hg
    obtain ⟨its, rv, p, hz⟩ := I.list hq
    obtain ⟨u, hu, ru⟩ := rv.get hx
    obtain ⟨f0, f1, f2, f3, f4, f5⟩ := hf it (by simp)
    refine wpAny_pyNext_list_item st p.isList (x := u) (by simpa using hu) fun h' st' sb => ?_
    have I1 : Inv X pins σ H { s with heap := h' } := I.turned (t' := s.toks) (fun b o hb e => (sb.2 b hb).trans e) f0 f1 f3 f4 f5
    obtain ⟨o, e, c, d⟩ := id st'
    exact ⟨u, rfl, go_of (s := { s with heap := h' }) e c d (by decide) ⟨x, H, I1, ru, ⟨rfl, fun ys hy => by rw [I.list_inj hy hq]; exact hx⟩, st', fun b hb => (hf b hb).1⟩⟩
  done := by
    intro X hP hw hK hc i pins s σ H E I hf st hg
    subst hP hw hK
    obtain ⟨xs, hq, hx⟩ := hg
    obtain ⟨its, rv, p, hz⟩ := I.list hq
    obtain ⟨f0, f1, f2, f3, f4, f5⟩ := hf it (by simp)
    have hl := rv.length
    exact wpAny_pyNext_list_end (I.ok.hd hc) st p.isList (by simp; omega) fun h' eb => ⟨rfl, I.turned (t' := s.toks) (fun b o hb e => eb b o hb e) f0 f1 f3 f4 f5⟩
  self := fun _ _ _ _ _ st h => wpAny_pyIter_listiter st h
theorem turn_range {P : Program} {w : World} {K : PySem.W.Frag} {tg : Expr} (it : Addr) (lo : Int) (n : Nat) : Turn P w K tg (Itr lo n) [it] it (fun i h => IsRangeIter h it (lo + (i : Nat) * 1) ((n : Int) - (i : Nat)) 1) where
  mem := by simp
  obj := fun i h st b hb => by
    have e : b = it := by simpa using hb
    subst e
    exact ⟨_, st, fun v z => by
      have z' : Data.fields _ = Data.cell v := z
      cases z'⟩
  keep := fun i h h' st k => k it (by simp) _ st
  item := by
    intro X hP hw hK hc i pins s σ H E I hf st hg
    subst hP hw hK
    obtain ⟨f0, f1, f2, f3, f4, f5⟩ := hf it (by simp)
    have W := Walks.range (prog := X.prog) (w := X.w) (I.ok.hd hc) it lo 1 n
    refine W.item i s _ _ hg st fun v h' tk hv st' kk => ?_
    obtain ⟨t, rfl⟩ := hv
    have I1 : Inv X pins σ H { s with heap := h', toks := tk } := I.turned (fun b o hb e => kk b o (by simpa using hb) e) f0 f1 f3 f4 f5
    refine ⟨_, rfl, go_of (s := { s with heap := h', toks := tk }) (n := "range_iterator") st' rfl rfl (by decide) ⟨.int (lo + i), H, I1, ⟨t, ?_⟩, ⟨rfl, rfl⟩, st', fun b hb => (hf b hb).1⟩⟩
    rw [Int.mul_one]
  done := by
    intro X hP hw hK hc i pins s σ H E I hf st hg
    subst hP hw hK
    obtain ⟨f0, f1, f2, f3, f4, f5⟩ := hf it (by simp)
    exact wpAny_pyNext_range_end (I.ok.hd hc) st (by have : n ≤ i := hg; omega) fun h' eb => ⟨rfl, I.turned (t' := s.toks) (fun b o hb e => eb b o hb e) f0 f1 f3 f4 f5⟩
  self := fun _ _ _ _ _ st h => wpAny_pyIter_rangeiter st h
end L2
namespace L2
open PySem PySem.Spec PyProof.Rows
section
variable {X : Cx} {tg : Expr}
def iList (K : PySem.W.Frag) (tl : TE) : TI := fun σ H R => tl σ H fun x H1 => ∃ a, x = .ref a ∧ (∃ xs, SqL K H1 a xs) ∧ R (Itl K a) H1
theorem pi_list {l : Expr} {tl : TE} (hl : PE X l tl) : PI X tg l (iList X.K tl) := by
  intro pins s σ H R I h
  refine thn (hl pins s σ H _ I h) fun v s1 ⟨x, H1, I1, r1, q1⟩ => ?_
  obtain ⟨a, e, ⟨xs, hq⟩, q⟩ := q1
  subst e
  cases r1
  obtain ⟨its, rv, p, hz⟩ := I1.list hq
  refine wpAny_pyIter_list p.isList ?_
  refine ⟨s1.heap.objs.size, [s1.heap.objs.size], _, _, H1, rfl, I1.kept (t' := s1.toks) fun b o e => Heap.get?_push_of_some _ e, turn_list a _, ⟨_, Heap.get?_push_size _ rfl, rfl, rfl⟩, fun b hb => ?_, q⟩
  have e : b = s1.heap.objs.size := by simpa using hb
  subst e
  exact I1.fpOk (Nat.le_refl _) (I1.hok.fresh (Nat.le_refl _))
theorem range_it {pins : List (Addr × Obj)} {σ : St} {H : Hp} {s : Shared} {R : It → Hp → Prop} {E : Value → Shared → Prop} {lo hi : Int} {t u v : Tok} {tk : Nat} (I : Inv X pins σ H s) (h1 : -(2 ^ 62) ≤ lo) (h2 : lo < 2 ^ 62) (h3 : -(2 ^ 62) ≤ hi) (h4 : hi < 2 ^ 62)
    (q : R (Itr lo (hi - lo).toNat) H) : wpAny (model X.prog X.w) X.A (pyIter (.ref s.heap.objs.size)) (PIE X pins σ tg R) E { s with heap := s.heap.push { cls := .type "range", data := .fields #[.int lo t, .int hi u, .int 1 v] }, toks := tk } := by
  refine wpAny_pyIter_range (IsRange.new ..) (small_one h1 h2 h3 h4) ?_
  have I1 : Inv X pins σ H { s with heap := s.heap.push { cls := .type "range", data := .fields #[.int lo t, .int hi u, .int 1 v] }, toks := tk } := I.kept fun b o e => Heap.get?_push_of_some _ e
  refine ⟨(s.heap.push { cls := .type "range", data := .fields #[.int lo t, .int hi u, .int 1 v] }).objs.size, [(s.heap.push { cls := .type "range", data := .fields #[.int lo t, .int hi u, .int 1 v] }).objs.size], _, _, H, rfl,
    I1.kept (t' := tk) fun b o e => Heap.get?_push_of_some _ e, turn_range _ lo (hi - lo).toNat, ?_, fun b hb => ?_, q⟩
  · have e1 : lo + ((0 : Nat) : Int) * 1 = lo := by simp
    have e2 : (((hi - lo).toNat : Nat) : Int) - ((0 : Nat) : Int) = Builtin.Range.rangeSize lo hi 1 := by rw [rangeSize_one]; split <;> omega
    show IsRangeIter _ _ (lo + ((0 : Nat) : Int) * 1) ((((hi - lo).toNat : Nat) : Int) - ((0 : Nat) : Int)) 1
    rw [e1, e2]
    exact Heap.get?_push_size _ rfl
  · have e : b = (s.heap.push { cls := .type "range", data := .fields #[.int lo t, .int hi u, .int 1 v] }).objs.size := by simpa using hb
    subst e
    exact I1.fpOk (Nat.le_refl _) (I1.hok.fresh (Nat.le_refl _))
def iRng1 (ta : TA) : TI := fun σ H R => ta σ H fun vs H1 => ∃ j : Int, vs = [.int j] ∧ -(2 ^ 62) ≤ j ∧ j < 2 ^ 62 ∧ R (Itr 0 j.toNat) H1
def iRng2 (ta : TA) : TI := fun σ H R => ta σ H fun vs H1 => ∃ i j : Int, vs = [.int i, .int j] ∧ (-(2 ^ 62) ≤ i ∧ i < 2 ^ 62 ∧ -(2 ^ 62) ≤ j ∧ j < 2 ^ 62) ∧ R (Itr i (j - i).toNat) H1
theorem pi_range1 {a : Expr} {ta : TA} {p pos : Pos} (hg : Gl X "range") (hm : X.mg "range" = none) (ha : PA X [a] ta) (hs : starEach [a] X.env = [(false, eval a X.env)] := by rfl) : PI X tg (.Call (.Name "range" p) [a] [] pos) (iRng1 ta) := by
  intro pins s σ H R I h
  refine Call_ (ld_blt I hg hm boot_range (PyProof.Rows.callWith_type1 (thn (ha pos pins s σ H _ I h) fun us s1 ⟨vs, H1, I1, r1, q1⟩ => ?_) hs rfl))
  obtain ⟨j, e, q1, q2, q⟩ := q1
  subst e
  cases r1 with
  | cons r rr =>
    cases rr
    obtain ⟨t, rfl⟩ := r
    exact call_range_1 (range_it I1 (by omega) (by omega) q1 q2 (by simpa using q))
theorem pi_range2 {a b : Expr} {ta : TA} {p pos : Pos} (hg : Gl X "range") (hm : X.mg "range" = none) (ha : PA X [a, b] ta) (hs : starEach [a, b] X.env = [(false, eval a X.env), (false, eval b X.env)] := by rfl) (hs2 : starEach [b] X.env = [(false, eval b X.env)] := by rfl) :
    PI X tg (.Call (.Name "range" p) [a, b] [] pos) (iRng2 ta) := by
  intro pins s σ H R I h
  refine Call_ (ld_blt I hg hm boot_range (PyProof.Rows.callWith_type1 (thn (ha pos pins s σ H _ I h) fun us s1 ⟨vs, H1, I1, r1, q1⟩ => ?_) (by rw [hs, hs2]) (by rw [hs2]; rfl)))
  obtain ⟨i, j, e, ⟨q1, q2, q3, q4⟩, q⟩ := q1
  subst e
  cases r1 with
  | cons r rr =>
    cases rr with
    | cons r' rr =>
      cases rr
      obtain ⟨t, rfl⟩ := r
      obtain ⟨t', rfl⟩ := r'
      exact call_range_2 (range_it I1 q1 q2 q3 q4 q)
def tFor (wi : TI) (g : TG) (tb : TS) : TS := fun D σ H => wi σ H fun J H1 => ∃ W : Nat → Nat → St → Hp → Prop, (∃ m, W 0 m σ H1) ∧ ∀ i m σ H, W i m σ H →
  (J.stop i H ∧ D.nx σ H) ∨ (J.go i H ∧ ∃ N : St → Hp → Prop, (∀ σ' H', N σ' H' → ∃ m', m' < m ∧ W (i + 1) m' σ' H') ∧ ∀ x H', J.yld i H x H' → g x σ H' fun σ2 H2 => tb { D with nx := N, ct := N, bk := D.nx } σ2 H2)
def pinsAt (fp : List Addr) (h : Heap) : List (Addr × Obj) := fp.filterMap fun b => (h.get? b).map fun o => (b, o)
theorem mem_pinsAt {fp : List Addr} {h : Heap} {b : Addr} {o : Obj} (hb : b ∈ fp) (e : h.get? b = some o) : (b, o) ∈ pinsAt fp h := List.mem_filterMap.mpr ⟨b, hb, by rw [e]; rfl⟩
theorem of_pinsAt {fp : List Addr} {h : Heap} {p : Addr × Obj} (hp : p ∈ pinsAt fp h) : p.1 ∈ fp ∧ h.get? p.1 = some p.2 := by
  obtain ⟨b, hb, e⟩ := List.mem_filterMap.mp hp
  cases q : h.get? b with
  | none => rw [q] at e; cases e
  | some o =>
    rw [q] at e
    have e' : (b, o) = p := Option.some.inj e
    subst e'
    exact ⟨hb, q⟩
theorem Inv.pinned {pins : List (Addr × Obj)} {σ : St} {H : Hp} {s : Shared} {fp : List Addr} (I : Inv X pins σ H s) (hf : ∀ b ∈ fp, FpOk X pins H b) (ho : ∀ b ∈ fp, ∃ o, s.heap.get? b = some o ∧ ∀ v, o.data ≠ .cell v) : Inv X (pins ++ pinsAt fp s.heap) σ H s :=
  I.pins_of fun p hp => (List.mem_append.mp hp).elim (fun z => I.pin p (List.mem_append_right _ z)) fun z => by
    obtain ⟨hb, e⟩ := of_pinsAt z
    obtain ⟨f0, f1, f2, _⟩ := hf p.1 hb
    obtain ⟨o, e', d⟩ := ho p.1 hb
    rw [e] at e'; cases e'
    exact ⟨e, f0, f1, f2, d⟩
theorem Inv.unpinned {pins pl : List (Addr × Obj)} {σ : St} {H : Hp} {s : Shared} (I : Inv X (pins ++ pl) σ H s) : Inv X pins σ H s := I.pins_of fun p hp => I.pin p (List.mem_append_right _ (List.mem_append_left _ hp))
theorem ps_for {iter : Expr} {body : List Stmt} {wi : TI} {g : TG} {tb : TS} {pos : Pos} (hp : PassesOwn (model X.prog X.w) X.A X.env X.xe) (hc : X.calm = true) (hi : PI X tg iter wi) (hg : PG X tg g) (hb : PSs X body tb)
    (hs : ∀ x, foldedSetIterable iter X.env x = pure x := by intro _; rfl) : PS X (.For tg iter body [] pos) (tFor wi g tb) := by
  intro pins s σ H D I h
  refine wpAny_For (thn (hi pins s σ H _ I h) fun v s1 h1 => thn h1 fun itv s2 h2 => ?_) hs
  obtain ⟨it, fp, tn, J, H2, e, I2, T, st2, f2, W, ⟨m0, w0⟩, turn⟩ := h2
  subst e
  have stat : ∀ {H' : Hp}, (∀ b ∈ fp, H' b = none) → ∀ b ∈ fp, FpOk X pins H' b := fun hn b hb => ⟨hn b hb, (f2 b hb).2⟩
  refine codeAny_forLoop_any (fun n s' => ∃ i σ' H', Inv X pins σ' H' s' ∧ tn i s'.heap ∧ (∀ b ∈ fp, H' b = none) ∧ W i n σ' H') ?_ m0 ⟨0, σ, H2, I2, st2, fun b hb => (f2 b hb).1, w0⟩
  rintro n s3 ⟨i, σ3, H3, I3, st3, fr3, w3⟩
  rcases turn i n σ3 H3 w3 with ⟨stop, qn⟩ | ⟨go, N, hN, step⟩
  · refine wpAny_passesOwn hp (thn (T.done X rfl rfl rfl hc i pins s3 σ3 H3 X.xe I3 (stat fr3) st3 stop) fun r s4 ⟨hr, I4⟩ => ?_)
    subst hr
    exact wpAny_execs_nil ⟨σ3, H3, I4, qn⟩
  · refine wpAny_passesOwn hp (thn (T.item X rfl rfl rfl hc i pins s3 σ3 H3 X.xe I3 (stat fr3) st3 go) fun r s4 ⟨u, hr, h4⟩ => ?_)
    subst hr
    refine wpAny_passesOwn hp (thn h4 fun _ s5 ⟨x, H5, I5, r5, y5, st5, fr5⟩ => ?_)
    have I5' := I5.pinned (stat fr5) (T.obj _ _ st5)
    refine wpAny_passesOwn hp (thn (hg _ s5 σ3 H5 x u _ I5' r5 (step x H5 y5)) fun _ s6 ⟨σ6, H6, I6, q6⟩ => ?_)
    refine wpAny_passesOwn hp (thn (hb _ s6 σ6 H6 _ I6 q6) fun f s7 q7 => ?_)
    have again : ∀ {σ7 : St} {H7 : Hp}, Inv X (pins ++ pinsAt fp s5.heap) σ7 H7 s7 → N σ7 H7 → ∃ m, m < n ∧ ∃ i σ' H', Inv X pins σ' H' s7 ∧ tn i s7.heap ∧ (∀ b ∈ fp, H' b = none) ∧ W i m σ' H' := fun {σ7 H7} I7 n7 => by
      obtain ⟨m', hm, w7⟩ := hN σ7 H7 n7
      refine ⟨m', hm, i + 1, σ7, H7, I7.unpinned, T.keep _ _ _ st5 fun b hb o e => (I7.pin (b, o) (List.mem_append_right _ (List.mem_append_right _ (mem_pinsAt hb e)))).1, fun b hb => ?_, w7⟩
      obtain ⟨o, e, d⟩ := T.obj _ _ st5 b hb
      exact (I7.pin (b, o) (List.mem_append_right _ (List.mem_append_right _ (mem_pinsAt hb e)))).2.1
    cases f with
    | next => obtain ⟨σ7, H7, I7, n7⟩ := q7; exact again I7 n7
    | cont => obtain ⟨σ7, H7, I7, n7⟩ := q7; exact again I7 n7
    | brk => obtain ⟨σ7, H7, I7, q7⟩ := q7; exact ⟨σ7, H7, I7.unpinned, q7⟩
    | ret v => obtain ⟨x7, σ7, H7, I7, r7, q7⟩ := q7; exact ⟨x7, σ7, H7, I7.unpinned, r7, q7⟩
end
theorem for_list {K : PySem.W.Frag} {a : Addr} {xs : List V} {g : TG} {tb : TS} {D : Ends} {σ : St} {H : Hp} (Pv : Nat → St → Hp → Prop) (h0 : Pv 0 σ H) (hl : ∀ i σ H, i ≤ xs.length → Pv i σ H → SqL K H a xs)
    (hs : ∀ i x σ H, xs[i]? = some x → Pv i σ H → g x σ H fun σ2 H2 => tb { D with nx := Pv (i + 1), ct := Pv (i + 1), bk := D.nx } σ2 H2) (hd : ∀ σ H, Pv xs.length σ H → D.nx σ H) :
    ∃ W : Nat → Nat → St → Hp → Prop, (∃ m, W 0 m σ H) ∧ ∀ i m σ H, W i m σ H →
      ((Itl K a).stop i H ∧ D.nx σ H) ∨ ((Itl K a).go i H ∧ ∃ N : St → Hp → Prop, (∀ σ' H', N σ' H' → ∃ m', m' < m ∧ W (i + 1) m' σ' H') ∧ ∀ x H', (Itl K a).yld i H x H' → g x σ H' fun σ2 H2 => tb { D with nx := N, ct := N, bk := D.nx } σ2 H2) := by
  refine ⟨fun i m σ H => m = xs.length - i ∧ i ≤ xs.length ∧ Pv i σ H, ⟨xs.length, by simp, Nat.zero_le _, h0⟩, ?_⟩
  rintro i m σ H ⟨rfl, hi, p⟩
  have q := hl i σ H hi p
  by_cases hlt : i < xs.length
  · refine .inr ⟨⟨xs, xs[i], q, by simp [hlt]⟩, Pv (i + 1), fun σ' H' p' => ⟨xs.length - (i + 1), by omega, rfl, hlt, p'⟩, fun x H' y => ?_⟩
    obtain ⟨e, y⟩ := y
    subst e
    exact hs i x σ _ (y xs q) p
  · have e : i = xs.length := by omega
    subst e
    exact .inl ⟨⟨xs, q, Nat.le_refl _⟩, hd σ H p⟩
theorem for_range {lo : Int} {n : Nat} {g : TG} {tb : TS} {D : Ends} {σ : St} {H : Hp} (Pv : Nat → St → Hp → Prop) (h0 : Pv 0 σ H)
    (hs : ∀ i σ H, i < n → Pv i σ H → g (.int (lo + i)) σ H fun σ2 H2 => tb { D with nx := Pv (i + 1), ct := Pv (i + 1), bk := D.nx } σ2 H2) (hd : ∀ σ H, Pv n σ H → D.nx σ H) :
    ∃ W : Nat → Nat → St → Hp → Prop, (∃ m, W 0 m σ H) ∧ ∀ i m σ H, W i m σ H →
      ((Itr lo n).stop i H ∧ D.nx σ H) ∨ ((Itr lo n).go i H ∧ ∃ N : St → Hp → Prop, (∀ σ' H', N σ' H' → ∃ m', m' < m ∧ W (i + 1) m' σ' H') ∧ ∀ x H', (Itr lo n).yld i H x H' → g x σ H' fun σ2 H2 => tb { D with nx := N, ct := N, bk := D.nx } σ2 H2) := by
  refine ⟨fun i m σ H => m = n - i ∧ i ≤ n ∧ Pv i σ H, ⟨n, by simp, Nat.zero_le _, h0⟩, ?_⟩
  rintro i m σ H ⟨rfl, hi, p⟩
  by_cases hlt : i < n
  · refine .inr ⟨hlt, Pv (i + 1), fun σ' H' p' => ⟨n - (i + 1), by omega, rfl, hlt, p'⟩, fun x H' y => ?_⟩
    obtain ⟨e, y⟩ := y
    subst e y
    exact hs i σ _ hlt p
  · have e : i = n := by omega
    subst e
    exact .inl ⟨Nat.le_refl _, hd σ H p⟩
theorem while_by {c : TT} {tb : TS} {D : Ends} {σ : St} {H : Hp} (Pv : St → Hp → Prop) (μ : St → Hp → Nat) (h0 : Pv σ H)
    (hs : ∀ σ H, Pv σ H → c σ H fun b H1 => if b = true then tb { D with nx := fun σ' H' => Pv σ' H' ∧ μ σ' H' < μ σ H, ct := fun σ' H' => Pv σ' H' ∧ μ σ' H' < μ σ H, bk := D.nx } σ H1 else D.nx σ H1)
    (mono : ∀ σ H Q Q', (∀ b H1, Q b H1 → Q' b H1) → c σ H Q → c σ H Q') : tWhile c tb D σ H := by
  refine ⟨fun m σ H => m = μ σ H ∧ Pv σ H, ⟨_, rfl, h0⟩, ?_⟩
  rintro m σ H ⟨rfl, p⟩
  refine mono σ H _ _ (fun b H1 q => ?_) (hs σ H p)
  cases b with
  | true => exact ⟨_, fun σ' H' ⟨p', l⟩ => ⟨_, l, rfl, p'⟩, q⟩
  | false => exact q
end L2
namespace L2
open PySem PySem.Spec PyProof.Rows
abbrev R2 := V → V → Hp → VK → Prop
def OpR (X : Cx) (f : Value → Value → Sem Value) (r : R2) : Prop :=
  ∀ (pins : List (Addr × Obj)) (s : Shared) (σ : St) (H : Hp) (x y : V) (v u : Value) (Q : VK), Inv X pins σ H s → RelV x v → RelV y u → r x y H Q →
    wpAny (model X.prog X.w) X.A (f v u) (EP X pins σ Q) X.xe s
def UnR (X : Cx) (f : Value → Sem Value) (r : V → Hp → VK → Prop) : Prop :=
  ∀ (pins : List (Addr × Obj)) (s : Shared) (σ : St) (H : Hp) (x : V) (v : Value) (Q : VK), Inv X pins σ H s → RelV x v → r x H Q →
    wpAny (model X.prog X.w) X.A (f v) (EP X pins σ Q) X.xe s
def CallR (X : Cx) (f : Value) (r : List V → Hp → VK → Prop) : Prop :=
  ∀ (pins : List (Addr × Obj)) (s : Shared) (σ : St) (H : Hp) (xs : List V) (us : List Value) (Q : VK), Inv X pins σ H s → Vals xs us → r xs H Q →
    wpAny (model X.prog X.w) X.A (call f us) (EP X pins σ Q) X.xe s
def tOp (r : R2) (ta tb : TE) : TE := fun σ H Q => ta σ H fun x H1 => tb σ H1 fun y H2 => r x y H2 Q
def tUn (r : V → Hp → VK → Prop) (ta : TE) : TE := fun σ H Q => ta σ H fun x H1 => r x H1 Q
def rI (C : Int → Int → Prop) (g : Int → Int → V) : R2 := fun x y H Q => ∃ i j, x = .int i ∧ y = .int j ∧ C i j ∧ Q (g i j) H
def rI0 (g : Int → Int → V) : R2 := fun x y H Q => ∃ i j, x = .int i ∧ y = .int j ∧ Q (g i j) H
def rU (g : Int → V) : V → Hp → VK → Prop := fun x H Q => ∃ i, x = .int i ∧ Q (g i) H
section
variable {X : Cx} {a b c : Expr} {ta tb tc : TE} {pos : Pos}
theorem binT (ha : PE X a ta) (hb : PE X b tb) {pins : List (Addr × Obj)} {s : Shared} {σ : St} {H : Hp} {R : V → V → Hp → Prop} (I : Inv X pins σ H s)
    (h : ta σ H fun x H1 => tb σ H1 fun y H2 => R x y H2) {Q : Value → Shared → Prop} {f : Value → Value → Sem Value}
    (hf : ∀ v u s2 x y H2, Inv X pins σ H2 s2 → RelV x v → RelV y u → R x y H2 → wpAny (model X.prog X.w) X.A (f v u) Q X.xe s2) :
    wpAny (model X.prog X.w) X.A (eval a X.env) (fun v s₁ => wpAny (model X.prog X.w) X.A (eval b X.env) (fun u s₂ => wpAny (model X.prog X.w) X.A (f v u) Q X.xe s₂) X.xe s₁) X.xe s := by
  refine thn (ha pins s σ H _ I h) fun v s1 ⟨x, H1, I1, r1, q1⟩ => ?_
  refine thn (hb pins s1 σ H1 _ I1 q1) fun u s2 ⟨y, H2, I2, r2, q2⟩ => ?_
  exact hf v u s2 x y H2 I2 r1 r2 q2
theorem pe_op {op : Operator} {r : R2} (ho : OpR X (binaryOp op) r) (ha : PE X a ta) (hb : PE X b tb) : PE X (.BinOp a op b pos) (tOp r ta tb) := by
  intro pins s σ H Q I h
  exact wpAny_BinOp (binT ha hb I h fun v u s2 x y H2 I2 rx ry q => ho pins s2 σ H2 x y v u Q I2 rx ry q)
theorem pe_un {op : UnaryOp} {r : V → Hp → VK → Prop} (ho : UnR X (unaryOp op) r) (ha : PE X a ta) : PE X (.UnaryOp op a pos) (tUn r ta) := by
  intro pins s σ H Q I h
  exact UnaryOp_ (thn (ha pins s σ H _ I h) fun v s1 ⟨x, H1, I1, r1, q1⟩ => ho pins s1 σ H1 x v Q I1 r1 q1)
theorem opI {f : Value → Value → Sem Value} {C : Int → Int → Prop} {g : Int → Int → Int}
    (rule : ∀ (i j : Int) (t u : Tok) (s : Shared) (Q : Value → Shared → Prop) (E : Value → Shared → Prop), C i j → Q (.int (g i j) s.toks) { s with toks := s.toks + 1 } → wpAny (model X.prog X.w) X.A (f (.int i t) (.int j u)) Q E s) :
    OpR X f (rI C fun i j => .int (g i j)) := by
  intro pins s σ H x y v u Q I rx ry h
  obtain ⟨i, j, rfl, rfl, hc, q⟩ := h
  obtain ⟨t, rfl⟩ := rx
  obtain ⟨t', rfl⟩ := ry
  exact rule i j t t' s _ _ hc ⟨.int (g i j), H, I.tok _, ⟨_, rfl⟩, q⟩
theorem opI0 {f : Value → Value → Sem Value} {g : Int → Int → Int}
    (rule : ∀ (i j : Int) (t u : Tok) (s : Shared) (Q : Value → Shared → Prop) (E : Value → Shared → Prop), Q (.int (g i j) s.toks) { s with toks := s.toks + 1 } → wpAny (model X.prog X.w) X.A (f (.int i t) (.int j u)) Q E s) :
    OpR X f (rI0 fun i j => .int (g i j)) := by
  intro pins s σ H x y v u Q I rx ry h
  obtain ⟨i, j, rfl, rfl, q⟩ := h
  obtain ⟨t, rfl⟩ := rx
  obtain ⟨t', rfl⟩ := ry
  exact rule i j t t' s _ _ ⟨.int (g i j), H, I.tok _, ⟨_, rfl⟩, q⟩
theorem opB0 {f : Value → Value → Sem Value} {g : Int → Int → Bool}
    (rule : ∀ (i j : Int) (t u : Tok) (s : Shared) (Q : Value → Shared → Prop) (E : Value → Shared → Prop), Q (.bool (g i j)) s → wpAny (model X.prog X.w) X.A (f (.int i t) (.int j u)) Q E s) :
    OpR X f (rI0 fun i j => .bl (g i j)) := by
  intro pins s σ H x y v u Q I rx ry h
  obtain ⟨i, j, rfl, rfl, q⟩ := h
  obtain ⟨t, rfl⟩ := rx
  obtain ⟨t', rfl⟩ := ry
  exact rule i j t t' s _ _ ⟨.bl (g i j), H, I, rfl, q⟩
def CDiv (i j : Int) : Prop := 0 < j ∧ j < 1073741824
def CPow (i j : Int) : Prop := 0 ≤ j ∧ j ≤ 1000000 ∧ i.natAbs < 2 ^ 64
def CMul (i j : Int) : Prop := (-(2 ^ 64) < i ∧ i < 2 ^ 64) ∨ (-(2 ^ 64) < j ∧ j < 2 ^ 64)
theorem CMul.ok {i j : Int} (h : CMul i j) : IntMulOk i j := by
  rcases h with ⟨h1, h2⟩ | ⟨h1, h2⟩
  · exact .of_left (intBits_le_64 h1 h2)
  · exact .of_right (intBits_le_64 h1 h2)
theorem op_add : OpR X (binaryOp .Add) (rI0 fun i j => .int (i + j)) := opI0 fun _ _ _ _ _ _ _ q => add_int q
theorem op_sub : OpR X (binaryOp .Sub) (rI0 fun i j => .int (i - j)) := opI0 fun _ _ _ _ _ _ _ q => sub_int q
theorem op_mul : OpR X (binaryOp .Mult) (rI CMul fun i j => .int (i * j)) := opI fun _ _ _ _ _ _ _ hc q => mul_int q hc.ok
theorem op_fdiv : OpR X (binaryOp .FloorDiv) (rI CDiv fun i j => .int (i / j)) := opI fun i j _ _ _ _ _ hc q => by
  have h1 : (0 : Int) < j := hc.1
  have h2 : j < 1073741824 := hc.2
  exact floordiv_int (by omega) (by rw [Int.fdiv_eq_ediv_of_nonneg i (by omega)]; exact q) (.inl (PyProof.noPylong_small (by omega)))
theorem op_mod : OpR X (binaryOp .Mod) (rI (fun _ j => 0 < j) fun i j => .int (i % j)) := opI fun i j _ _ _ _ _ hc q => by
  have h1 : (0 : Int) < j := hc
  exact mod_int' (by omega) (by rw [Int.fmod_eq_emod_of_nonneg i (by omega)]; exact q)
theorem op_pow : OpR X (binaryOp .Pow) (rI CPow fun i j => .int (i ^ j.toNat)) := opI fun _ _ _ _ _ _ _ hc q => pow_int_small hc.1 hc.2.1 hc.2.2 q
theorem unI {f : Value → Sem Value} {g : Int → Int}
    (rule : ∀ (i : Int) (t : Tok) (s : Shared) (Q : Value → Shared → Prop) (E : Value → Shared → Prop), Q (.int (g i) s.toks) { s with toks := s.toks + 1 } → wpAny (model X.prog X.w) X.A (f (.int i t)) Q E s) :
    UnR X f (rU fun i => .int (g i)) := by
  intro pins s σ H x v Q I rx h
  obtain ⟨i, rfl, q⟩ := h
  obtain ⟨t, rfl⟩ := rx
  exact rule i t s _ _ ⟨.int (g i), H, I.tok _, ⟨_, rfl⟩, q⟩
theorem un_neg : UnR X (unaryOp .USub) (rU fun i => .int (-i)) := unI fun _ _ _ _ _ q => neg_int q
end
def scal : V → V → Bool
  | .non, .non => true | .non, .int _ => true | .int _, .non => true | .non, .bl _ => true | .bl _, .non => true | .non, .str _ => true | .str _, .non => true
  | .int _, .int _ => true | .bl _, .bl _ => true | .str _, .str _ => true | .byt _, .byt _ => true
  | .int _, .str _ => true | .str _, .int _ => true | .bl _, .str _ => true | .str _, .bl _ => true
  | _, _ => false
def rEq : R2 := fun x y H Q => scal x y = true ∧ Q (.bl (decide (x = y))) H
def rNe : R2 := fun x y H Q => scal x y = true ∧ Q (.bl (!decide (x = y))) H
theorem dec_int {i j : Int} : decide (V.int i = V.int j) = (i == j) := by
  rw [Bool.eq_iff_iff]
  simp
theorem dec_bl {i j : Bool} : decide (V.bl i = V.bl j) = (i == j) := by
  rw [Bool.eq_iff_iff]
  simp
theorem dec_str {i j : Str} : decide (V.str i = V.str j) = (i == j) := by
  rw [Bool.eq_iff_iff]
  simp
theorem dec_byt {i j : Array UInt8} : decide (V.byt i = V.byt j) = (i.toList == j.toList) := by
  rw [Bool.eq_iff_iff]
  cases i
  cases j
  simp
section
variable {X : Cx} {a b c : Expr} {ta tb tc : TE} {pos : Pos}
theorem fin_bl {pins : List (Addr × Obj)} {σ : St} {H : Hp} {s : Shared} {Q : VK} {k k' : Bool} (I : Inv X pins σ H s) (q : Q (.bl k) H) (e : k = k') : EP X pins σ Q (.bool k') s := by
  subst e
  exact ⟨.bl k, H, I, rfl, q⟩
theorem op_eq : OpR X (compareOp .Eq) rEq := by
  intro pins s σ H x y v u Q I rx ry h
  obtain ⟨hs, q⟩ := h
  cases x with
  | non =>
    cases rx
    cases y with
    | non => cases ry; exact PySem.EqNone.eq_none_none (fin_bl I q (by simp))
    | bl j => cases ry; exact PySem.EqNone.eq_none_bool (fin_bl I q (by simp))
    | int j => obtain ⟨t', rfl⟩ := ry; exact PySem.EqNone.eq_none_int (fin_bl I q (by simp))
    | str j => obtain ⟨t', rfl⟩ := ry; exact PySem.EqNone.eq_none_str (fin_bl I q (by simp))
    | _ => exact absurd (show false = true from hs) Bool.false_ne_true
  | bl i =>
    cases rx
    cases y with
    | non => cases ry; exact PySem.EqNone.eq_bool_none (fin_bl I q (by simp))
    | bl j => cases ry; exact eq_bool (fin_bl I q dec_bl)
    | str j => obtain ⟨t', rfl⟩ := ry; exact PySem.EqMixed.eq_bool_str (fin_bl I q (by simp))
    | _ => exact absurd (show false = true from hs) Bool.false_ne_true
  | int i =>
    obtain ⟨t, rfl⟩ := rx
    cases y with
    | non => cases ry; exact PySem.EqNone.eq_int_none (fin_bl I q (by simp))
    | int j => obtain ⟨t', rfl⟩ := ry; exact eq_int (fin_bl I q dec_int)
    | str j => obtain ⟨t', rfl⟩ := ry; exact PySem.EqMixed.eq_int_str (fin_bl I q (by simp))
    | _ => exact absurd (show false = true from hs) Bool.false_ne_true
  | str i =>
    obtain ⟨t, rfl⟩ := rx
    cases y with
    | non => cases ry; exact PySem.EqNone.eq_str_none (fin_bl I q (by simp))
    | bl j => cases ry; exact PySem.EqMixed.eq_str_bool (fin_bl I q (by simp))
    | int j => obtain ⟨t', rfl⟩ := ry; exact PySem.EqMixed.eq_str_int (fin_bl I q (by simp))
    | str j => obtain ⟨t', rfl⟩ := ry; exact eq_str (fin_bl I q dec_str)
    | _ => exact absurd (show false = true from hs) Bool.false_ne_true
  | byt i =>
    obtain ⟨t, rfl⟩ := rx
    cases y with
    | byt j => obtain ⟨t', rfl⟩ := ry; exact PySem.W.eq_bytes (fin_bl I q dec_byt)
    | _ => exact absurd (show false = true from hs) Bool.false_ne_true
  | _ => cases y <;> exact absurd (show false = true from hs) Bool.false_ne_true
theorem op_ne : OpR X (compareOp .NotEq) rNe := by
  intro pins s σ H x y v u Q I rx ry h
  obtain ⟨hs, q⟩ := h
  cases x with
  | non =>
    cases rx
    cases y with
    | non => cases ry; exact PySem.EqNone.ne_none_none (fin_bl I q (by simp))
    | bl j => cases ry; exact PySem.EqNone.ne_none_bool (fin_bl I q (by simp))
    | int j => obtain ⟨t', rfl⟩ := ry; exact PySem.EqNone.ne_none_int (fin_bl I q (by simp))
    | str j => obtain ⟨t', rfl⟩ := ry; exact PySem.EqNone.ne_none_str (fin_bl I q (by simp))
    | _ => exact absurd (show false = true from hs) Bool.false_ne_true
  | bl i =>
    cases rx
    cases y with
    | non => cases ry; exact PySem.EqNone.ne_bool_none (fin_bl I q (by simp))
    | bl j => cases ry; exact ne_bool (fin_bl I q (congrArg not dec_bl))
    | str j => obtain ⟨t', rfl⟩ := ry; exact PySem.EqMixed.ne_bool_str (fin_bl I q (by simp))
    | _ => exact absurd (show false = true from hs) Bool.false_ne_true
  | int i =>
    obtain ⟨t, rfl⟩ := rx
    cases y with
    | non => cases ry; exact PySem.EqNone.ne_int_none (fin_bl I q (by simp))
    | int j => obtain ⟨t', rfl⟩ := ry; exact ne_int (fin_bl I q (congrArg not dec_int))
    | str j => obtain ⟨t', rfl⟩ := ry; exact PySem.EqMixed.ne_int_str (fin_bl I q (by simp))
    | _ => exact absurd (show false = true from hs) Bool.false_ne_true
  | str i =>
    obtain ⟨t, rfl⟩ := rx
    cases y with
    | non => cases ry; exact PySem.EqNone.ne_str_none (fin_bl I q (by simp))
    | bl j => cases ry; exact PySem.EqMixed.ne_str_bool (fin_bl I q (by simp))
    | int j => obtain ⟨t', rfl⟩ := ry; exact PySem.EqMixed.ne_str_int (fin_bl I q (by simp))
    | str j => obtain ⟨t', rfl⟩ := ry; exact ne_str (fin_bl I q (congrArg not dec_str))
    | _ => exact absurd (show false = true from hs) Bool.false_ne_true
  | byt i =>
    obtain ⟨t, rfl⟩ := rx
    cases y with
    | byt j => obtain ⟨t', rfl⟩ := ry; exact PySem.W.ne_bytes (fin_bl I q (congrArg not dec_byt))
    | _ => exact absurd (show false = true from hs) Bool.false_ne_true
  | _ => cases y <;> exact absurd (show false = true from hs) Bool.false_ne_true
theorem op_lt : OpR X (compareOp .Lt) (rI0 fun i j => .bl (decide (i < j))) := opB0 fun _ _ _ _ _ _ _ q => lt_int q
theorem op_gt : OpR X (compareOp .Gt) (rI0 fun i j => .bl (decide (j < i))) := opB0 fun _ _ _ _ _ _ _ q => gt_int q
theorem op_ge : OpR X (compareOp .GtE) (rI0 fun i j => .bl (decide (j ≤ i))) := opB0 fun _ _ _ _ _ _ _ q => ge_int q
theorem op_isN : OpR X (compareOp .Is) (fun x y H Q => y = .non ∧ Q (.bl (decide (x = .non))) H) := by
  intro pins s σ H x y v u Q I rx ry h
  obtain ⟨rfl, q⟩ := h
  cases ry
  refine is_none_gen (fin_bl I q ?_)
  cases x <;> first
    | (cases rx; rfl)
    | (obtain ⟨t, rfl⟩ := rx; rfl)
theorem nomark (b : Expr) {op : CmpOp} (h : op ≠ .In := by decide) (h2 : op ≠ .NotIn := by decide) : behindInMarks op b = false := by
  have e1 : (op == CmpOp.In) = false := by cases op <;> first | rfl | exact absurd rfl h
  have e2 : (op == CmpOp.NotIn) = false := by cases op <;> first | rfl | exact absurd rfl h2
  cases b <;> simp [behindInMarks, e1, e2]
theorem pe_cmpR {op : CmpOp} {r : R2} (ho : OpR X (compareOp op) r) (ha : PE X a ta) (hb : PE X b tb) (hm : behindInMarks op b = false) : PE X (.Compare a [op] [b] pos) (tOp r ta tb) := by
  intro pins s σ H Q I h
  exact wpAny_Compare1 (binT ha hb I h fun v u s2 x y H2 I2 rx ry q => ho pins s2 σ H2 x y v u Q I2 rx ry q) hm
def tTest (t : TE) : TT := fun σ H Q => t σ H fun x H' => ∃ k, x = .bl k ∧ Q k H'
theorem pt_cmpR {op : CmpOp} {r : R2} (ho : OpR X (compareOp op) r) (ha : PE X a ta) (hb : PE X b tb) (hm : behindInMarks op b = false) : PT X (.Compare a [op] [b] pos) (tTest (tOp r ta tb)) := by
  intro pins s σ H Q I h
  refine wpAny_isTrue_Compare1 (thn (ha pins s σ H _ I h) fun v s1 ⟨x, H1, I1, r1, q1⟩ => thn (hb pins s1 σ H1 _ I1 q1) fun u s2 ⟨y, H2, I2, r2, q2⟩ =>
    thn (ho pins s2 σ H2 x y v u _ I2 r1 r2 q2) fun c s3 ⟨z, H3, I3, r3, k, e, q3⟩ => ?_) hm
  subst e
  cases r3
  exact wpAny_truthy_bool ⟨H3, I3, q3⟩
theorem line63 : (sizeLine : Nat) < 2 ^ 63 := by rw [sizeLine_eq]; decide
theorem op_add_str : OpR X (binaryOp .Add) (fun x y H Q => ∃ i j, x = .str i ∧ y = .str j ∧ i.length + j.length ≤ sizeLine ∧ Q (.str (i ++ j)) H) := by
  intro pins s σ H x y v u Q I rx ry h
  obtain ⟨i, j, rfl, rfl, hz, q⟩ := h
  obtain ⟨t, rfl⟩ := rx
  obtain ⟨t', rfl⟩ := ry
  exact add_str (fun t' tk => ⟨.str (i ++ j), H, I.tok _, ⟨_, rfl⟩, q⟩) hz
theorem vals1 {x : V} {us : List Value} (r : Vals [x] us) : ∃ u, us = [u] ∧ RelV x u := by
  cases r with
  | cons r1 r2 => cases r2; exact ⟨_, rfl, r1⟩
theorem vals2 {x y : V} {us : List Value} (r : Vals [x, y] us) : ∃ u w', us = [u, w'] ∧ RelV x u ∧ RelV y w' := by
  cases r with
  | cons r1 r2 =>
    cases r2 with
    | cons r3 r4 => cases r4; exact ⟨_, _, rfl, r1, r3⟩
theorem call_abs : CallR X (.builtin "abs") (fun xs H Q => ∃ i, xs = [.int i] ∧ Q (.int (if i < 0 then -i else i)) H) := by
  intro pins s σ H xs us Q I r h
  obtain ⟨i, rfl, q⟩ := h
  obtain ⟨u, rfl, t, rfl⟩ := vals1 r
  exact call_abs_int fun u tk => ⟨.int (if i < 0 then -i else i), H, I.tok _, ⟨_, rfl⟩, q⟩
theorem call_max2 (hc : X.calm = true) : CallR X (.builtin "max") (fun xs H Q => ∃ i j, xs = [.int i, .int j] ∧ Q (.int (if j > i then j else i)) H) := by
  intro pins s σ H xs us Q I r h
  obtain ⟨i, j, rfl, q⟩ := h
  obtain ⟨u, w', rfl, ⟨t, rfl⟩, ⟨t', rfl⟩⟩ := vals2 r
  refine max_two_ints (I.ok.hd hc) fun h' tk k => ⟨_, H, I.kept k, ?_, q⟩
  by_cases hj : j > i
  · rw [if_pos hj, if_pos hj]; exact ⟨_, rfl⟩
  · rw [if_neg hj, if_neg hj]; exact ⟨_, rfl⟩
theorem call_min2 (hc : X.calm = true) : CallR X (.builtin "min") (fun xs H Q => ∃ i j, xs = [.int i, .int j] ∧ Q (.int (if j < i then j else i)) H) := by
  intro pins s σ H xs us Q I r h
  obtain ⟨i, j, rfl, q⟩ := h
  obtain ⟨u, w', rfl, ⟨t, rfl⟩, ⟨t', rfl⟩⟩ := vals2 r
  refine min_two_ints (I.ok.hd hc) fun h' tk k => ⟨_, H, I.kept k, ?_, q⟩
  by_cases hj : j < i
  · rw [if_pos hj, if_pos hj]; exact ⟨_, rfl⟩
  · rw [if_neg hj, if_neg hj]; exact ⟨_, rfl⟩
end
end L2
namespace L2
open PySem PySem.Spec PyProof.Rows
structure ObjM (h : Heap) (x dx C : Addr) (mA : Str → Option Value) : Prop where
  obj : h.get? x = some (PySem.W.instObj C dx)
  ns : h.Ns1 dx mA
  ne : dx ≠ x
theorem lookIn_ns {h : Heap} {dx : Addr} {mA : Str → Option Value} (n : h.Ns1 dx mA) : ∃ od, h.get? dx = some od ∧ ∀ name, PySem.W.lookIn name od = some (mA name) := by
  obtain ⟨o, es, ep, ho, hd, hk, _, hm⟩ := n
  refine ⟨o, ho, fun name => ?_⟩
  have e := hm name
  unfold nsFind findBy at e
  rw [← Array.find?_toList] at e
  unfold PySem.W.lookIn
  rw [hd]
  dsimp only
  split
  · rename_i y q
    rw [q] at e
    exact congrArg some e
  · rename_i q
    rw [q] at e
    have a : es.toList.any (·.refKey) = false := by
      rw [List.any_eq_false]
      intro y hy
      obtain ⟨z, t, hkey⟩ := hk y (Array.mem_toList_iff.mp hy)
      simp [DictEntry.refKey, hkey]
    have a' : ¬ es.toList.any (·.refKey) = true := by rw [a]; exact Bool.false_ne_true
    rw [if_neg a']
    exact congrArg some e
theorem ObjM.look {h : Heap} {x dx C : Addr} {mA : Str → Option Value} (I : ObjM h x dx C mA) : ∃ od, PySem.W.InstAt h x (PySem.W.instObj C dx) C (some od) ∧ ∀ name, PySem.W.lookIn name od = some (mA name) :=
  let ⟨od, ho, hl⟩ := lookIn_ns I.ns
  ⟨od, ⟨I.obj, rfl, rfl, ho⟩, hl⟩
section
variable {prog : Program} {w : World} {A : Around} {E : Value → Shared → Prop} {s : Shared} {K : PySem.W.Frag} {x dx C f : Addr} {mA : Str → Option Value} {name : Str} {v : Value}
end
theorem RelO.some_of {v : V} {o : Option Value} (r : RelO (some v) o) : ∃ u, o = some u ∧ RelV v u := by
  cases o with
  | none => exact (show False from r).elim
  | some u => exact ⟨u, rfl, r⟩
section
variable {P : Program} {w : World} {H H' : Hp} {h h' : Heap} {a C dx : Addr} {fs fs' : List (Str × V)}
theorem ins_get (hok : HOk P w H h) (e : H a = some (.ins C dx fs)) : ∃ mA, ObjM h a dx C mA ∧ (∀ f, RelO (fs.lookup f) (mA f)) ∧ PySem.Within mA (fs.map (·.1)) ∧ fs.length ≤ 1000 ∧ H dx = some (.own a) := by
  obtain ⟨d, z, ne, ob, mA, n, r, q⟩ := (show ObjOk P w H h a (.ins C dx fs) from hok a _ e)
  exact ⟨mA, ⟨ob, n, ne⟩, r, q, z, d⟩
end
structure Cls (K : PySem.W.Frag) (C : Addr) : Prop where
  pg : PySem.W.plainGet K C Str.empty = true
  hd : PySem.W.hasDictIn K C = true
  po : PySem.W.plainOver K C = true
  sa : PySem.W.findIn K (.ref C) "__setattr__" = some (some (.builtin "object.__setattr__"))
theorem Cls.get {K : PySem.W.Frag} {C : Addr} (c : Cls K C) (f : Str) : PySem.W.plainGet K C f = true := c.pg
section
variable {X : Cx} {pins : List (Addr × Obj)} {σ : St} {H : Hp} {s : Shared} {a C dx : Addr} {fs : List (Str × V)} {f : Str} {v : V} {A : Around} {E : Value → Shared → Prop}
end
section
variable {X : Cx} {o e value : Expr} {f : Str} {pos pos' tpos : Pos} {ta tv : TE}
end
section
variable {X : Cx} {pins : List (Addr × Obj)} {σ : St} {H : Hp} {s : Shared} {A : Around} {E : Value → Shared → Prop} {Q : Value → Shared → Prop} {c : Value} {b : Bool}
inductive TyOf (K : PySem.W.Frag) (H : Hp) : V → Value → Prop where
  | non : TyOf K H .non (.type "NoneType")
  | bl (x : Bool) : TyOf K H (.bl x) (.type "bool")
  | int (i : Int) : TyOf K H (.int i) (.type "int")
  | str (x : Str) : TyOf K H (.str x) (.type "str")
  | flt (x : UInt64) : TyOf K H (.flt x) (.type "float")
  | lst {a : Addr} {xs : List V} (e : H a = some (.lst xs)) : TyOf K H (.ref a) (.type "list")
  | frz {a : Addr} {o : Obj} {xs : List V} (e : H a = some (.frz o (.lst xs))) : TyOf K H (.ref a) (.type "list")
  | tup {a : Addr} {xs : List V} (e : H a = some (.tup xs)) : TyOf K H (.ref a) (.type "tuple")
  | dK {a : Addr} {kvs : List (Key × V)} (e : H a = some (.dK kvs)) : TyOf K H (.ref a) (.type "dict")
  | dT {a : Addr} {kvs : List (List Key × V)} (e : H a = some (.dT kvs)) : TyOf K H (.ref a) (.type "dict")
  | ins {a C dx : Addr} {fs : List (Str × V)} (e : H a = some (.ins C dx fs)) (cl : Cls K C) (ha : PySem.W.findIn K (.ref C) "__class__" = some (some (.builtin "object.__class__")))
      (hn : PySem.W.specialIn K (.builtin "object.__class__") "__get__" = some (some (.builtin "getset_descriptor.__get__"))) (htk : PySem.W.takesIn K (.builtin "object.__class__") = some true)
      (hm : PySem.W.mroIn K C (.type "object") = some true) : TyOf K H (.ref a) (.ref C)
theorem isinst_ok {x : V} {u t : Value} (I : Inv X pins σ H s) (rx : RelV x u) (ty : TyOf X.K H x t) (e : PySem.W.kitOne X.K t c = some b) (h : ∀ tk, Q (.bool b) { s with toks := tk }) :
    wpAny (model X.prog X.w) A (call (.builtin "isinstance") [u, c]) Q E s := by
  cases ty with
  | non => cases (show u = Value.none from rx); exact PySem.W.kia_one PySem.W.kitx_none I.kIn True.intro e (fun z => nomatch z) h
  | bl y => cases (show u = Value.bool y from rx); exact PySem.W.kia_one PySem.W.kitx_bool I.kIn True.intro e (fun z => nomatch z) h
  | int i => obtain ⟨t, q⟩ := (show ∃ t, u = Value.int i t from rx); cases q; exact PySem.W.kia_one PySem.W.kitx_int I.kIn True.intro e (fun z => nomatch z) h
  | str y => obtain ⟨t, q⟩ := (show ∃ t, u = Value.str y t from rx); cases q; exact PySem.W.kia_one PySem.W.kitx_str I.kIn True.intro e (fun z => nomatch z) h
  | flt y => obtain ⟨t, q⟩ := (show ∃ t, u = Value.float y t from rx); cases q; exact PySem.W.kia_one PySem.W.kitx_float I.kIn True.intro e (fun z => nomatch z) h
  | @lst a xs ea =>
    cases (show u = Value.ref a from rx)
    obtain ⟨_, _, n, _, h1⟩ := (show ObjOk X.prog X.w H s.heap a (.lst xs) from I.hok a _ ea)
    exact PySem.W.kia_one PySem.W.kitx_list I.kIn ⟨_, h1, rfl⟩ e (fun z => nomatch z) h
  | @frz a ob xs ea =>
    cases (show u = Value.ref a from rx)
    obtain ⟨_, _, _, n, _, h1⟩ := (show ObjOk X.prog X.w H s.heap a (.frz ob (.lst xs)) from I.hok a _ ea)
    exact PySem.W.kia_one PySem.W.kitx_list I.kIn ⟨_, h1, rfl⟩ e (fun z => nomatch z) h
  | @tup a xs ea =>
    cases (show u = Value.ref a from rx)
    obtain ⟨_, _, _, p⟩ := (show ObjOk X.prog X.w H s.heap a (.tup xs) from I.hok a _ ea)
    obtain ⟨o, h1, h2, _⟩ := p
    exact PySem.W.kia_one PySem.W.kitx_tuple I.kIn ⟨o, h1, h2⟩ e (fun z => nomatch z) h
  | @dK a kvs ea =>
    cases (show u = Value.ref a from rx)
    obtain ⟨_, _, vs, _, p⟩ := (show ObjOk X.prog X.w H s.heap a (.dK kvs) from I.hok a _ ea)
    obtain ⟨o, es, ep, h1, h2, _⟩ := p
    exact PySem.W.kia_one PySem.W.kitx_dict I.kIn ⟨o, h1, h2.1⟩ e (fun z => nomatch z) h
  | @dT a kvs ea =>
    cases (show u = Value.ref a from rx)
    obtain ⟨_, _, xs, _, o, es, ep, h1, h2, _⟩ := (show ObjOk X.prog X.w H s.heap a (.dT kvs) from I.hok a _ ea)
    exact PySem.W.kia_one PySem.W.kitx_dict I.kIn ⟨o, h1, h2.1⟩ e (fun z => nomatch z) h
  | @ins a C dx fs ea cl ha hn htk hm =>
    cases (show u = Value.ref a from rx)
    obtain ⟨mA, O, _⟩ := ins_get I.hok ea
    obtain ⟨od, J, _⟩ := O.look
    exact PySem.W.kia_one (PySem.W.kitx_own (cl.get _) cl.hd ha hn htk hm) I.kIn J e (fun z => nomatch z) h
end
end L2
namespace L2
open PySem PySem.Spec PyProof.Rows
structure Room (k : Nat) (A : Around) : Prop where
  hd : A.handled = none
  dp : A.depth + 3 * k + 5 < recursionLimit
  un : A.units + 16 * k + 200 < cLine
theorem Room.mono {j k : Nat} {A : Around} (r : Room k A) (h : j ≤ k) : Room j A := ⟨r.hd, by have := r.dp; omega, by have := r.un; omega⟩
theorem Room.deeper {k : Nat} {A : Around} (r : Room (k + 1) A) (env : Env) : Room k (A.deeper env) :=
  ⟨r.hd, by have := r.dp; show A.depth + 1 + 3 * k + 5 < _; omega, by have := r.un; show A.units + 3 + 16 * k + 200 < _; omega⟩
theorem Room.depth {k : Nat} {A : Around} (r : Room k A) : A.depth < recursionLimit := by have := r.dp; omega
theorem Room.units {k : Nat} {A : Around} (r : Room k A) : A.units + 64 < cLine := by have := r.un; omega
theorem Room.units0 {k : Nat} {A : Around} (r : Room k A) : A.units < cLine := by have := r.un; omega
def tNil : TA := fun _ H Q => Q [] H
def tCons (ta : TE) (tr : TA) : TA := fun σ H Q => ta σ H fun x H1 => tr σ H1 fun xs H2 => Q (x :: xs) H2
section
variable {X : Cx} {e : Expr} {es : List Expr} {te : TE} {t : TA} {pos : Pos}
theorem pa_nil : PA X [] tNil := fun _ _ _ _ H Q I h => Calls.spliced_nil ⟨[], H, I, .nil, h⟩
theorem pa_cons (ha : PE X e te) (hr : PA X es t) (hs : starEach (e :: es) X.env = (false, eval e X.env) :: starEach es X.env := by rfl) : PA X (e :: es) (tCons te t) := by
  intro pos pins s σ H Q I h
  rw [hs]
  show wpAny _ _ (spliced ((false, eval e X.env) :: backTo pos (starEach es X.env))) _ _ s
  refine Calls.spliced_cons (thn (ha pins s σ H _ I h) fun u s1 ⟨x, H1, I1, r1, q1⟩ => ?_)
  exact thn (hr pos pins s1 σ H1 _ I1 q1) fun us s2 ⟨xs, H2, I2, r2, q2⟩ => ⟨x :: xs, H2, I2, .cons r1 r2, q2⟩
def tTup (t : TA) : TE := fun σ H Q => t σ H fun xs H1 => xs.length ≤ sizeLine ∧ ∀ p, H1 p = none → Q (.ref p) (upd H1 p (.tup xs))
def tLst (t : TA) : TE := fun σ H Q => t σ H fun xs H1 => xs.length ≤ sizeLine ∧ ∀ p, H1 p = none → Q (.ref p) (upd H1 p (.lst xs))
theorem pe_tup {x1} (h : PA X es t) : PE X (.Tuple es x1 pos) (tTup t) := by
  intro pins s σ H Q I hq
  refine wpAny_Tuple_spliced (thn (h pos pins s σ H _ I hq) fun us s1 ⟨xs, H1, I1, r, z, q⟩ => ⟨by rw [← r.length]; exact z, ?_⟩)
  have hf : H1 s1.heap.objs.size = none := I1.hok.fresh (Nat.le_refl _)
  refine ⟨.ref s1.heap.objs.size, upd H1 s1.heap.objs.size (.tup xs), I1.laid (t' := s1.toks) (fun b u e => Heap.get?_push_of_some _ e) (Nat.le_refl _) ?_, rfl, q _ hf⟩
  exact ⟨z, us, r, ⟨_, Heap.get?_push_size _ rfl, rfl, _, rfl⟩⟩
theorem pe_lst (h : PA X es t) : PE X (.List es pos) (tLst t) := by
  intro pins s σ H Q I hq
  refine wpAny_List_spliced (thn (h pos pins s σ H _ I hq) fun us s1 ⟨xs, H1, I1, r, z, q⟩ => ⟨by rw [← r.length]; exact z, ?_⟩)
  have hf : H1 s1.heap.objs.size = none := I1.hok.fresh (Nat.le_refl _)
  refine ⟨.ref s1.heap.objs.size, upd H1 s1.heap.objs.size (.lst xs), I1.laid (t' := s1.toks) (fun b u e => Heap.get?_push_of_some _ e) (Nat.le_refl _) ?_, rfl, q _ hf⟩
  exact ⟨z, us, 0, r, Heap.get?_push_size _ rfl⟩
end
abbrev Sp := List V → Hp → VK → XK → Prop
abbrev CXT := List Env → Hp → Shared → XK → Value → Shared → Prop
structure Env0 (P : Program) (w : World) (K : PySem.W.Frag) (mg : Str → Option Value) (base : Heap) (A : Around) (outer : List Env) (s : Shared) (H : Hp) : Prop where
  frames : A.frames = some outer
  mod : Mod K mg base
  bs : ∀ b o, base.get? b = some o → s.heap.get? b = some o ∧ H b = none
  bsz : base.objs.size ≤ s.heap.objs.size
  funs : s.heap.FunFrames base outer
  frf : ∀ b ∈ frs outer, H b = none
  hok : HOk P w H s.heap
  bare : AllBare s.gens
def CE (outer : List Env) (P : Program) (w : World) (H : Hp) (s : Shared) (Q : VK) (u : Value) (s' : Shared) : Prop :=
  ∃ v H', s'.os = s.os ∧ AllBare s'.gens ∧ Un (frs outer) [] H H' s.heap s'.heap ∧ HOk P w H' s'.heap ∧ RelV v u ∧ Q v H'
def CR (CX : CXT) (outer : List Env) (P : Program) (w : World) (H : Hp) (s : Shared) (Q : VK) (E : XK) (r : Result) (s' : Shared) : Prop :=
  match r with
  | .ok (.ret u) => CE outer P w H s Q u s'
  | .ok _ => False
  | .error e => CX outer H s E e s'
structure FnOk (P : Program) (w : World) (K : PySem.W.Frag) (mg : Str → Option Value) (base : Heap) (CX : CXT) (k : Nat) (f : Addr) (fd : FuncData) (ps : List Str) (sp : Sp) : Prop where
  len : ∀ vs H Q E, sp vs H Q E → vs.length = ps.length
  run : ∀ (A : Around) (outer : List Env) (s : Shared) (H : Hp) (args : Args) (us : List Value) (vs : List V) (Q : VK) (E : XK), Room k A → Env0 P w K mg base A outer s H → BindsTo s fd args (ps.zip us) → Vals vs us → sp vs H Q E →
    codeAny (model P w) A (.call (.ref f) args) (CR CX outer P w H s Q E) s
theorem FnOk.mono {P : Program} {w : World} {K : PySem.W.Frag} {mg : Str → Option Value} {base : Heap} {CX : CXT} {j k : Nat} {f : Addr} {fd : FuncData} {ps : List Str} {sp : Sp} (F : FnOk P w K mg base CX j f fd ps sp) (h : j ≤ k) :
    FnOk P w K mg base CX k f fd ps sp := ⟨F.len, fun A outer s H args us vs Q E hr => F.run A outer s H args us vs Q E (hr.mono h)⟩
section
variable {X : Cx} {pins : List (Addr × Obj)} {σ : St} {H : Hp} {s s' : Shared}
theorem Inv.env0 (I : Inv X pins σ H s) : Env0 X.prog X.w X.K X.mg X.base X.A X.stack s H :=
  ⟨I.ok.frames, I.ok.mod, I.bs, Nat.le_trans I.ok.bsz I.sz, I.stack, I.stkFree, I.hok, I.bare⟩
theorem Inv.after {Q : VK} {u : Value} (I : Inv X pins σ H s) (h : CE X.stack X.prog X.w H s Q u s') : EP X pins σ Q u s' := by
  obtain ⟨v, H', os, bare, un, hok, r, q⟩ := h
  obtain ⟨hh, g, d, t, os'⟩ := s'
  obtain rfl : os' = s.os := os
  exact ⟨v, H', I.call (h' := hh) (g' := g) (d' := d) (t' := t) (ch := []) un hok bare (fun b z => absurd z (by simp)), r, q⟩
end
def tCall (sp : Sp) (dvs : List V) (E : XK) (t : TA) : TE := fun σ H Q => t σ H fun vs H1 => sp (vs ++ dvs) H1 Q E
def Binds (K : PySem.W.Frag) (fd : FuncData) (ps : List Str) (ds : List Value) : Prop :=
  ∀ (s : Shared) (us : List Value), K.In s.heap → (us ++ ds).length = ps.length → BindsTo s fd ⟨us, []⟩ (ps.zip (us ++ ds))
theorem Binds.all {K : PySem.W.Frag} {fd : FuncData} {ps : List Str} (h : ∀ us : List Value, us.length = ps.length → bindArgs fd ⟨us, []⟩ = pure (ps.zip us)) : Binds K fd ps [] := fun s us _ hl => by
  rw [List.append_nil] at hl ⊢
  exact .of_eq (h us hl)
def Passes (CX : CXT) (X : Cx) (E : XK) : Prop := ∀ (pins : List (Addr × Obj)) (σ : St) (H : Hp) (s : Shared) (e : Value) (s' : Shared), Inv X pins σ H s → CX X.stack H s E e s' → X.xe e s'
section
variable {X : Cx} {CX : CXT} {k : Nat} {f C : Addr} {fd : FuncData} {ps : List Str} {sp : Sp} {dvs : List V} {ds : List Value} {E : XK} {x m : Str} {p pos apos : Pos} {e o : Expr} {es : List Expr} {ta : TE} {t : TA}
theorem run_fn {pins : List (Addr × Obj)} {σ : St} {H : Hp} {s : Shared} {Q : VK} {us : List Value} {vs : List V} (F : FnOk X.prog X.w X.K X.mg X.base CX k f fd ps sp) (hr : Room k X.A) (hb : Binds X.K fd ps ds) (hd : Vals dvs ds) (hx : Passes CX X E)
    (I : Inv X pins σ H s) (r : Vals vs us) (h : sp (vs ++ dvs) H Q E) : wpAny (model X.prog X.w) X.A (call (.ref f) us) (EP X pins σ Q) X.xe s := by
  have r2 : Vals (vs ++ dvs) (us ++ ds) := r.append hd
  have hl : (us ++ ds).length = ps.length := by rw [← r2.length]; exact F.len _ _ _ _ h
  refine wpAny_call (codeAny_mono (F.run X.A X.stack s H ⟨us, []⟩ (us ++ ds) (vs ++ dvs) Q E hr I.env0 (hb s us I.kIn hl) r2 h) fun r s' hq => ?_)
  cases r with
  | error e => exact hx pins σ H s e s' I hq
  | ok fl =>
    cases fl with
    | ret u => exact I.after hq
    | next => exact False.elim hq
    | brk => exact False.elim hq
    | cont => exact False.elim hq
theorem pe_call (F : FnOk X.prog X.w X.K X.mg X.base CX k f fd ps sp) (hr : Room k X.A) (hg : Gl X x) (hm : X.mg x = some (.ref f)) (hk : PySem.W.keepIn X.K (.ref f) = true) (hb : Binds X.K fd ps ds) (hd : Vals dvs ds) (hx : Passes CX X E)
    (ha : PA X (e :: es) t) (hdb : (x == ("__debug__" : Str)) = false := by decide) (he : starEach (e :: es) X.env = (false, eval e X.env) :: starEach es X.env := by rfl) (hpl : (backTo pos (starEach es X.env)).any (·.1) = false := by rfl) :
    PE X (.Call (.Name x p) (e :: es) [] pos) (tCall sp dvs E t) := by
  intro pins s σ H Q I h
  refine wpAny_Call_Name_kw (ld_glob I hg hm ?_ hdb)
  refine PySem.W.callWith_K (h₀ := X.base) I.ok.mod.kin hk (thn (ha pos pins s σ H _ I h) fun us s1 ⟨vs, H1, I1, r, q⟩ => ⟨I1.kIn, ?_⟩) he hpl
  exact run_fn F hr hb hd hx I1 r q
end
section
variable {X : Cx} {CX : CXT} {k : Nat} {f C : Addr} {fd : FuncData} {ps ks : List Str} {sp : Sp} {E : XK} {x m : Str} {p pos apos kpos : Pos} {e o : Expr} {es : List Expr} {kws : List Keyword} {te ta : TE} {t tk : TA} {nm : Option Str}
variable {g : List Value → List Value → List Value} {gV : List V → List V → List V}
end
structure FnScope (N P : List Str) (sc : Scope) : Prop where
  kind : sc.kind = .function
  co : sc.isCoroutine = false
  gen : sc.isGenerator = false
  nd : N.Nodup
  pre : N.take P.length = P
  par : ∀ x ∈ P, sc.names.lookup x = some .local ∨ sc.names.lookup x = some .cell
  nofree : ∀ y ∈ sc.names, y.2 ≠ .free
theorem bindL_out {kindOf : Str → Option NameKind} {x : Str} : ∀ {binds : List (Str × Value)} {m : Str → Option Value}, (∀ v, (x, v) ∉ binds) → bindL kindOf binds m x = m x
  | [], _, _ => rfl
  | (n, v) :: r, m, h => by
    unfold bindL
    rw [bindL_out fun w hw => h w (List.mem_cons_of_mem _ hw)]
    split
    · have : x ≠ n := by rintro rfl; exact h v List.mem_cons_self
      simp [this]
    · rfl
theorem bindC_out {kindOf : Str → Option NameKind} {x : Str} : ∀ {binds : List (Str × Value)} {m : Str → Option Value}, (∀ v, (x, v) ∉ binds) → bindC kindOf binds m x = m x
  | [], _, _ => rfl
  | (n, v) :: r, m, h => by
    unfold bindC
    rw [bindC_out fun w hw => h w (List.mem_cons_of_mem _ hw)]
    split
    · rfl
    · have : x ≠ n := by rintro rfl; exact h v List.mem_cons_self
      simp [this]
theorem bindL_get {kindOf : Str → Option NameKind} {x : Str} {v : Value} : ∀ {P : List Str} {vs : List Value} {i : Nat} {m : Str → Option Value}, P.Nodup → P[i]? = some x → vs[i]? = some v → kindOf x = some .local →
    bindL kindOf (P.zip vs) m x = some v
  | [], _, _, _, _, h, _, _ => by simp at h
  | _ :: _, [], _, _, _, _, h, _ => by simp at h
  | p :: P, w :: vs, 0, m, nd, h1, h2, hk => by
    simp at h1 h2; subst h1; subst h2
    show bindL kindOf ((p, w) :: P.zip vs) m p = _
    unfold bindL
    rw [bindL_out fun v hv => (List.nodup_cons.mp nd).1 (List.of_mem_zip hv).1, if_pos hk]
    simp
  | p :: P, w :: vs, i + 1, m, nd, h1, h2, hk => by
    show bindL kindOf ((p, w) :: P.zip vs) m x = _
    unfold bindL
    exact bindL_get (i := i) (List.nodup_cons.mp nd).2 (by simpa using h1) (by simpa using h2) hk
theorem bindC_get {kindOf : Str → Option NameKind} {x : Str} {v : Value} : ∀ {P : List Str} {vs : List Value} {i : Nat} {m : Str → Option Value}, P.Nodup → P[i]? = some x → vs[i]? = some v → kindOf x ≠ some .local →
    bindC kindOf (P.zip vs) m x = some v
  | [], _, _, _, _, h, _, _ => by simp at h
  | _ :: _, [], _, _, _, _, h, _ => by simp at h
  | p :: P, w :: vs, 0, m, nd, h1, h2, hk => by
    simp at h1 h2; subst h1; subst h2
    show bindC kindOf ((p, w) :: P.zip vs) m p = _
    unfold bindC
    rw [bindC_out fun v hv => (List.nodup_cons.mp nd).1 (List.of_mem_zip hv).1, if_neg hk]
    simp
  | p :: P, w :: vs, i + 1, m, nd, h1, h2, hk => by
    show bindC kindOf ((p, w) :: P.zip vs) m x = _
    unfold bindC
    exact bindC_get (i := i) (List.nodup_cons.mp nd).2 (by simpa using h1) (by simpa using h2) hk
def start (N : List Str) (vs : List V) : St := vs.map some ++ List.replicate (N.length - vs.length) none
def cxOf (CX : CXT) (P : Program) (w : World) (K : PySem.W.Frag) (mg : Str → Option Value) (base : Heap) (N : List Str) (qual : Str) (scope : Scope) (f : Addr) (cd : Value) (A : Around) (outer : List Env) (s : Shared) (H : Hp) (E : XK) : Cx where
  prog := P
  w := w
  K := K
  mg := mg
  base := base
  A := A.deeper (envOfC qual scope s.heap.objs.size f cd)
  N := N
  s₀ := s
  H₀ := H
  env := envOfC qual scope s.heap.objs.size f cd
  outer := outer
  stack := envOfC qual scope s.heap.objs.size f cd :: outer
  ex := []
  calm := true
  fn := fun _ => true
  pn := []
  xe := fun e s' => wpAny (model P w) (A.deeper (envOfC qual scope s.heap.objs.size f cd)) (leaving (envOfC qual scope s.heap.objs.size f cd) e) (fun _ s'' => CX outer H s E e s'') (fun e' s'' => CX outer H s E e' s'') s'
theorem cell_has {sc : Scope} {n : Nat} {x : Str} (h : sc.names.lookup x = some .cell) : ∃ c, (cellsFrom n sc.names []).lookup x = some c := by
  have q := PySem.W.cellsFrom_some sc.names n [] (.inl h)
  exact Option.isSome_iff_exists.mp q
theorem inv_start {CX : CXT} {P : Program} {w : World} {K : PySem.W.Frag} {mg : Str → Option Value} {base : Heap} {N ps : List Str} {qual : Str} {scope : Scope} {f : Addr} {cd : Value} {A : Around} {outer : List Env} {s s1 : Shared} {H : Hp} {E : XK} {us : List Value} {vs : List V}
    (S : FnScope N ps scope) (hd : A.handled = none) (e0 : Env0 P w K mg base A outer s H) (hl : vs.length = ps.length) (r : Vals vs us)
    (x : InCallC s s.heap.objs.size (bindL (envOfC qual scope s.heap.objs.size f cd).kindOf (ps.zip us) fun _ => none) (cellsFrom (s.heap.objs.size + 1) scope.names []) (bindC (envOfC qual scope s.heap.objs.size f cd).kindOf (ps.zip us) fun _ => none) s1) :
    Inv (cxOf CX P w K mg base N qual scope f cd A outer s H E) [] (start N vs) H s1 := by
  have hpl : ps.length ≤ N.length := by have := congrArg List.length S.pre; rw [List.length_take] at this; omega
  obtain ⟨h1, tk, rfl, hk⟩ := x.done
  have noA : ∀ b : Addr, b ∉ (cxOf CX P w K mg base N qual scope f cd A outer s H E).ex := fun b z => absurd (show b ∈ ([] : List Addr) from z) (by simp)
  refine ⟨⟨e0.mod, S.kind, rfl, rfl, Nat.le_refl _, fun y z c h1 h2 => ?_, fun y hy => ?_, fun y c _ h => ?_, fun _ => hd, Around.frames_deeper e0.frames, .inr ⟨rfl, rfl⟩, fun b z => absurd z (noA b), e0.bs, e0.bsz, fun b _ _ => noA b, fun b z => absurd z (noA b), e0.funs, e0.frf⟩,
    rfl, e0.bare, Un.kept hk, ⟨_, x.toInCall.ns, fun i y v h1 h2 h3 => ?_⟩, fun y c h => ⟨_, x.cell y c h⟩, e0.hok.fresh (Nat.le_refl _), fun y c h => ?_, fun p hp => absurd (show p ∈ ([] : List (Addr × Obj)) from hp) (by simp), e0.hok.kept hk, ?_⟩
  · exact name_of_addr x.apart (PySem.mem_of_lookup h1) (PySem.mem_of_lookup h2)
  · have hy : scope.names.lookup y = some .cell ∨ scope.names.lookup y = some .free := hy
    rcases hy with hy | hy
    · exact cell_has hy
    · exact absurd rfl (S.nofree _ (PySem.mem_of_lookup hy))
  · exact Nat.le_of_lt (x.above y c (PySem.mem_of_lookup h))
  · have hi : i < vs.length := by
      unfold start at h2
      by_cases hi : i < vs.length
      · exact hi
      · rw [List.getElem?_append_right (by simpa using hi)] at h2
        rw [List.getElem?_replicate] at h2
        split at h2 <;> cases h2
    have ha : vs[i]? = some v := by
      unfold start at h2
      rw [List.getElem?_append_left (by simpa using hi), List.getElem?_map] at h2
      cases e : vs[i]? with
      | none => rw [e] at h2; cases h2
      | some a => rw [e] at h2; cases h2; rfl
    obtain ⟨u, hu, rv⟩ := r.get ha
    have hp : ps[i]? = some y := by
      rw [← S.pre, List.getElem?_take_of_lt (by omega)]; exact h1
    have ndP : ps.Nodup := by rw [← S.pre]; exact S.nd.sublist (List.take_sublist _ _)
    refine ⟨u, rv, ?_⟩
    rcases S.par y (List.mem_of_getElem? hp) with k | k
    · exact .inl ⟨k, bindL_get ndP hp hu k⟩
    · obtain ⟨c, e⟩ := cell_has (n := s.heap.objs.size + 1) k
      refine .inr ⟨.inl k, c, e, ?_⟩
      have q := x.cell y c e
      rw [bindC_get ndP hp hu (by show scope.names.lookup y ≠ _; rw [k]; decide)] at q
      exact q
  · exact e0.hok.fresh (Nat.le_of_lt (x.above y c (PySem.mem_of_lookup h)))
  · unfold start
    show _ = N.length
    rw [List.length_append, List.length_map, List.length_replicate]
    omega
theorem fn_of {CX : CXT} {P : Program} {w : World} {K : PySem.W.Frag} {mg : Str → Option Value} {base : Heap} {k : Nat} {f : Addr} {name qual : Str} {params : Arguments} {body : List Stmt} {scope : Scope} {dV kV doc pm cdv ct oc : Value} {an od : Option Addr}
    {osl : Array (Option Value)} {N ps : List Str} {sp : Sp} (lk : K.lookup f = some ⟨oc, od, .func (PySem.W.fnOf name qual params body scope dV kV doc pm an cdv ct), osl⟩) (hcd : PySem.W.codeIn K cdv qual = true) (S : FnScope N ps scope)
    (len : ∀ vs H Q E, sp vs H Q E → vs.length = ps.length)
    (hbody : ∀ (A : Around) (outer : List Env) (s : Shared) (H : Hp) (vs : List V) (Q : VK) (E : XK), Room k (A.deeper (envOfC qual scope s.heap.objs.size f cdv)) → sp vs H Q E →
      ∃ t, PSs (cxOf CX P w K mg base N qual scope f cdv A outer s H E) body t ∧ t { nx := fun _ H' => Q .non H', rt := Q } (start N vs) H) :
    FnOk P w K mg base CX (k + 1) f (PySem.W.fnOf name qual params body scope dV kV doc pm an cdv ct) ps sp := by
  refine ⟨len, fun A outer s H args us vs Q E hr e0 hb r hsp => ?_⟩
  have hl := len _ _ _ _ hsp
  have KX : K.In s.heap := e0.mod.kin.keeps fun b o e => (e0.bs b o e).1
  have lim : s.heap.NoLimit := e0.mod.nolimit.keeps fun b o e => (e0.bs b o e).1
  have hkind : ∀ y ∈ ps.zip us, scope.names.lookup y.1 = some .local ∨ (scope.names.lookup y.1 = some .cell ∧ ((cellsFrom (s.heap.objs.size + 1) scope.names []).lookup y.1).isSome = true) := fun ⟨n, v⟩ hy => by
    rcases S.par n (List.of_mem_zip hy).1 with q | q
    · exact .inl q
    · exact .inr ⟨q, PySem.W.cellsFrom_some _ _ _ (.inl q)⟩
  refine codeAny_call_function hr.depth (KX _ _ lk) rfl S.co S.gen rfl (PySem.W.codeRec_of KX hcd) (hb _ _ _ _ ?_)
  refine wpAny_newFunctionEnv_cells S.kind hkind fun env he s1 x => ?_
  subst he
  refine ⟨lim.keeps x.toInCall.keep, codeAny_func ?_⟩
  obtain ⟨t, ht, hq⟩ := hbody A outer s H vs Q E (hr.deeper _) hsp
  have I : Inv (cxOf CX P w K mg base N qual scope f cdv A outer s H E) [] (start N vs) H s1 := inv_start S hr.hd e0 hl r x
  refine wpAny_mono (ht [] s1 (start N vs) H _ I hq) (fun fl s' hs => ?_) fun e s' hs => hs
  have fin : ∀ {σ' : St} {H' : Hp} {v : V} {u : Value}, Inv (cxOf CX P w K mg base N qual scope f cdv A outer s H E) [] σ' H' s' → RelV v u → Q v H' → CE outer P w H s Q u s' :=
    fun {σ' H' v u} J rv q => ⟨v, H', J.os, J.bare, J.base, J.hok, rv, q⟩
  cases fl with
  | ret u =>
    obtain ⟨v, σ', H', J, rv, q⟩ := hs
    exact fin J rv q
  | next =>
    obtain ⟨σ', H', J, q⟩ := hs
    exact fin (v := V.non) (u := Value.none) J rfl q
  | brk =>
    obtain ⟨_, _, _, q⟩ := hs
    exact False.elim q
  | cont =>
    obtain ⟨_, _, _, q⟩ := hs
    exact False.elim q
end L2
namespace L2
open PySem PySem.Spec PyProof.Rows
section
variable {X : Cx} {x : Str} {p pos : Pos} {e : Expr} {es : List Expr} {t : TA} {id T : String} {r : List V → Hp → VK → Prop}
def tCB (r : List V → Hp → VK → Prop) (t : TA) : TE := fun σ H Q => t σ H fun vs H1 => r vs H1 Q
theorem pe_callB (hc : CallR X (.builtin id) r) (hg : Gl X x) (hm : X.mg x = none) (hv : bootBuiltins x = some (.builtin id)) (ha : PA X (e :: es) t) (hn : x ≠ "__name__" := by decide) (hdb : (x == ("__debug__" : Str)) = false := by decide)
    (he : starEach (e :: es) X.env = (false, eval e X.env) :: starEach es X.env := by rfl) (hpl : (backTo pos (starEach es X.env)).any (·.1) = false := by rfl) : PE X (.Call (.Name x p) (e :: es) [] pos) (tCB r t) := by
  intro pins s σ H Q I h
  refine wpAny_Call_Name_kw (ld_blt I hg hm hv ?_ hn hdb)
  exact PyProof.Rows.callWith_builtin1 (thn (ha pos pins s σ H _ I h) fun us s1 ⟨vs, H1, I1, r1, q1⟩ => hc pins s1 σ H1 vs us Q I1 r1 q1) he hpl
theorem pe_callTy (hc : CallR X (.type T) r) (hg : Gl X x) (hm : X.mg x = none) (hv : bootBuiltins x = some (.type T)) (ha : PA X (e :: es) t) (hn : x ≠ "__name__" := by decide) (hdb : (x == ("__debug__" : Str)) = false := by decide)
    (he : starEach (e :: es) X.env = (false, eval e X.env) :: starEach es X.env := by rfl) (hpl : (backTo pos (starEach es X.env)).any (·.1) = false := by rfl) : PE X (.Call (.Name x p) (e :: es) [] pos) (tCB r t) := by
  intro pins s σ H Q I h
  refine wpAny_Call_Name_kw (ld_blt I hg hm hv ?_ hn hdb)
  exact PyProof.Rows.callWith_type1 (thn (ha pos pins s σ H _ I h) fun us s1 ⟨vs, H1, I1, r1, q1⟩ => hc pins s1 σ H1 vs us Q I1 r1 q1) he hpl
end
end L2
namespace L2
open PySem PySem.Spec PyProof.Rows
section
variable {κ : Type} [DecidableEq κ]
def valV (kvs : List (κ × V)) (k : κ) : Option V := (kvs.find? fun kv => decide (kv.1 = k)).map (·.2)
def putK (kvs : List (κ × V)) (k : κ) (v : V) : List (κ × V) :=
  if (kvs.any fun kv => decide (kv.1 = k)) = true then kvs.map (fun kv => if kv.1 = k then (kv.1, v) else kv) else kvs ++ [(k, v)]
theorem valV_nil {k : κ} : valV ([] : List (κ × V)) k = none := rfl
theorem valV_pos {p : κ × V} {r : List (κ × V)} {k : κ} (e : p.1 = k) : valV (p :: r) k = some p.2 := by simp [valV, List.find?_cons, e]
theorem valV_neg {p : κ × V} {r : List (κ × V)} {k : κ} (e : ¬ p.1 = k) : valV (p :: r) k = valV r k := by simp [valV, List.find?_cons, e]
theorem valV_any (k : κ) : ∀ kvs : List (κ × V), (kvs.any fun kv => decide (kv.1 = k)) = (valV kvs k).isSome
  | [] => rfl
  | p :: r => by
    rw [List.any_cons]
    by_cases e : p.1 = k
    · simp only [valV_pos e, decide_eq_true e, Bool.true_or, Option.isSome_some]
    · rw [valV_neg e, decide_eq_false e, Bool.false_or]; exact valV_any k r
theorem valV_map (k j : κ) (y : V) : ∀ kvs : List (κ × V), valV (kvs.map fun kv => if kv.1 = k then (kv.1, y) else kv) j = (valV kvs j).map fun x => if j = k then y else x
  | [] => rfl
  | p :: r => by
    have ih := valV_map k j y r
    rw [List.map_cons]
    by_cases h : p.1 = k
    · rw [if_pos h]
      by_cases e : p.1 = j
      · rw [valV_pos (p := (p.1, y)) e, valV_pos e, Option.map_some, if_pos (e.symm.trans h)]
      · rw [valV_neg (p := (p.1, y)) e, valV_neg e, ih]
    · rw [if_neg h]
      by_cases e : p.1 = j
      · rw [valV_pos (p := p) e, valV_pos e, Option.map_some, if_neg (fun z => h (e.trans z))]
      · rw [valV_neg (p := p) e, valV_neg e, ih]
theorem valV_snoc (k j : κ) (y : V) : ∀ kvs : List (κ × V), valV kvs k = none → valV (kvs ++ [(k, y)]) j = if j = k then some y else valV kvs j
  | [], _ => by
    by_cases e : k = j
    · rw [if_pos e.symm]; exact valV_pos (p := (k, y)) e
    · rw [if_neg (fun z => e z.symm)]; exact valV_neg (p := (k, y)) e
  | p :: r, hn => by
    rw [List.cons_append]
    have hk : ¬ p.1 = k := fun z => by rw [valV_pos z] at hn; cases hn
    rw [valV_neg hk] at hn
    have ih := valV_snoc k j y r hn
    by_cases e : p.1 = j
    · rw [valV_pos e, valV_pos e, if_neg (fun z => hk (e.trans z))]
    · rw [valV_neg e, valV_neg e, ih]
theorem valV_put (kvs : List (κ × V)) (k j : κ) (y : V) : valV (putK kvs k y) j = if j = k then some y else valV kvs j := by
  unfold putK
  by_cases a : (kvs.any fun kv => decide (kv.1 = k)) = true
  · rw [if_pos a, valV_map]
    rw [valV_any] at a
    by_cases e : j = k
    · obtain ⟨x, hx⟩ := Option.isSome_iff_exists.mp a
      rw [if_pos e, e, hx, Option.map_some, if_pos rfl]
    · rw [if_neg e]
      cases valV kvs j with
      | none => rfl
      | some x => rw [Option.map_some, if_neg e]
  · rw [if_neg a]
    refine valV_snoc k j y kvs ?_
    rw [valV_any] at a
    cases q : valV kvs k with
    | none => rfl
    | some x => rw [q] at a; exact (a rfl).elim
theorem length_putK (kvs : List (κ × V)) (k : κ) (v : V) : (putK kvs k v).length ≤ kvs.length + 1 := by
  unfold putK
  split
  · rw [List.length_map]; omega
  · rw [List.length_append, List.length_cons, List.length_nil]; omega
theorem RelO.isSome_eq {o : Option V} {u : Option Value} (r : RelO o u) : o.isSome = u.isSome := by
  cases o with
  | none => cases u with
    | none => rfl
    | some _ => exact (show False from r).elim
  | some _ => cases u with
    | none => exact (show False from r).elim
    | some _ => rfl
theorem RelO.getD {o : Option V} {u : Option Value} {d : V} {d' : Value} (r : RelO o u) (rd : RelV d d') : RelV (o.getD d) (u.getD d') := by
  cases o with
  | none => cases u with
    | none => exact rd
    | some _ => exact (show False from r).elim
  | some _ => cases u with
    | none => exact (show False from r).elim
    | some _ => exact r
theorem KV.val {kvs : List (κ × V)} {vs : List (κ × Value)} (r : KV kvs vs) (k : κ) : RelO (valV kvs k) (valueAt vs k) := by
  unfold KV at r
  induction r with
  | nil => exact True.intro
  | @cons p q ps qs h t ih =>
    obtain ⟨h1, h2⟩ := h
    by_cases e : p.1 = k
    · have e' : q.1 = k := h1.symm.trans e
      have b : valueAt (q :: qs) k = some q.2 := by simp [valueAt, List.find?_cons, e']
      rw [valV_pos e, b]; exact h2
    · have e' : ¬ q.1 = k := fun z => e (h1.trans z)
      have b : valueAt (q :: qs) k = valueAt qs k := by simp [valueAt, List.find?_cons, e']
      rw [valV_neg e, b]; exact ih
theorem KV.any {kvs : List (κ × V)} {vs : List (κ × Value)} (r : KV kvs vs) (k : κ) : (kvs.any fun kv => decide (kv.1 = k)) = vs.any fun kv => decide (kv.1 = k) := by
  unfold KV at r
  induction r with
  | nil => rfl
  | cons h t ih => rw [List.any_cons, List.any_cons, ih, h.1]
theorem KV.repl {kvs : List (κ × V)} {vs : List (κ × Value)} (r : KV kvs vs) (k : κ) {y : V} {u : Value} (ry : RelV y u) :
    KV (kvs.map fun kv => if kv.1 = k then (kv.1, y) else kv) (vs.map fun kv => if kv.1 = k then (kv.1, u) else kv) := by
  unfold KV at r ⊢
  induction r with
  | nil => exact .nil
  | @cons p q ps qs h t ih =>
    rw [List.map_cons, List.map_cons]
    refine .cons ?_ ih
    obtain ⟨h1, h2⟩ := h
    by_cases e : p.1 = k
    · rw [if_pos e, if_pos (h1.symm.trans e)]; exact ⟨h1, ry⟩
    · rw [if_neg e, if_neg (fun z => e (h1.trans z))]; exact ⟨h1, h2⟩
theorem KV.put {kvs : List (κ × V)} {vs : List (κ × Value)} (r : KV kvs vs) (k : κ) {y : V} {u : Value} (ry : RelV y u) : KV (putK kvs k y) (stored vs k u) := by
  unfold putK stored
  rw [r.any k]
  by_cases e : (vs.any fun kv => decide (kv.1 = k)) = true
  · rw [if_pos e, if_pos e]; exact r.repl k ry
  · rw [if_neg e, if_neg e]; exact Paired.snoc r ⟨rfl, ry⟩
theorem KV.length {kvs : List (κ × V)} {vs : List (κ × Value)} (r : KV kvs vs) : kvs.length = vs.length := Paired.length r
end
theorem kV_is {P : Program} {w : World} {k : Key} {u : Value} (r : RelV (kV k) u) : (mixKind P w).is k u = true := by
  cases k with
  | inl i => obtain ⟨t, e⟩ := (show ∃ t, u = Value.int i t from r); subst e; exact mixKind_int P w i t
  | inr x => obtain ⟨t, e⟩ := (show ∃ t, u = Value.str x t from r); subst e; exact mixKind_str P w x t
theorem items_are {P : Program} {w : World} : ∀ {ks : List Key} {us : List Value}, Vals (ks.map kV) us → ItemsAre (mixKind P w) ks us
  | [], _, r => by rw [List.map_nil] at r; cases r; exact .nil
  | k :: ks, _, r => by
    rw [List.map_cons] at r
    cases r with
    | cons h t => exact .cons (kV_is h) (items_are t)
abbrev KT (H : Hp) : List (List Key × V) → List (List Key × Addr × Value) → Prop := Paired fun p q => p.1 = q.1 ∧ H q.2.1 = some (.tup (p.1.map kV)) ∧ RelV p.2 q.2.2
theorem KT.val {H : Hp} {kvs : List (List Key × V)} {xs : List (List Key × Addr × Value)} (r : KT H kvs xs) (k : List Key) : RelO (valV kvs k) ((atKey xs k).map (·.2)) := by
  induction r with
  | nil => exact True.intro
  | @cons p q ps qs h t ih =>
    obtain ⟨h1, _, h2⟩ := h
    by_cases e : p.1 = k
    · have e' : q.1 = k := h1.symm.trans e
      have b : atKey (q :: qs) k = some q.2 := by simp [atKey, List.find?_cons, e']
      rw [valV_pos e, b]; exact h2
    · have e' : ¬ q.1 = k := fun z => e (h1.trans z)
      have b : atKey (q :: qs) k = atKey qs k := by simp [atKey, List.find?_cons, e']
      rw [valV_neg e, b]; exact ih
theorem KT.repl {H : Hp} {kvs : List (List Key × V)} {xs : List (List Key × Addr × Value)} (r : KT H kvs xs) (k : List Key) {y : V} {u : Value} (ry : RelV y u) :
    KT H (kvs.map fun kv => if kv.1 = k then (kv.1, y) else kv) (xs.map (putAt k u)) := by
  induction r with
  | nil => exact .nil
  | @cons p q ps qs h t ih =>
    rw [List.map_cons, List.map_cons]
    refine .cons ?_ ih
    obtain ⟨h1, h2, h3⟩ := h
    unfold putAt
    by_cases e : p.1 = k
    · rw [if_pos e, if_pos (h1.symm.trans e)]; exact ⟨h1, h2, ry⟩
    · rw [if_neg e, if_neg (fun z => e (h1.trans z))]; exact ⟨h1, h2, h3⟩
theorem KT.put {H : Hp} {kvs : List (List Key × V)} {xs : List (List Key × Addr × Value)} (r : KT H kvs xs) (k : List Key) {b : Addr} {y : V} {u : Value} (hb : H b = some (.tup (k.map kV))) (ry : RelV y u) :
    KT H (putK kvs k y) (storedH xs k b u) := by
  have e : (kvs.any fun kv => decide (kv.1 = k)) = (atKey xs k).isSome := by
    rw [valV_any, (r.val k).isSome_eq, Option.isSome_map]
  unfold putK storedH
  rw [e]
  by_cases q : (atKey xs k).isSome = true
  · rw [if_pos q, if_pos q]; exact r.repl k ry
  · rw [if_neg q, if_neg q]; exact Paired.snoc r ⟨rfl, hb, ry⟩
theorem KT.keeps {H H' : Hp} {kvs : List (List Key × V)} {xs : List (List Key × Addr × Value)} (r : KT H kvs xs) (ht : ∀ b ys, H b = some (.tup ys) → H' b = some (.tup ys)) : KT H' kvs xs :=
  Paired.mapP r fun _ _ z => ⟨z.1, ht _ _ z.2.1, z.2.2⟩
section
variable {P : Program} {w : World} {H : Hp} {h : Heap} {a : Addr}
theorem rd_of {u : HO} (ok : HOk P w H h) (e : Rd H a u) : ObjOk P w H h a u := e.ok ok
theorem dk_rd {kvs : List (Key × V)} (ok : HOk P w H h) (e : Rd H a (.dK kvs)) : kvs.length ≤ sizeLine ∧ (a == sysModules) = false ∧ ∃ vs, KV kvs vs ∧ h.DictOf (mixKind P w) a vs :=
  show ObjOk P w H h a (.dK kvs) from rd_of ok e
theorem dk_of {kvs : List (Key × V)} (ok : HOk P w H h) (e : H a = some (.dK kvs)) : kvs.length ≤ sizeLine ∧ (a == sysModules) = false ∧ ∃ vs, KV kvs vs ∧ h.DictOf (mixKind P w) a vs := dk_rd ok (.inl e)
theorem key_of {ks : List Key} (ok : HOk P w H h) (e : H a = some (.tup (ks.map kV))) : (tupleKind (mixKind P w)).is h ks a := by
  obtain ⟨_, its, r, o, h1, h2, n, h3⟩ := (show ObjOk P w H h a (.tup (ks.map kV)) from ok a _ e)
  exact ⟨o, its.toArray, n, h1, h2, h3, by simpa using items_are r⟩
theorem dt_rd {kvs : List (List Key × V)} (ok : HOk P w H h) (e : Rd H a (.dT kvs)) : kvs.length ≤ sizeLine ∧ (a == sysModules) = false ∧
    ∃ xs, KT H kvs xs ∧ h.DictOfH (tupleKind (mixKind P w)) a xs := by
  obtain ⟨z, y, xs, r, o, es, ep, h1, h2, h3, h4, h5⟩ := (show ObjOk P w H h a (.dT kvs) from rd_of ok e)
  refine ⟨z, y, xs, r, o, es, ep, h1, h2, h3, h4, fun x hx => ?_, h5⟩
  have all : ∀ {l : List (List Key × V)} {m : List (List Key × Addr × Value)}, KT H l m → ∀ x ∈ m, (tupleKind (mixKind P w)).is h x.1 x.2.1 := by
    intro l m q
    induction q with
    | nil => intro x hx; exact nomatch hx
    | @cons p q ps qs hq t ih =>
      intro x hx
      rcases List.mem_cons.mp hx with e | hx
      · subst e
        exact key_of ok (by rw [← hq.1]; exact hq.2.1)
      · exact ih x hx
  exact all r x hx
theorem dt_of {kvs : List (List Key × V)} (ok : HOk P w H h) (e : H a = some (.dT kvs)) : kvs.length ≤ sizeLine ∧ (a == sysModules) = false ∧
    ∃ xs, KT H kvs xs ∧ h.DictOfH (tupleKind (mixKind P w)) a xs := dt_rd ok (.inl e)
end
def DGet (H : Hp) (a : Addr) (y : V) (r : Option V) : Prop :=
  (∃ kvs k, Rd H a (.dK kvs) ∧ y = kV k ∧ r = valV kvs k) ∨ ∃ kvs k b, Rd H a (.dT kvs) ∧ y = .ref b ∧ H b = some (.tup (k.map kV)) ∧ r = valV kvs k
def DPut (H : Hp) (a : Addr) (y v : V) (H' : Hp) : Prop :=
  (∃ kvs k, H a = some (.dK kvs) ∧ y = kV k ∧ kvs.length < sizeLine ∧ H' = upd H a (.dK (putK kvs k v))) ∨
  ∃ kvs k b, H a = some (.dT kvs) ∧ y = .ref b ∧ H b = some (.tup (k.map kV)) ∧ kvs.length < sizeLine ∧ H' = upd H a (.dT (putK kvs k v))
theorem DGet.k {H : Hp} {a : Addr} {kvs : List (Key × V)} {k : Key} (e : H a = some (.dK kvs)) : DGet H a (kV k) (valV kvs k) := .inl ⟨kvs, k, .inl e, rfl, rfl⟩
theorem DGet.t {H : Hp} {a b : Addr} {kvs : List (List Key × V)} {k : List Key} (e : H a = some (.dT kvs)) (eb : H b = some (.tup (k.map kV))) : DGet H a (.ref b) (valV kvs k) := .inr ⟨kvs, k, b, .inl e, rfl, eb, rfl⟩
theorem DPut.k {H : Hp} {a : Addr} {kvs : List (Key × V)} {k : Key} {v : V} (e : H a = some (.dK kvs)) (hl : kvs.length < sizeLine) : DPut H a (kV k) v (upd H a (.dK (putK kvs k v))) := .inl ⟨kvs, k, e, rfl, hl, rfl⟩
theorem DPut.t {H : Hp} {a b : Addr} {kvs : List (List Key × V)} {k : List Key} {v : V} (e : H a = some (.dT kvs)) (eb : H b = some (.tup (k.map kV))) (hl : kvs.length < sizeLine) :
    DPut H a (.ref b) v (upd H a (.dT (putK kvs k v))) := .inr ⟨kvs, k, b, e, rfl, eb, hl, rfl⟩
section
variable {X : Cx} {pins : List (Addr × Obj)} {σ : St} {H : Hp} {s : Shared} {a : Addr} {y v : V} {u r : Value} {o : Option V} {A : Around} {E : Value → Shared → Prop}
theorem Inv.big (I : Inv X pins σ H s) : sysModules < s.heap.objs.size := by
  have h : mainGlobals < s.heap.objs.size := (I.mod.glob.keeps I.bk).lt
  exact Nat.lt_trans (by decide) h
theorem d_getItem {Q : Value → Shared → Prop} (hu : A.units + 1 < cLine) (I : Inv X pins σ H s) (g : DGet H a y (some v)) (ry : RelV y u) (h : ∀ w' s', Inv X pins σ H s' → RelV v w' → Q w' s') :
    wpAny (model X.prog X.w) A (getItem (.ref a) u) Q E s := by
  rcases g with ⟨kvs, k, e, ey, l⟩ | ⟨kvs, k, b, e, ey, eb, l⟩
  · subst ey
    obtain ⟨z, hd, vs, rel, dd⟩ := dk_rd I.hok e
    obtain ⟨w', hw, rw'⟩ := RelO.some_of (v := v) (o := valueAt vs k) (by rw [l]; exact rel.val k)
    exact wpAny_getItem_of (kV_is ry) dd.mapOf hw (h w' _ (I.tok _) rw')
  · subst ey
    cases (show u = Value.ref b from ry)
    obtain ⟨z, hd, xs, rel, dd⟩ := dt_rd I.hok e
    obtain ⟨w', hw, rw'⟩ := RelO.some_of (v := v) (o := (atKey xs k).map (·.2)) (by rw [l]; exact rel.val k)
    obtain ⟨p, hp, hp2⟩ := Option.map_eq_some_iff.mp hw
    refine wpAny_getItem_heap (tupleKind_room_in1 hu) (key_of I.hok eb) dd hp ?_
    rw [hp2]
    exact h w' _ (I.tok _) rw'
theorem d_write {h' : Heap} {t' : Nat} {ob : HO} (I : Inv X pins σ H s) (mu : Mut (H a)) (hs : Heap.SameBut a s.heap h') (he : ∃ q, h'.get? a = some q) (new : ObjOk X.prog X.w (upd H a ob) h' a ob) :
    Inv X pins σ (upd H a ob) { s with heap := h', toks := t' } :=
  I.write (x := a) (e := a) mu (.inl rfl) (fun b q hb z => (hs.2 b hb).trans z) he new
theorem dk_new {P : Program} {w : World} {H' : Hp} {h' : Heap} {kvs : List (Key × V)} {vs : List (Key × Value)} (z : kvs.length ≤ sizeLine) (hd : (a == sysModules) = false) (rel : KV kvs vs) (dd : h'.DictOf (mixKind P w) a vs) :
    ObjOk P w H' h' a (.dK kvs) := ⟨z, hd, vs, rel, dd⟩
theorem d_setItem {H' : Hp} {Q : Unit → Shared → Prop} (hu : A.units + 1 < cLine) (I : Inv X pins σ H s) (g : DPut H a y v H') (ry : RelV y u) (rv : RelV v r) (h : ∀ s', Inv X pins σ H' s' → Q () s') :
    wpAny (model X.prog X.w) A (setItem (.ref a) u r) Q E s := by
  rcases g with ⟨kvs, k, e, ey, l, eH⟩ | ⟨kvs, k, b, e, ey, eb, l, eH⟩
  · subst ey eH
    obtain ⟨z, hd, vs, rel, dd⟩ := dk_of I.hok e
    have hz : vs.length ≤ sizeLine := by rw [← rel.length]; exact z
    have hl : (putK kvs k v).length ≤ sizeLine := by have := length_putK kvs k v; omega
    refine wpAny_setItem_pairs (hsz := hz) (kV_is ry) dd fun h' dd' hs => h _ ?_
    have he : ∃ q, h'.get? a = some q := let ⟨q, _, _, hq, _⟩ := dd'; ⟨q, hq⟩
    exact d_write I (by rw [e]; exact True.intro) hs he (dk_new hl hd (rel.put k rv) dd')
  · subst ey eH
    cases (show u = Value.ref b from ry)
    obtain ⟨z, hd, xs, rel, dd⟩ := dt_of I.hok e
    have hz : xs.length ≤ sizeLine := by rw [← Paired.length rel]; exact z
    have hl : (putK kvs k v).length ≤ sizeLine := by have := length_putK kvs k v; omega
    refine wpAny_setItem_heap (hsz := hz) (tupleKind_room_in1 hu) (key_of I.hok eb) dd fun h' dd' hs => h _ ?_
    obtain ⟨q, es, ep, hq, h2, h3, h4, _, h5⟩ := dd'
    refine d_write I (by rw [e]; exact True.intro) hs ⟨q, hq⟩ ⟨hl, hd, _, (rel.put k eb rv).keeps fun c ys ec => ?_, q, es, ep, hq, h2, h3, h4, h5⟩
    rw [upd_ne (ne_of ec e (fun z => nomatch z))]
    exact ec
end
section
variable {X : Cx} {pins : List (Addr × Obj)} {σ : St} {H : Hp} {s : Shared} {a : Addr} {kvs : List (Key × V)} {k : Key} {u : Value} {A : Around} {E : Value → Shared → Prop}
end
def NoSl (i : Expr) : Prop := ∀ ov iv, subscripted i false ov iv = operate [ov, iv] (getItem ov iv)
theorem subD_of {prog : Program} {w : World} {A : Around} {E : Value → Shared → Prop} {s : Shared} {env : Env} {value slice : Expr} {pos : Pos} {T id : String} {Q : Value → Shared → Prop}
    (hl : typeLookup (.type T) "__getitem__" = pure (some (.builtin id))) (hs : NoSl slice)
    (h : wpAny (model prog w) A (eval value env) (fun o s₁ => wpAny (model prog w) A (eval slice env) (fun i s₂ => s₂.TypeIs o T ∧ wpAny (model prog w) A (getItem o i) Q E s₂) E s₁) E s) :
    wpAny (model prog w) A (eval (.Subscript value slice pos) env) Q E s := by
  refine Subscript_ (wpAny_mono h (fun o s₁ h₁ => wpAny_mono h₁ (fun i s₂ h₂ => ?_) fun _ _ x => x) fun _ _ x => x)
  obtain ⟨hT, h₂⟩ := h₂
  unfold subscriptTail
  refine wpAny_bind ?_
  rw [getitemInPython_of_ne hT.not_modules]
  refine wpAny_bind (wpAny_specialOf hT hl ?_)
  have fin : wpAny (model prog w) A (subscripted slice false o i) (fun r s₃ => wpAny (model prog w) A (letTemporaryGo value o r >>= fun _ => pure r) Q E s₃) E s₂ := by
    rw [hs o i]
    exact wpAny_operating (wpAny_mono h₂ (fun r s₃ h₃ => wpAny_bind (wpAny_letTemporaryGo (wpAny_pure h₃))) fun _ _ x => x)
  first
    | exact wpAny_pure (wpAny_bind fin)
    | exact wpAny_bind (wpAny_pure (wpAny_bind fin))
    | exact wpAny_bind fin
theorem dict_typeIs {X : Cx} {pins : List (Addr × Obj)} {σ : St} {H : Hp} {s : Shared} {a : Addr} {y : V} {o : Option V} (I : Inv X pins σ H s) (g : DGet H a y o) : s.TypeIs (.ref a) "dict" := by
  rcases g with ⟨kvs, k, e, _, _⟩ | ⟨kvs, k, b, e, _, _, _⟩
  · obtain ⟨_, _, vs, _, dd⟩ := dk_rd I.hok e
    exact dd.typeIs
  · obtain ⟨_, _, xs, _, dd⟩ := dt_rd I.hok e
    exact dd.typeIs
def tDGet (td ty : TE) : TE := fun σ H Q => td σ H fun x H1 => ty σ H1 fun y H2 => ∃ a v, x = .ref a ∧ DGet H2 a y (some v) ∧ Q v H2
def sDPut (td ty tv : TE) : TS := fun D σ H => tv σ H fun v H1 => td σ H1 fun x H2 => ty σ H2 fun y H3 => ∃ a H4, x = .ref a ∧ DPut H3 a y v H4 ∧ D.nx σ H4
section
variable {X : Cx} {o i e value : Expr} {pos pos' tpos : Pos} {td ty tv : TE}
theorem pe_dget (hu : X.A.units + 1 < cLine) (ho : PE X o td) (hi : PE X i ty) (hs : NoSl i) : PE X (.Subscript o i pos) (tDGet td ty) := by
  intro pins s σ H Q I h
  refine subD_of PySem.F.slot_dict_getitem.lookup hs (thn (ho pins s σ H _ I h) fun u s1 ⟨x, H1, I1, rx, q1⟩ => thn (hi pins s1 σ H1 _ I1 q1) fun iv s2 ⟨y, H2, I2, ry, a, v, ex, g, q2⟩ => ?_)
  subst ex
  obtain rfl : u = Value.ref a := rx
  exact ⟨dict_typeIs I2 g, d_getItem hu I2 g ry fun w' s3 I3 rw' => ⟨v, H2, I3, rw', q2⟩⟩
theorem ps_dput (hu : X.A.units + 1 < cLine) (ho : PE X o td) (hi : PE X i ty) (hv : PE X value tv) (hs : swapsWith value (some (.Subscript o i pos')) pos.line X.env = pure false) :
    PS X (.Assign [.Subscript o i pos'] value pos) (sDPut td ty tv) := by
  intro pins s σ H D I h
  refine wpAny_Assign_Subscript (thn (hv pins s σ H _ I h) fun r s1 ⟨v, H1, I1, rv, q1⟩ => thn (ho pins s1 σ H1 _ I1 q1) fun u s2 ⟨x, H2, I2, rx, q2⟩ => thn (hi pins s2 σ H2 _ I2 q2) fun iv s3 ⟨y, H3, I3, ry, a, H4, ex, g, q3⟩ => ?_) hs
  subst ex
  obtain rfl : u = Value.ref a := rx
  exact d_setItem hu I3 g ry rv fun s4 I4 => ⟨σ, H4, I4, q3⟩
end
theorem dk_empty {P : Program} {w : World} {H : Hp} (h : Heap) (hb : sysModules < h.objs.size) : ObjOk P w H (h.push { cls := .type "dict", data := .dict #[] }) h.objs.size (.dK []) :=
  ⟨Nat.zero_le _, beq_eq_false_iff_ne.mpr (Ne.symm (Nat.ne_of_lt hb)), [], .nil, Heap.DictOf.new h⟩
theorem dt_empty {P : Program} {w : World} {H : Hp} (h : Heap) (hb : sysModules < h.objs.size) : ObjOk P w H (h.push { cls := .type "dict", data := .dict #[] }) h.objs.size (.dT []) :=
  ⟨Nat.zero_le _, beq_eq_false_iff_ne.mpr (Ne.symm (Nat.ne_of_lt hb)), [], .nil, _, #[], 0, Heap.get?_push_size _ rfl, ⟨rfl, rfl, rfl⟩, rfl, rfl, List.nodup_nil⟩
def tDNewK : TE := fun _ H Q => ∀ p, H p = none → Q (.ref p) (upd H p (.dK []))
def tDNewT : TE := fun _ H Q => ∀ p, H p = none → Q (.ref p) (upd H p (.dT []))
section
variable {X : Cx} {pos : Pos}
theorem pe_dnewK : PE X (.Dict [] [] pos) tDNewK := fun pins s σ H Q I h =>
  wpAny_Dict_empty ⟨.ref s.heap.objs.size, _, I.laid (a := s.heap.objs.size) (o := .dK []) (t' := s.toks) (fun _ _ q => Heap.get?_push_of_some _ q) (Nat.le_refl _) (dk_empty s.heap I.big), rfl, h _ (I.hok.fresh (Nat.le_refl _))⟩
theorem pe_dnewT : PE X (.Dict [] [] pos) tDNewT := fun pins s σ H Q I h =>
  wpAny_Dict_empty ⟨.ref s.heap.objs.size, _, I.laid (a := s.heap.objs.size) (o := .dT []) (t' := s.toks) (fun _ _ q => Heap.get?_push_of_some _ q) (Nat.le_refl _) (dt_empty s.heap I.big), rfl, h _ (I.hok.fresh (Nat.le_refl _))⟩
end
structure M2 (X : Cx) (o : Expr) (m : Str) (apos : Pos) (e f : Expr) (cpos : Pos) : Prop where
  base : attributeBase o m X.env (eval o X.env) = eval o X.env
  few : ((backTo cpos (starEach [e, f] X.env)).all (fun x => !x.1) && (backToKw cpos (keywordEach [] X.env)).all (fun x => x.1.isSome)
    && decide (([e, f] : List Expr).length + ([] : List Keyword).length + (if ([] : List Keyword).isEmpty then 0 else 1) < 30)) = true
  line : (apos.endLine == cpos.line) = true
  trees : backTo cpos (starEach [e, f] X.env) = [(false, eval e X.env), (false, eval f X.env)]
def IsD (H : Hp) (a : Addr) : Prop := (∃ kvs, Rd H a (.dK kvs)) ∨ ∃ kvs, Rd H a (.dT kvs)
theorem isD_at {X : Cx} {pins : List (Addr × Obj)} {σ : St} {H : Hp} {s : Shared} {a : Addr} (I : Inv X pins σ H s) (d : IsD H a) :
    s.TypeIs (.ref a) "dict" ∧ (∀ b, Value.ref a = .ref b → ∃ ob, s.heap.get? b = some ob ∧ ob.dict = none) ∧ (a == sysModules) = false := by
  rcases d with ⟨kvs, e⟩ | ⟨kvs, e⟩
  · obtain ⟨_, hd, vs, _, dd⟩ := dk_rd I.hok e
    refine ⟨dd.typeIs, fun b q => ?_, hd⟩
    cases q
    obtain ⟨ob, _, _, h1, h2, _⟩ := dd
    exact ⟨ob, h1, h2.2.1⟩
  · obtain ⟨_, hd, xs, _, dd⟩ := dt_rd I.hok e
    refine ⟨dd.typeIs, fun b q => ?_, hd⟩
    cases q
    obtain ⟨ob, _, _, h1, h2, _⟩ := dd
    exact ⟨ob, h1, h2.2.1⟩
section
variable {X : Cx} {pins : List (Addr × Obj)} {σ : St} {H : Hp} {s : Shared} {a : Addr} {y d : V} {u r : Value} {o : Option V} {A : Around} {E : Value → Shared → Prop}
theorem d_get2 {Q : Value → Shared → Prop} (hu : A.units + 1 < cLine) (I : Inv X pins σ H s) (g : DGet H a y o) (ry : RelV y u) (rd : RelV d r) (h : ∀ w' s', Inv X pins σ H s' → RelV (o.getD d) w' → Q w' s') :
    wpAny (model X.prog X.w) A (call (.builtin "dict.get") [.ref a, u, r]) Q E s := by
  rcases g with ⟨kvs, k, e, ey, l⟩ | ⟨kvs, k, b, e, ey, eb, l⟩
  · subst ey
    obtain ⟨z, hd, vs, rel, dd⟩ := dk_rd I.hok e
    refine call_meetsIn PySem.F.slot_dict_get dd.typeIs PySem.F.entry_dict_get (PySem.F.args_dict_get_3 _ _ _) (meets_dict_get_default (mixKind X.prog X.w) a (kV_is ry) hd r) ⟨_, dd.mapOf, h _ _ (I.tok _) ?_⟩
    rw [l]
    exact (rel.val k).getD rd
  · subst ey
    cases (show u = Value.ref b from ry)
    obtain ⟨z, hd, xs, rel, dd⟩ := dt_rd I.hok e
    refine call_meetsIn PySem.F.slot_dict_get dd.typeIs PySem.F.entry_dict_get (PySem.F.args_dict_get_3 _ _ _) (meetsH_dict_get_default (tupleKind (mixKind X.prog X.w)) a b hd r) ⟨tupleKind_room_in1 hu, k, xs, key_of I.hok eb, dd, h _ _ (I.tok _) ?_⟩
    rw [l]
    exact (rel.val k).getD rd
end
def tDGet2 (td ty tx : TE) : TE := fun σ H Q => td σ H fun x H1 => ∃ a, x = .ref a ∧ IsD H1 a ∧ ty σ H1 fun y H2 => tx σ H2 fun z H3 => ∃ o, DGet H3 a y o ∧ Q (o.getD z) H3
section
variable {X : Cx} {o e f : Expr} {apos cpos : Pos} {td ty tx : TE}
theorem pe_dget2 (hu : X.A.units + 1 < cLine) (ho : PE X o td) (he : PE X e ty) (hf : PE X f tx) (m : M2 X o "get" apos e f cpos) : PE X (.Call (.Attribute o "get" apos) [e, f] [] cpos) (tDGet2 td ty tx) := by
  intro pins s σ H Q I h
  refine wpAny_Call_method m.base m.few m.line PySem.F.plainAttrs_dict PySem.F.slot_dict_get PySem.F.type_dict_get (thn (ho pins s σ H _ I h) fun u s1 ⟨x, H1, I1, rx, a, ex, d, q1⟩ => ?_)
  subst ex
  obtain rfl : u = Value.ref a := rx
  obtain ⟨t1, t2, _⟩ := isD_at I1 d
  refine ⟨t1, t2, ?_⟩
  rw [m.trees]
  refine Calls.callWith_builtin rfl (Calls.evalArgs_plain (Calls.spliced_cons (thn (he pins s1 σ H1 _ I1 q1) fun iv s2 ⟨y, H2, I2, ry, q2⟩ =>
    Calls.spliced_cons (thn (hf pins s2 σ H2 _ I2 q2) fun fv s3 ⟨z, H3, I3, rz, ov, g, q3⟩ => Calls.spliced_nil ?_))))
  exact d_get2 hu I3 g ry rz fun w' s4 I4 rw' => ⟨_, H3, I4, rw', q3⟩
end
section
variable {X : Cx} {pins : List (Addr × Obj)} {σ : St} {H : Hp} {s : Shared} {a : Addr} {kvs : List (Key × V)} {A : Around} {E : Value → Shared → Prop}
end
section
variable {X : Cx} {pins : List (Addr × Obj)} {σ : St} {H : Hp} {s : Shared} {a : Addr} {y : V} {u : Value} {A : Around} {E : Value → Shared → Prop}
end
end L2
namespace HT
open PySem PyProof.Rows
section
open PySem.SeqAt
open PySem.AutoSeq1 (wpAny_loadPart')
open PySem.MeetsSeq PySem.MeetsSeq2 PySem.MeetsSeq3
end
section
variable {prog : Program} {w : World} {A : Around} {E : Value → Shared → Prop} {s : Shared}
def sIx (n d : Nat) : Option Int → Nat
  | none => d
  | some v => if v < 0 then (v + (n : Int)).toNat else min v.toNat n
theorem sIx_none (n d : Nat) : sIx n d none = d := rfl
theorem sIx_nat (n d k : Nat) : sIx n d (some (k : Int)) = min k n := by
  show (if (k : Int) < 0 then ((k : Int) + (n : Int)).toNat else min (k : Int).toNat n) = min k n
  rw [if_neg (by omega), Int.toNat_natCast]
end
end HT
namespace L2
open PySem PySem.Spec PyProof.Rows
abbrev TO := St → Hp → (Option Int → Hp → Prop) → Prop
def PO (X : Cx) (e : Option Expr) (t : TO) : Prop :=
  ∀ (pins : List (Addr × Obj)) (s : Shared) (σ : St) (H : Hp) (Q : Option Int → Hp → Prop), Inv X pins σ H s → t σ H Q →
    wpAny (model X.prog X.w) X.A (evalPart e X.env) (fun u s' => ∃ o H', Inv X pins σ H' s' ∧ IsPart u o ∧ Q o H') X.xe s
def tNoPart : TO := fun _ H Q => Q none H
def tPart (t : TE) : TO := fun σ H Q => t σ H fun x H1 => ∃ i, x = .int i ∧ Q (some i) H1
section
variable {X : Cx} {e : Expr} {te : TE} {lo hi : Option Expr} {tl th : TO} {pos p2 : Pos}
theorem po_none : PO X none tNoPart := by
  intro pins s σ H Q I h
  rw [evalPart_none]
  exact wpAny_pure ⟨none, H, I, .none, h⟩
theorem po_some (h : PE X e te) : PO X (some e) (tPart te) := by
  intro pins s σ H Q I hw
  rw [evalPart_some]
  refine thn (h pins s σ H _ I hw) fun u s1 ⟨x, H1, I1, r1, q1⟩ => ?_
  obtain ⟨i, rfl, q⟩ := q1
  obtain ⟨t, rfl⟩ := r1
  exact ⟨some i, H1, I1, .int i t, q⟩
def SlR (X : Cx) (r : V → Option Int → Option Int → Hp → VK → Prop) : Prop :=
  ∀ (pins : List (Addr × Obj)) (s : Shared) (σ : St) (H : Hp) (x : V) (v vl vu : Value) (lo hi : Option Int) (sl : Addr) (Q : VK), Inv X pins σ H s → RelV x v → s.heap.IsSliceOf sl vl vu .none → IsPart vl lo → IsPart vu hi → r x lo hi H Q →
    ∃ T id, typeLookup (.type T) "__getitem__" = pure (some (.builtin id)) ∧ s.TypeIs v T ∧ wpAny (model X.prog X.w) X.A (getItem v (.ref sl)) (EP X pins σ Q) X.xe s
def tSl (r : V → Option Int → Option Int → Hp → VK → Prop) (te : TE) (tl th : TO) : TE := fun σ H Q => te σ H fun x H1 => tl σ H1 fun l H2 => th σ H2 fun u H3 => r x l u H3 Q
theorem pe_slice {r : V → Option Int → Option Int → Hp → VK → Prop} (hr : SlR X r) (he : PE X e te) (hl : PO X lo tl) (hu : PO X hi th) : PE X (.Subscript e (.Slice lo hi none p2) pos) (tSl r te tl th) := by
  intro pins s σ H Q I h
  refine Subscript_ (thn (he pins s σ H _ I h) fun v s1 ⟨x, H1, I1, r1, q1⟩ => ?_)
  refine wpAny_Slice (thn (hl pins s1 σ H1 _ I1 q1) fun vl s2 ⟨l, H2, I2, pl, q2⟩ => thn (hu pins s2 σ H2 _ I2 q2) fun vu s3 ⟨u, H3, I3, pu, q3⟩ => ?_)
  rw [evalPart_none]
  refine wpAny_pure ?_
  have I4 : Inv X pins σ H3 { s3 with heap := s3.heap.push { cls := .type "slice", data := .fields #[vl, vu, .none] } } := I3.kept (t' := s3.toks) fun b ob q => Heap.get?_push_of_some _ q
  obtain ⟨T, id, hT, ht, hg⟩ := hr pins { s3 with heap := s3.heap.push { cls := .type "slice", data := .fields #[vl, vu, .none] } } σ H3 x v vl vu l u s3.heap.objs.size Q I4 r1 (Heap.IsSliceOf.new ..) pl pu q3
  show wpAny (model X.prog X.w) X.A (subscriptTail e (.Slice lo hi none p2) v (.ref s3.heap.objs.size)) (EP X pins σ Q) X.xe { s3 with heap := s3.heap.push { cls := .type "slice", data := .fields #[vl, vu, .none] } }
  exact tail_any (ops := [.ref s3.heap.objs.size, v]) ht hT hg (by with_unfolding_all rfl)
def cutV (xs : List V) (lo hi : Option Int) : List V := (xs.drop (HT.sIx xs.length 0 lo)).take (HT.sIx xs.length xs.length hi - HT.sIx xs.length 0 lo)
theorem cutV_length (xs : List V) (lo hi : Option Int) : (cutV xs lo hi).length ≤ xs.length := by
  unfold cutV
  rw [List.length_take, List.length_drop]
  omega
end
end L2
namespace L2
open PySem PySem.Spec PyProof.Rows
def ixN (n : Nat) (i : Int) : Option Nat := if 0 ≤ i then (if i < n then some i.toNat else none) else if -(n : Int) ≤ i then some (i + n).toNat else none
def atI {α : Type} (xs : List α) (i : Int) : Option α := (ixN xs.length i).bind fun j => xs[j]?
theorem ixN_seq {n : Nat} {i : Int} {j : Nat} (h : ixN n i = some j) : seqIndex? i n = some j ∧ j < n ∧ -(n : Int) ≤ i ∧ i < n := by
  unfold ixN at h
  by_cases h0 : 0 ≤ i
  · rw [if_pos h0] at h
    by_cases h1 : i < n
    · rw [if_pos h1] at h
      have e : i.toNat = j := Option.some.inj h
      exact ⟨by rw [seqIndex_of h0 h1, e], by omega, by omega, h1⟩
    · rw [if_neg h1] at h; cases h
  · rw [if_neg h0] at h
    by_cases h1 : -(n : Int) ≤ i
    · rw [if_pos h1] at h
      have e : (i + n).toNat = j := Option.some.inj h
      exact ⟨by rw [seqIndex_neg (by omega) h1, e], by omega, h1, by omega⟩
    · rw [if_neg h1] at h; cases h
theorem atI_get {α : Type} {xs : List α} {i : Int} {v : α} (h : atI xs i = some v) : ∃ j, seqIndex? i xs.length = some j ∧ xs[j]? = some v ∧ j < xs.length ∧ -(xs.length : Int) ≤ i ∧ i < xs.length := by
  unfold atI at h
  cases e : ixN xs.length i with
  | none => rw [e] at h; cases h
  | some j =>
    rw [e] at h
    obtain ⟨h1, h2, h3, h4⟩ := ixN_seq e
    exact ⟨j, h1, h, h2, h3, h4⟩
theorem atI_nat {α : Type} {xs : List α} {j : Nat} {v : α} (h : xs[j]? = some v) : atI xs (j : Int) = some v := by
  have hj : j < xs.length := (List.getElem?_eq_some_iff.mp h).1
  have e : ixN xs.length (j : Int) = some j := by
    unfold ixN
    rw [if_pos (by omega), if_pos (by omega)]; simp
  unfold atI; rw [e]; exact h
def PlainIx (b : Expr) : Prop := ∀ o i, subscripted b false o i = operate [o, i] (getItem o i)
def IxR (X : Cx) (r : R2) : Prop :=
  ∀ (value slice : Expr) (pins : List (Addr × Obj)) (s : Shared) (σ : St) (H : Hp) (x y : V) (v u : Value) (Q : VK), Inv X pins σ H s → RelV x v → RelV y u → r x y H Q →
    subscripted slice false v u = operate [v, u] (getItem v u) → wpAny (model X.prog X.w) X.A (subscriptTail value slice v u) (EP X pins σ Q) X.xe s
def MtR (X : Cx) (id : String) (r : V → List V → Hp → VK → Prop) : Prop :=
  ∀ (pins : List (Addr × Obj)) (s : Shared) (σ : St) (H : Hp) (x : V) (xs : List V) (v : Value) (us : List Value) (Q : VK), Inv X pins σ H s → RelV x v → Vals xs us → r x xs H Q →
    wpAny (model X.prog X.w) X.A (call (.builtin id) (v :: us)) (EP X pins σ Q) X.xe s
section
variable {X : Cx} {a b : Expr} {ta tb : TE} {pos : Pos}
theorem IxR.or {r r' : R2} (h : IxR X r) (h' : IxR X r') : IxR X (fun x y H Q => r x y H Q ∨ r' x y H Q) := by
  intro value slice pins s σ H x y v u Q I rx ry q hs
  rcases q with q | q
  · exact h value slice pins s σ H x y v u Q I rx ry q hs
  · exact h' value slice pins s σ H x y v u Q I rx ry q hs
theorem pe_ix {r : R2} (hr : IxR X r) (ha : PE X a ta) (hb : PE X b tb) (hs : PlainIx b) : PE X (.Subscript a b pos) (tOp r ta tb) := by
  intro pins s σ H Q I h
  exact Subscript_ (binT ha hb I h fun v u s2 x y H2 I2 rx ry q => hr a b pins s2 σ H2 x y v u Q I2 rx ry q (hs _ _))
def rIxL (K : PySem.W.Frag) : R2 := fun x y H Q => ∃ p xs i v, x = .ref p ∧ y = .int i ∧ SqL K H p xs ∧ atI xs i = some v ∧ Q v H
def rIxT (K : PySem.W.Frag) : R2 := fun x y H Q => ∃ p xs i v, x = .ref p ∧ y = .int i ∧ SqT K H p xs ∧ atI xs i = some v ∧ Q v H
def rIxS : R2 := fun x y H Q => ∃ z i c, x = .str z ∧ y = .int i ∧ z.length ≤ sizeLine ∧ atI z.cps.toList i = some c ∧ Q (.str ⟨#[c]⟩) H
theorem ix_list : IxR X (rIxL X.K) := by
  intro value slice pins s σ H x y v u Q I rx ry h hs
  obtain ⟨p, xs, i, z, rfl, rfl, hq, he, q⟩ := h
  cases rx
  obtain ⟨t, rfl⟩ := ry
  obtain ⟨its, r, pl, hz⟩ := I.list hq
  obtain ⟨j, h1, h2, h3, h4, h5⟩ := atI_get he
  obtain ⟨w, ew, rw'⟩ := r.get h2
  have hl := r.length
  have hn := line63
  have fin : EP X pins σ Q w s := ⟨z, H, I, rw', q⟩
  by_cases h0 : 0 ≤ i
  · have hj : i.toNat = j := by
      rw [seqIndex_of h0 h5] at h1
      exact Option.some.inj h1
    exact item_listR pl.isList h0 (by omega) (by rw [hj]; simpa using ew) fin hs
  · have hj : (i + (its.toArray.size : Int)).toNat = j := by
      rw [seqIndex_neg (by omega) h4] at h1
      rw [List.size_toArray, ← hl]
      exact Option.some.inj h1
    exact subscriptTail_builtinR (x := w) pl.isList.typeIs slot_list_getitem.lookup
      (wpAny_getItem_list_neg (Q := fun r s' => r = w ∧ EP X pins σ Q r s') pl.isList (by omega) (by rw [List.size_toArray] <;> omega) (by omega) (by rw [hj]; simpa using ew) ⟨rfl, fin⟩) hs
theorem ix_tup : IxR X (rIxT X.K) := by
  intro value slice pins s σ H x y v u Q I rx ry h hs
  obtain ⟨p, xs, i, z, rfl, rfl, hq, he, q⟩ := h
  cases rx
  obtain ⟨t, rfl⟩ := ry
  obtain ⟨its, r, pl, hz⟩ := I.tuple hq
  obtain ⟨j, h1, h2, h3, h4, h5⟩ := atI_get he
  obtain ⟨w, ew, rw'⟩ := r.get h2
  have hl := r.length
  have hn := line63
  have fin : EP X pins σ Q w s := ⟨z, H, I, rw', q⟩
  exact subscriptTail_builtinR (x := w) pl.typeIs slot_tuple_getitem.lookup
    (getItem_tuple (j := j) (Q := fun r s' => r = w ∧ EP X pins σ Q r s') pl (by omega) (by omega) (by rw [List.size_toArray, ← hl]; exact h1) (by simpa using ew) ⟨rfl, fin⟩) hs
theorem ix_str : IxR X rIxS := by
  intro value slice pins s σ H x y v u Q I rx ry h hs
  obtain ⟨z, i, c, rfl, rfl, hz, he, q⟩ := h
  obtain ⟨t, rfl⟩ := rx
  obtain ⟨t', rfl⟩ := ry
  obtain ⟨j, h1, h2, h3, h4, h5⟩ := atI_get he
  have hl : z.cps.toList.length = z.length := by simp [Str.length]
  rw [hl] at h1 h4 h5
  have hn := line63
  exact tail_any (typeIs_str s z t) slot_str_getitem.lookup (getItem_str (c := c) (by
    have e1 : decide (i < -(2 ^ 63 : Int)) = false := decide_eq_false (by omega)
    have e2 : decide (i ≥ 2 ^ 63) = false := decide_eq_false (by omega)
    rw [e1, e2, Bool.or_false]) (by rw [h1]; simpa using h2) ⟨.str ⟨#[c]⟩, H, I.tok _, ⟨_, rfl⟩, q⟩) hs
def rIx (K : PySem.W.Frag) : R2 := fun x y H Q => rIxL K x y H Q ∨ rIxT K x y H Q ∨ rIxS x y H Q
theorem ix_seq : IxR X (rIx X.K) := ix_list.or (ix_tup.or ix_str)
theorem mapSeq_set (its : List Value) (n j : Nat) (u : Value) : Obj.mapSeq (·.setIfInBounds j u) { cls := .type "list", data := .seq its.toArray n } = { cls := .type "list", data := .seq (its.set j u).toArray n } := by
  simp [Obj.mapSeq]
theorem Inv.lst {pins : List (Addr × Obj)} {σ : St} {H : Hp} {s : Shared} {p : Addr} {xs : List V} (I : Inv X pins σ H s) (h : H p = some (.lst xs)) :
    ∃ (its : List Value) (n : Nat), Vals xs its ∧ s.heap.get? p = some { cls := .type "list", data := .seq its.toArray n } ∧ xs.length ≤ sizeLine := by
  obtain ⟨z, its, n, r, e⟩ := I.hok p _ h
  exact ⟨its, n, r, e, z⟩
theorem Inv.lstUpd {pins : List (Addr × Obj)} {σ : St} {H : Hp} {s : Shared} {p : Addr} {xs ys : List V} {its its' : List Value} {n n' : Nat} {f : Obj → Obj} (I : Inv X pins σ H s) (h : H p = some (.lst xs))
    (ho : s.heap.get? p = some { cls := .type "list", data := .seq its.toArray n }) (hf : f { cls := .type "list", data := .seq its.toArray n } = { cls := .type "list", data := .seq its'.toArray n' }) (r : Vals ys its') (hz : ys.length ≤ sizeLine) (t : Nat) :
    Inv X pins σ (upd H p (.lst ys)) { s with heap := s.heap.update p f, toks := t } := by
  have e : (s.heap.update p f).get? p = some { cls := .type "list", data := .seq its'.toArray n' } := by
    rw [Heap.get?_update_self f ho (by rw [hf] <;> rfl), hf]
  refine I.write (x := p) (e := p) (by rw [h]; trivial) (.inl rfl) (fun b u hb q => (Heap.get?_update_other _ _ (Ne.symm hb)).trans q) ⟨_, e⟩ ?_
  exact ⟨hz, its', n', r, e⟩
def rSetL : V → V → V → Hp → (Hp → Prop) → Prop := fun o i v H Q => ∃ p xs k j, o = .ref p ∧ i = .int k ∧ H p = some (.lst xs) ∧ ixN xs.length k = some j ∧ Q (upd H p (.lst (xs.set j v)))
theorem set_list : PSet X rSetL := by
  intro pins s σ H o i v ov iv u Q I ro ri rv h
  obtain ⟨p, xs, k, j, rfl, rfl, hp, hj, q⟩ := h
  cases ro
  obtain ⟨t, rfl⟩ := ri
  obtain ⟨its, n, r, ho, hz⟩ := I.lst hp
  obtain ⟨h1, h2, h3, h4⟩ := ixN_seq hj
  have hl := r.length
  have hn := line63
  have I' : Inv X pins σ (upd H p (.lst (xs.set j v))) { s with heap := s.heap.update p (Obj.mapSeq (·.setIfInBounds j u)) } :=
    I.lstUpd hp ho (mapSeq_set its n j u) (r.set rv j) (by rw [List.length_set]; exact hz) s.toks
  by_cases h0 : 0 ≤ k
  · have hk : k.toNat = j := by
      rw [seqIndex_of h0 h4] at h1
      exact Option.some.inj h1
    exact PySem.W.ki_setAt ho h0 (by omega) (by rw [List.size_toArray, ← hl]; exact h4) (by rw [hk]; exact ⟨_, I', q⟩)
  · have hk : (k + (its.toArray.size : Int)).toNat = j := by
      rw [seqIndex_neg (by omega) h3] at h1
      rw [List.size_toArray, ← hl]
      exact Option.some.inj h1
    exact PySem.W.ki_setBack ho (by omega) (by rw [List.size_toArray, ← hl]; exact h3) (by omega) (by rw [hk]; exact ⟨_, I', q⟩)
theorem slice_bounds (lo hi : Option Int) (n : Nat) : (sliceBounds lo hi none n).1 = ((HT.sIx n 0 lo : Nat) : Int) ∧ (sliceBounds lo hi none n).2.1 = ((HT.sIx n n hi : Nat) : Int) ∧ (sliceBounds lo hi none n).2.2 = 1 := by
  refine ⟨?_, ?_, rfl⟩
  · cases lo with
    | none => simp [sliceBounds, HT.sIx]
    | some i =>
      simp only [sliceBounds, HT.sIx, Option.getD_none, show (1 : Int) > 0 by decide, if_true]
      by_cases h : i < 0
      · simp only [h, if_true] <;> omega
      · simp only [h, if_false] <;> omega
  · cases hi with
    | none => simp [sliceBounds, HT.sIx]
    | some i =>
      simp only [sliceBounds, HT.sIx, Option.getD_none, show (1 : Int) > 0 by decide, if_true]
      by_cases h : i < 0
      · simp only [h, if_true] <;> omega
      · simp only [h, if_false] <;> omega
theorem slicePick_cut (its : List Value) (lo hi : Option Int) : slicePick its.toArray lo hi none = ((its.drop (HT.sIx its.length 0 lo)).take (HT.sIx its.length its.length hi - HT.sIx its.length 0 lo)).toArray := by
  obtain ⟨h1, h2, h3⟩ := slice_bounds lo hi its.toArray.size
  unfold slicePick
  rw [h1, h2, h3]
  simp only [sliceRange_one, pick_run, List.size_toArray] <;> rfl
def rSlL (K : PySem.W.Frag) : V → Option Int → Option Int → Hp → VK → Prop := fun x lo hi H Q => ∃ a xs, x = .ref a ∧ SqL K H a xs ∧ ∀ p, H p = none → Q (.ref p) (upd H p (.lst (cutV xs lo hi)))
theorem sl_list : SlR X (rSlL X.K) := by
  intro pins s σ H x v vl vu lo hi sl Q I rx hs pl pu h
  obtain ⟨a, xs, rfl, hx, q⟩ := h
  cases rx
  obtain ⟨its, r, ht, hz⟩ := I.list hx
  have hlen := r.length
  refine ⟨"list", _, slot_list_getitem.lookup, ht.isList.typeIs, ?_⟩
  refine wpAny_getItem_list_slice ht.isList hs pl pu .none (by simp) ?_ (by rw [List.size_toArray] <;> omega)
  rw [slicePick_cut, ← hlen]
  refine ⟨.ref s.heap.objs.size, _, I.laid (t' := s.toks) (o := .lst (cutV xs lo hi)) (fun b ob q => Heap.get?_push_of_some _ q) (Nat.le_refl _) ?_, rfl, q _ (I.hok.fresh (Nat.le_refl _))⟩
  exact ⟨Nat.le_trans (cutV_length xs lo hi) hz, _, 0, (r.drop (HT.sIx xs.length 0 lo)).take (HT.sIx xs.length xs.length hi - HT.sIx xs.length 0 lo), Heap.get?_push_size _ rfl⟩
def flatV : V → Bool
  | .non => true
  | .bl _ => true
  | .int _ => true
  | .str _ => true
  | _ => false
def eqV : V → V → Bool
  | .non, .non => true
  | .bl a, .bl b => a == b
  | .bl a, .int b => (if a then 1 else 0) == b
  | .int a, .bl b => a == (if b then 1 else 0)
  | .int a, .int b => a == b
  | .str a, .str b => a == b
  | _, _ => false
theorem eqAt_V {A : Around} {s : Shared} {y x : V} {u v : Value} (ry : RelV y u) (rx : RelV x v) (fy : flatV y = true) (fx : flatV x = true) : SeqAt.EqAt A s u v (eqV y x) := by
  cases y with
  | non =>
    cases ry
    cases x with
    | non => cases rx; exact SeqAt.EqAt.same _
    | bl b => cases rx; exact SeqAt.EqAt.none_bool b
    | int b => obtain ⟨t, rfl⟩ := rx; exact SeqAt.EqAt.none_int b t
    | str b => obtain ⟨t, rfl⟩ := rx; exact SeqAt.EqAt.none_str b t
    | _ => exact absurd (show false = true from fx) Bool.false_ne_true
  | bl a =>
    cases ry
    cases x with
    | non => cases rx; exact SeqAt.EqAt.bool_none a
    | bl b => cases rx; exact SeqAt.EqAt.bool_bool a b
    | int b => obtain ⟨t, rfl⟩ := rx; exact SeqAt.EqAt.bool_int a b t
    | str b => obtain ⟨t, rfl⟩ := rx; exact SeqAt.EqAt.bool_str a b t
    | _ => exact absurd (show false = true from fx) Bool.false_ne_true
  | int a =>
    obtain ⟨t', rfl⟩ := ry
    cases x with
    | non => cases rx; exact SeqAt.EqAt.int_none a t'
    | bl b => cases rx; exact SeqAt.EqAt.int_bool a t' b
    | int b => obtain ⟨t, rfl⟩ := rx; exact SeqAt.EqAt.int_int a t' b t
    | str b => obtain ⟨t, rfl⟩ := rx; exact SeqAt.EqAt.int_str a t' b t
    | _ => exact absurd (show false = true from fx) Bool.false_ne_true
  | str a =>
    obtain ⟨t', rfl⟩ := ry
    cases x with
    | non => cases rx; exact SeqAt.EqAt.str_none a t'
    | bl b => cases rx; exact SeqAt.EqAt.str_bool a t' b
    | int b => obtain ⟨t, rfl⟩ := rx; exact SeqAt.EqAt.str_int a t' b t
    | str b => obtain ⟨t, rfl⟩ := rx; exact SeqAt.EqAt.str_str a t' b t
    | _ => exact absurd (show false = true from fx) Bool.false_ne_true
  | _ => exact absurd (show false = true from fy) Bool.false_ne_true
def eqU (x : V) (u : Value) : Bool := match u with
  | .none => eqV .non x
  | .bool b => eqV (.bl b) x
  | .int i _ => eqV (.int i) x
  | .str z _ => eqV (.str z) x
  | _ => false
theorem eqU_of {x y : V} {u : Value} (r : RelV y u) (f : flatV y = true) : eqU x u = eqV y x := by
  cases y with
  | non => cases r; rfl
  | bl b => cases r; rfl
  | int i => obtain ⟨t, rfl⟩ := r; rfl
  | str z => obtain ⟨t, rfl⟩ := r; rfl
  | _ => exact absurd (show false = true from f) Bool.false_ne_true
theorem any_eqU {x : V} : ∀ {xs : List V} {us : List Value}, Vals xs us → xs.all flatV = true → us.any (eqU x) = xs.any fun y => eqV y x
  | _, _, .nil, _ => rfl
  | y :: xs, u :: us, .cons r t, f => by
    rw [List.all_cons, Bool.and_eq_true] at f
    rw [List.any_cons, List.any_cons, eqU_of r f.1, any_eqU t f.2]
theorem mem_eqAt {A : Around} {s : Shared} {x : V} {v : Value} (rx : RelV x v) (fx : flatV x = true) : ∀ {xs : List V} {us : List Value}, Vals xs us → xs.all flatV = true → ∀ u ∈ us, SeqAt.EqAt A s u v (eqU x u)
  | _, _, .nil, _ => fun u hu => by cases hu
  | y :: xs, u :: us, .cons r t, f => fun u' hu => by
    rw [List.all_cons, Bool.and_eq_true] at f
    rcases List.mem_cons.mp hu with rfl | hu
    · rw [eqU_of r f.1]; exact eqAt_V r rx f.1 fx
    · exact mem_eqAt rx fx t f.2 u' hu
def inV (x : V) (xs : List V) : Bool := xs.any fun y => eqV y x
def rIn (K : PySem.W.Frag) (neg : Bool) : R2 := fun x y H Q => ∃ p xs, y = .ref p ∧ (SqL K H p xs ∨ SqT K H p xs) ∧ flatV x = true ∧ xs.all flatV = true ∧ Q (.bl (if neg then !inV x xs else inV x xs)) H
theorem op_in_seq : OpR X (compareOp .In) (rIn X.K false) := by
  intro pins s σ H x y v u Q I rx ry h
  obtain ⟨p, xs, rfl, hq, fx, fs, q⟩ := h
  cases ry
  rcases hq with hq | hq
  · obtain ⟨its, r, pl, hz⟩ := I.list hq
    refine SeqAt.in_listAt (eqU x) pl.isList (fun w hw => mem_eqAt rx fx r fs w (by simpa using hw)) ⟨.bl _, H, I, rfl, ?_⟩
    rw [show its.toArray.any (eqU x) = its.any (eqU x) by simp, any_eqU r fs]
    exact q
  · obtain ⟨its, r, pl, hz⟩ := I.tuple hq
    refine SeqAt.in_tupleAt (eqU x) pl (fun w hw => mem_eqAt rx fx r fs w (by simpa using hw)) ⟨.bl _, H, I, rfl, ?_⟩
    rw [show its.toArray.any (eqU x) = its.any (eqU x) by simp, any_eqU r fs]
    exact q
theorem call_len_seq : CallR X (.builtin "len") (fun xs H Q => ∃ p ys, xs = [.ref p] ∧ (SqL X.K H p ys ∨ SqT X.K H p ys) ∧ Q (.int ys.length) H) := by
  intro pins s σ H xs us Q I r h
  obtain ⟨p, ys, rfl, hq, q⟩ := h
  obtain ⟨u, rfl, rx⟩ := vals1 r
  cases rx
  have hn := line63
  rcases hq with hq | hq
  · obtain ⟨its, r', pl, hz⟩ := I.list hq
    have hlen := r'.length
    exact Calls.call_len_list pl.isList (by simp only [List.size_toArray] <;> omega) ⟨.int ys.length, H, I.tok _, ⟨s.toks + 1, by rw [List.size_toArray, hlen]⟩, q⟩
  · obtain ⟨its, r', pl, hz⟩ := I.tuple hq
    have hlen := r'.length
    exact len_tuple pl (by simp only [List.size_toArray] <;> omega) ⟨.int ys.length, H, I.tok _, ⟨s.toks + 1, by rw [List.size_toArray, hlen]⟩, q⟩
theorem call_list_of : CallR X (.type "list") (fun xs H Q => ∃ p ys, xs = [.ref p] ∧ (SqL X.K H p ys ∨ SqT X.K H p ys) ∧ ∀ l, H l = none → Q (.ref l) (upd H l (.lst ys))) := by
  intro pins s σ H xs us Q I r h
  obtain ⟨p, ys, rfl, hq, q⟩ := h
  obtain ⟨u, rfl, rx⟩ := vals1 r
  cases rx
  have fin : ∀ (its : List Value), Vals ys its → ys.length ≤ sizeLine → ∀ (h' : Heap) (c' : Nat), (∀ b o', s.heap.get? b = some o' → h'.get? b = some o') →
      h'.get? s.heap.objs.size = some { cls := .type "list", dict := none, data := .seq its.toArray c', slots := #[] } → EP X pins σ Q (.ref s.heap.objs.size) { s with heap := h' } := fun its r' hz h' c' kp e =>
    ⟨.ref s.heap.objs.size, _, I.laid (t' := s.toks) kp (Nat.le_refl _) (show ObjOk X.prog X.w _ h' _ (.lst ys) from ⟨hz, its, c', r', e⟩), rfl, q _ (I.hok.fresh (Nat.le_refl _))⟩
  rcases hq with hq | hq
  · obtain ⟨its, r', pl, hz⟩ := I.list hq
    have hlen := r'.length
    obtain ⟨o, ho, hc, n, hd⟩ := pl.isList
    exact call_list_seq p (.inl rfl) ho hc hd (fun h' c' kp e => fin its r' hz h' c' kp e) (by simp only [List.size_toArray] <;> omega)
  · obtain ⟨its, r', pl, hz⟩ := I.tuple hq
    have hlen := r'.length
    obtain ⟨o, ho, hc, n, hd⟩ := pl
    exact call_list_seq p (.inr rfl) ho hc hd (fun h' c' kp e => fin its r' hz h' c' kp e) (by simp only [List.size_toArray] <;> omega)
theorem call_tuple_of : CallR X (.type "tuple") (fun xs H Q => ∃ p ys, xs = [.ref p] ∧ ((SqL X.K H p ys ∧ ∀ l, H l = none → Q (.ref l) (upd H l (.tup ys))) ∨ (SqT X.K H p ys ∧ Q (.ref p) H))) := by
  intro pins s σ H xs us Q I r h
  obtain ⟨p, ys, rfl, h⟩ := h
  obtain ⟨u, rfl, rx⟩ := vals1 r
  cases rx
  rcases h with ⟨hq, q⟩ | ⟨hq, q⟩
  · obtain ⟨its, r', pl, hz⟩ := I.list hq
    have hlen := r'.length
    refine call_tuple_list pl.isList (fun h' kp => ?_) (by simp only [List.size_toArray] <;> omega)
    have I1 : Inv X pins σ H { s with heap := h' } := I.kept (t' := s.toks) kp
    have I2 : Inv X pins σ (upd H h'.objs.size (.tup ys)) { s with heap := h'.push { cls := .type "tuple", data := .seq its.toArray } } :=
      I1.laid (t' := s.toks) (fun b o e => Heap.get?_push_of_some _ e) (Nat.le_refl _) (show ObjOk X.prog X.w _ _ _ (.tup ys) from ⟨hz, its, r', IsTup.new _ _⟩)
    exact ⟨.ref h'.objs.size, _, I2, rfl, q _ (I1.hok.fresh (Nat.le_refl _))⟩
  · obtain ⟨its, r', pl, hz⟩ := I.tuple hq
    exact call_tuple_same pl ⟨.ref p, H, I, rfl, q⟩
def tyV (K : PySem.W.Frag) (T : String) (x : V) (H : Hp) : Prop := match x with
  | .str _ => T = "str"
  | .int _ => T = "int"
  | .ref p => (T = "list" ∧ ∃ xs, SqL K H p xs) ∨ (T = "tuple" ∧ ∃ o, K.lookup p = some o ∧ o.cls = .type "tuple" ∧ o.dict = none) ∨
      (T = "dict" ∧ ((∃ kvs, H p = some (.dK kvs)) ∨ ∃ kvs, H p = some (.dT kvs))) ∨ (T = "set" ∧ ∃ S n, H p = some (.set S n))
  | _ => False
theorem tyV_is {pins : List (Addr × Obj)} {σ : St} {H : Hp} {s : Shared} {T : String} {x : V} {v : Value} (I : Inv X pins σ H s) (r : RelV x v) (ty : tyV X.K T x H) :
    s.TypeIs v T ∧ ∀ a, v = .ref a → ∃ ob, s.heap.get? a = some ob ∧ ob.dict = none := by
  cases x with
  | str z =>
    obtain ⟨t, rfl⟩ := r
    cases (show T = "str" from ty)
    exact ⟨typeIs_str s z t, fun _ e => nomatch e⟩
  | int i =>
    obtain ⟨t, rfl⟩ := r
    cases (show T = "int" from ty)
    exact ⟨typeIs_int s i t, fun _ e => nomatch e⟩
  | ref p =>
    cases r
    rcases ty with ⟨rfl, xs, hq⟩ | ⟨rfl, o, hk, hc, hd⟩ | ⟨rfl, hk⟩ | ⟨rfl, S, n, hk⟩
    · obtain ⟨its, _, pl, _⟩ := I.list hq
      refine ⟨pl.isList.typeIs, fun a e => ?_⟩
      cases e
      obtain ⟨o, n, e, c, hd, _⟩ := pl
      exact ⟨o, e, hd⟩
    · refine ⟨⟨o, I.kIn p o hk, hc⟩, fun a e => ?_⟩
      cases e
      exact ⟨o, I.kIn _ o hk, hd⟩
    · have z : ∃ o, s.heap.get? p = some o ∧ o.ExactDict := by
        rcases hk with ⟨kvs, hk⟩ | ⟨kvs, hk⟩
        · obtain ⟨_, _, _, _, o, _, _, e, ex, _⟩ := I.hok p _ hk
          exact ⟨o, e, ex⟩
        · obtain ⟨_, _, _, _, o, _, _, e, ex, _⟩ := I.hok p _ hk
          exact ⟨o, e, ex⟩
      obtain ⟨o, e, ex⟩ := z
      refine ⟨⟨o, e, ex.1⟩, fun a e2 => ?_⟩
      cases e2
      exact ⟨o, e, ex.2.1⟩
    · obtain ⟨o, _, _, _, e, ex, _⟩ := I.hok p _ hk
      refine ⟨⟨o, e, ex.1⟩, fun a e2 => ?_⟩
      cases e2
      exact ⟨o, e, ex.2.1⟩
  | _ => exact False.elim ty
def tBM0 (K : PySem.W.Frag) (T : String) (r : V → List V → Hp → VK → Prop) (to : TE) : TE := fun σ H Q => to σ H fun x H1 => tyV K T x H1 ∧ r x [] H1 Q
def tBM (K : PySem.W.Frag) (T : String) (r : V → List V → Hp → VK → Prop) (to : TE) (t : TA) : TE := fun σ H Q => to σ H fun x H1 => tyV K T x H1 ∧ t σ H1 fun xs H2 => r x xs H2 Q
variable {o e : Expr} {es : List Expr} {to : TE} {t : TA} {name : Str} {apos cpos : Pos} {T id : String} {r : V → List V → Hp → VK → Prop}
theorem pe_bm0 (pa : PlainAttrs T) (slot : Slot T name id) (hty : typeOf (.builtin id) = pure (.type "method_descriptor")) (hm : MtR X id r) (ho : PE X o to)
    (hbase : attributeBase o name X.env (eval o X.env) = eval o X.env := by rfl) (hline : (apos.endLine == cpos.line) = true := by rfl) : PE X (.Call (.Attribute o name apos) [] [] cpos) (tBM0 X.K T r to) := by
  intro pins s σ H Q I h
  refine wpAny_Call_method0_late hbase hline (thn (ho pins s σ H _ I h) fun v s1 ⟨x, H1, I1, r1, ty, q1⟩ => ?_)
  obtain ⟨h1, h2⟩ := tyV_is I1 r1 ty
  exact ⟨T, id, pa, slot, hty, h1, h2, Calls.callWith_builtin rfl (PySem.evalArgs_none (hm pins s1 σ H1 x [] v [] Q I1 r1 .nil q1))⟩
theorem pe_bm (pa : PlainAttrs T) (slot : Slot T name id) (hty : typeOf (.builtin id) = pure (.type "method_descriptor")) (hm : MtR X id r) (ho : PE X o to) (ha : PA X (e :: es) t)
    (hbase : attributeBase o name X.env (eval o X.env) = eval o X.env := by rfl)
    (hfew : ((backTo cpos (starEach (e :: es) X.env)).all (fun x => !x.1) && (backToKw cpos (keywordEach [] X.env)).all (fun x => x.1.isSome)
      && decide ((e :: es).length + ([] : List Keyword).length + (if ([] : List Keyword).isEmpty then 0 else 1) < 30)) = true := by rfl)
    (hline : (apos.endLine == cpos.line) = true := by rfl) (hs : starEach (e :: es) X.env = (false, eval e X.env) :: starEach es X.env := by rfl) (hplain : (backTo cpos (starEach es X.env)).any (·.1) = false := by rfl) :
    PE X (.Call (.Attribute o name apos) (e :: es) [] cpos) (tBM X.K T r to t) := by
  intro pins s σ H Q I h
  refine wpAny_Call_method_late hbase hfew hline rfl (thn (ho pins s σ H _ I h) fun v s1 ⟨x, H1, I1, r1, ty, q1⟩ => ?_)
  obtain ⟨h1, h2⟩ := tyV_is I1 r1 ty
  refine ⟨T, id, pa, slot, hty, h1, h2, ?_⟩
  have hA := ha cpos pins s1 σ H1 _ I1 q1
  rw [hs] at hA ⊢
  refine Calls.callWith_builtin (by show (false || (backTo cpos (starEach es X.env)).any (·.1)) = false; rw [hplain] <;> rfl) (Calls.evalArgs_plain ?_)
  exact thn hA fun us s2 ⟨vs, H2, I2, r2, q2⟩ => hm pins s2 σ H2 x vs v us Q I2 r1 r2 q2
end
end L2
namespace L2
open PySem PySem.Spec PyProof.Rows
def MtM (X : Cx) (id : String) (r : V → List V → Hp → VK → Prop) : Prop :=
  ∀ (pins : List (Addr × Obj)) (s : Shared) (σ : St) (H : Hp) (x : V) (xs : List V) (v : Value) (us : List Value) (Q : VK), Inv X pins σ H s → RelV x v → Vals xs us → r x xs H Q →
    wpAny (model X.prog X.w) X.A (call (.builtin id) (v :: us)) (EP X pins σ Q) X.xe s
theorem Vals.one : ∀ {x : V} {us : List Value}, Vals [x] us → ∃ u, us = [u] ∧ RelV x u
  | _, _, .cons r .nil => ⟨_, rfl, r⟩
theorem Vals.zero : ∀ {us : List Value}, Vals [] us → us = []
  | _, .nil => rfl
theorem Vals.dropLast {xs : List V} {us : List Value} (h : Vals xs us) : Vals xs.dropLast us.dropLast := by
  induction h with
  | nil => exact .nil
  | cons r t ih =>
    cases t with
    | nil => exact .nil
    | cons q t' => exact .cons r ih
theorem Vals.rep {xs : List V} {us : List Value} (h : Vals xs us) : ∀ k : Nat, Vals (List.replicate k xs).flatten (List.replicate k us).flatten
  | 0 => .nil
  | k + 1 => by
    rw [List.replicate_succ, List.replicate_succ, List.flatten_cons, List.flatten_cons]
    exact Vals.append h (Vals.rep h k)
theorem erase_last {α : Type} (l : List α) : l.eraseIdx (l.length - 1) = l.dropLast := by
  induction l with
  | nil => rfl
  | cons a r ih =>
    cases r with
    | nil => rfl
    | cons b r =>
      have e : (a :: b :: r).length - 1 = ((b :: r).length - 1) + 1 := by
        have h1 : (a :: b :: r).length = r.length + 2 := rfl
        have h2 : (b :: r).length = r.length + 1 := rfl
        omega
      rw [e, List.eraseIdx_cons_succ, ih]
      all_goals rfl
theorem foldl_rep (its : List Value) : ∀ (k : Nat) (acc : List Value),
    List.foldl (fun x1 x2 => x1 ++ x2) acc.toArray (List.replicate k its.toArray) = (acc ++ (List.replicate k its).flatten).toArray
  | 0, acc => by simp
  | k + 1, acc => by
    have e : acc.toArray ++ its.toArray = (acc ++ its).toArray := by simp
    have e2 : (acc ++ its) ++ (List.replicate k its).flatten = acc ++ (List.replicate (k + 1) its).flatten := by
      rw [List.replicate_succ, List.flatten_cons, List.append_assoc]
    rw [← e2, ← foldl_rep its k (acc ++ its), ← e, List.replicate_succ, List.foldl_cons]
section
variable {X : Cx} {pins : List (Addr × Obj)} {σ : St} {H : Hp} {s : Shared} {l b : Addr} {xs ys zs : List V}
theorem Inv.lset {its its' : List Value} {n : Nat} {f : Array Value → Array Value} {t' : Nat} (I : Inv X pins σ H s) (hH : H l = some (.lst xs))
    (e : s.heap.get? l = some { cls := .type "list", data := .seq its.toArray n }) (hf : f its.toArray = its'.toArray) (hv : Vals ys its') (hz : ys.length ≤ sizeLine) :
    Inv X pins σ (upd H l (.lst ys)) { s with heap := s.heap.update l (Obj.mapSeq f), toks := t' } := by
  have q := PySem.IsL.update e f
  rw [hf] at q
  refine I.write (x := l) (e := l) (by rw [hH]; exact trivial) (.inl rfl) (fun b' u hb hu => (Heap.get?_update_other s.heap (Obj.mapSeq f) (Ne.symm hb)).trans hu) ⟨_, q⟩ ?_
  exact ⟨hz, its', _, hv, q⟩
theorem Inv.lnew {its : List Value} {t' : Nat} (I : Inv X pins σ H s) (hv : Vals ys its) (hz : ys.length ≤ sizeLine) :
    Inv X pins σ (upd H s.heap.objs.size (.lst ys)) { s with heap := s.heap.push { cls := .type "list", data := .seq its.toArray }, toks := t' } :=
  I.laid (fun _ _ q => Heap.get?_push_of_some _ q) (Nat.le_refl _) ⟨hz, its, 0, hv, Heap.get?_push_size _ rfl⟩
theorem Inv.fresh (I : Inv X pins σ H s) : H s.heap.objs.size = none := I.hok.fresh (Nat.le_refl _)
theorem Inv.lstM (I : Inv X pins σ H s) (hH : H l = some (.lst xs)) : xs.length ≤ sizeLine ∧ ∃ (its : List Value) (n : Nat), Vals xs its ∧ xs.length = its.length ∧ s.heap.get? l = some { cls := .type "list", data := .seq its.toArray n } := by
  obtain ⟨z, its, n, r, e⟩ := I.hok l _ hH
  exact ⟨z, its, n, r, r.length, e⟩
theorem notLongL {n : Nat} (h : n ≤ sizeLine) : Builtin.List.listTooLong n = false := by
  unfold Builtin.List.listTooLong
  exact decide_eq_false (by omega)
end
section
variable {X : Cx}
def rAppend : V → List V → Hp → VK → Prop := fun x vs H Q => ∃ l xs y, x = .ref l ∧ vs = [y] ∧ H l = some (.lst xs) ∧ xs.length < sizeLine ∧ Q .non (upd H l (.lst (xs ++ [y])))
theorem mt_append : MtM X "list.append" rAppend := by
  intro pins s σ H x vs v us Q I rx rv h
  obtain ⟨l, xs, y, rfl, rfl, hH, hz, q⟩ := h
  cases rx
  obtain ⟨u, rfl, ru⟩ := rv.one
  obtain ⟨z, its, n, r, hl, e⟩ := I.lstM hH
  refine call_meets F.slot_list_append ⟨_, e, rfl⟩ F.entry_list_append (F.args_list_append_2 _ _) (PySem.list_append l its.toArray n u (by rw [List.size_toArray]; omega)) ⟨e, ?_⟩
  refine ⟨.non, _, I.lset (its' := its ++ [u]) hH e (by simp) (r.append (.cons ru .nil)) ?_, rfl, q⟩
  rw [List.length_append, List.length_singleton]
  omega
def rPop : V → List V → Hp → VK → Prop := fun x vs H Q => ∃ l xs y, x = .ref l ∧ vs = [] ∧ H l = some (.lst xs) ∧ xs[xs.length - 1]? = some y ∧ Q y (upd H l (.lst xs.dropLast))
theorem mt_pop : MtM X "list.pop" rPop := by
  intro pins s σ H x vs v us Q I rx rv h
  obtain ⟨l, xs, y, rfl, rfl, hH, hy, q⟩ := h
  cases rx
  have hus := rv.zero
  subst hus
  obtain ⟨z, its, n, r, hl, e⟩ := I.lstM hH
  obtain ⟨u, hu, ru⟩ := r.get hy
  have hy' : its.toArray[its.toArray.size - 1]? = some u := by
    show its.toArray[its.length - 1]? = some u
    rw [← Array.getElem?_toList, ← hl]
    exact hu
  refine call_meets F.slot_list_pop ⟨_, e, rfl⟩ F.entry_list_pop (F.args_list_pop_1 _) (MeetsSeq.list_pop_last l its.toArray n u hy' (by rw [List.size_toArray]; omega)) ⟨e, ?_⟩
  refine ⟨y, _, I.lset (its' := its.dropLast) hH e ?_ r.dropLast ?_, ru, q⟩
  · show its.toArray.eraseIdxIfInBounds (its.toArray.size - 1) = its.dropLast.toArray
    rw [List.size_toArray, List.eraseIdxIfInBounds_toArray, erase_last]
  · rw [List.length_dropLast]
    omega
def rCat : R2 := fun x y H Q => ∃ l b xs zs, x = .ref l ∧ y = .ref b ∧ H l = some (.lst xs) ∧ H b = some (.lst zs) ∧ xs.length + zs.length ≤ sizeLine ∧ ∀ p, H p = none → Q (.ref p) (upd H p (.lst (xs ++ zs)))
theorem op_cat : OpR X (binaryOp .Add) rCat := by
  intro pins s σ H x y v u Q I rx ry h
  obtain ⟨l, b, xs, zs, rfl, rfl, hH, hB, hz, q⟩ := h
  cases rx
  cases ry
  obtain ⟨z, its, n, r, hl, e⟩ := I.lstM hH
  obtain ⟨z2, its2, n2, r2, hl2, e2⟩ := I.lstM hB
  refine PySem.P.add_list e e2 ?_ (by rw [List.size_toArray, List.size_toArray]; omega)
  have ea : its.toArray ++ its2.toArray = (its ++ its2).toArray := by simp
  rw [ea]
  exact ⟨.ref _, _, I.lnew (t' := s.toks) (r.append r2) (by rw [List.length_append]; omega), rfl, q _ I.fresh⟩
def rRep : R2 := fun x y H Q => ∃ l k xs, x = .ref l ∧ y = .int k ∧ H l = some (.lst xs) ∧ -(2 ^ 63) ≤ k ∧ k < 2 ^ 63 ∧ xs.length * k.toNat ≤ sizeLine ∧
  ∀ p, H p = none → Q (.ref p) (upd H p (.lst (List.replicate k.toNat xs).flatten))
theorem len_rep {α : Type} (xs : List α) (k : Nat) : (List.replicate k xs).flatten.length = k * xs.length := by
  induction k with
  | zero => simp
  | succ k ih => rw [List.replicate_succ, List.flatten_cons, List.length_append, ih, Nat.succ_mul, Nat.add_comm]
theorem op_rep : OpR X (binaryOp .Mult) rRep := by
  intro pins s σ H x y v u Q I rx ry h
  obtain ⟨l, k, xs, rfl, rfl, hH, h1, h2, hz, q⟩ := h
  cases rx
  obtain ⟨t, rfl⟩ := ry
  obtain ⟨z, its, n, r, hl, e⟩ := I.lstM hH
  have hlen : its.toArray.size * k.toNat ≤ sizeLine := by rw [List.size_toArray, ← hl]; exact hz
  have hcap : ¬ its.toArray.size * k.toNat > (2 ^ 63 - 1) / 8 := by
    have : (sizeLine : Nat) ≤ (2 ^ 63 - 1) / 8 := by decide
    omega
  have hfit : ¬ (!Builtin.List.listFitsIndex k) = true := by
    rw [fitsIndex_both h1 h2]
    exact Bool.false_ne_true
  have hlong : ¬ Builtin.List.listTooLong (its.toArray.size * k.toNat) = true := by
    rw [notLongL hlen]
    exact Bool.false_ne_true
  have hnew : List.foldl (fun x1 x2 => x1 ++ x2) #[] (List.replicate (if its.toArray.isEmpty = true then 0 else k.toNat) its.toArray) = (List.replicate k.toNat its).flatten.toArray := by
    have f0 : ∀ m : Nat, List.foldl (fun x1 x2 => x1 ++ x2) #[] (List.replicate m its.toArray) = (List.replicate m its).flatten.toArray := fun m => by
      have := foldl_rep its m []
      rw [List.nil_append] at this
      exact this
    rw [f0]
    cases its with
    | nil => simp
    | cons a r' => rw [if_neg (by simp)]
  refine wpAny_binaryOp_repeat_ref (T := "list") (U := "int") (by decide) ⟨_, e, rfl⟩ (fun s' => typeIs_int s' k t) noFill_list_mul F.fills_int_mul F.slot_int_rmul repeat_list F.slot_int_index.lookup
    (call_meets F.slot_int_rmul (typeIs_int s k t) F.entry_int_rmul (F.args_int_rmul_2 _ _) (int___rmul___int_list k t l its.toArray n)
      ⟨e, rfl, ⟨_, e, rfl⟩, call_meets F.slot_list_mul ⟨_, e, rfl⟩ F.entry_list_mul (F.args_list_mul_2 _ _) (AutoListH.list___mul___list_int_3 l its.toArray n k t hfit hcap hlong) ⟨e, ?_⟩⟩)
  rw [hnew]
  exact ⟨.ref _, _, I.lnew (t' := s.toks) (r.rep k.toNat) (by rw [len_rep, Nat.mul_comm]; exact hz), rfl, q _ I.fresh⟩
end
section
variable {prog : Program} {w : World} {A : Around} {E : Value → Shared → Prop} {s : Shared}
end
section
variable {X : Cx}
end
end L2
namespace Att
open PySem PySem.W PySem.Calls PyProof.Rows
theorem ints_of_wellAll {P : Params} {h : Heap} : ∀ (ns : List Int) (vs : List Value), WellAll P h vs (ns.map WData.int) → IntsAre vs ns := by
  intro ns
  induction ns with
  | nil =>
    intro vs w
    rw [List.map_nil] at w
    cases w
    exact .nil
  | cons n ns ih =>
    intro vs w
    rw [List.map_cons] at w
    cases w with
    | cons a b =>
      cases a
      exact .cons _ _ (ih _ b)
theorem script_of {l : OpenLaw} {n : Nat} (hn : l.most = some n) {P : Params} {h : Heap} {args : List WData} {vals : List Value}
    (hpre : l.row.toRowW.claim.pre args = true) (hwl : WellAll P h vals args) :
    ∃ a vs ns, vals = [Value.ref a] ∧ args = [WData.list (ns.map WData.int)] ∧ h.get? a = some { cls := .type "list", data := .seq vs.toArray } ∧ IntsAre vs ns ∧ ns.length ≤ n := by
  have hsh : WShape.hasAll [] args [.list .int] = true := (pre_splitW hpre).1
  have hc : l.pre.holds [] { args := args } = true := (pre_splitW hpre).2
  obtain ⟨d, r, rfl, h1, h2⟩ := hasAllW_cons hsh
  obtain rfl := hasAllW_nil h2
  obtain ⟨xs, rfl, h3⟩ := hasW_list h1
  obtain ⟨ns, rfl⟩ := items_int h3
  have hlen : ns.length ≤ n := by
    unfold OpenLaw.pre at hc
    have h4 : (WTm.not (.lt (.lit (.int (n : Int))) (.len (.arg 0)))).holds [] { args := [.list (ns.map .int)] } = true := by
      have h4 := (holds_andW hc).1
      rw [hn] at h4
      exact h4
    have h5 := condW_of h4 (w_not (w_lt w_lit (w_len_list (w_arg rfl))))
    rw [List.length_map] at h5
    refine Nat.le_of_not_lt fun q => ?_
    have q' : (n : Int) < ((ns.length : Nat) : Int) := by omega
    first
      | (rw [decide_eq_true q'] at h5; exact absurd h5 (by decide))
      | (simp at h5; omega)
  cases hwl with
  | cons w1 w2 =>
    cases w2
    cases w1 with
    | list ho hall => exact ⟨_, _, ns, rfl, rfl, ho, ints_of_wellAll ns _ hall, hlen⟩
theorem post_true (l : OpenLaw) (args : List WData) : l.row.toRowW.claim.post args (.bool true) args = true :=
  postW_of (r := l.row.toRowW) (X := (true == true))
    (show WShape.has [] (.bool true) .bool = true by first | rfl | decide | simp [WShape.has, WShape.arms, WShape.armsAll])
    (show (WTm.eq .res (.lit (.bool true))).value [] { args := args, res := some (.bool true), after := args } = some (.bool (true == true)) from w_eq_bool (w_res rfl) w_lit) rfl
theorem attach_call {l : OpenLaw} {n : Nat} {q : Program} {loose : List Str} {XP : (Str → Option Value) → Heap → Prop} {YP : World → Heap → Prop} {d : DefRec}
    (hn : l.most = some n) (hdf : d.params.defaults = [])
    (call : ∀ (w : World) (s₀ s₁ : Shared) (mg mb : Str → Option Value) (fa : Addr) (o : Obj) (pm cd doc : Value) (a : Addr) (vs : List Value) (ns : List Int),
      Ground q loose [] XP w s₀ mg mb s₁.heap → YP w s₁.heap →
      s₁.heap.get? fa = some o → o.data = .func (docDef d.name d.params d.body d.scope pm cd doc) → s₁.heap.CodeRec cd d.name → mg d.name = some (.ref fa) →
      s₁.heap.get? a = some { cls := .type "list", data := .seq vs.toArray } → IntsAre vs ns → ns.length ≤ n → s₁.gens = #[] →
      codeAny (model l.prog w) callerA (.call (.ref fa) ⟨[.ref a], []⟩) (fun r s' => r = .ok (.ret (.bool true)) ∧ OldK s₁.heap s'.heap ∧ s'.os = s₁.os ∧ AllBare s'.gens) s₁) :
    WalkO q loose XP YP l.row.toRowW d [] (fun f vs => PySem.call f vs) := by
  intro w s₀ s₁ mg mb G Y fa o pm cd doc dV kV ho hd hcd hD hmg hg args vals as hpre hlay hrd hwl hlo
  obtain rfl : dV = .none := Dflts.none hD hdf
  obtain rfl : kV = .none := Dflts.noKw hD
  obtain ⟨a, vs, ns, rfl, rfl, hobj, hints, hlen⟩ := script_of hn hpre hwl
  refine enter_call (codeAny_mono (call w s₀ s₁ mg mb fa o pm cd doc a vs ns G Y ho (fd_plain hd) hcd hmg hobj hints hlen hg) fun r s' hq => ?_)
  obtain ⟨rfl, h2, h3, h4⟩ := hq
  exact ⟨.inl ⟨.bool true, .bool true, [], rfl, fun _ => rfl, .bool true, post_true l _, fun _ => ⟨List.Pairwise.nil, fun _ hm => (nomatch hm)⟩⟩, h2, h3, h4⟩
section
variable {prog : Program} {w : World} {A : Around} {E : Value → Shared → Prop} {s : Shared} {K : Frag}
end
end Att
namespace L2
open PySem PySem.Spec PyProof.Rows
theorem vals_ints : ∀ {vs : List Value} {ns : List Int}, IntsAre vs ns → Vals (ns.map V.int) vs
  | _, _, .nil => .nil
  | _, _, .cons n t h => .cons ⟨t, rfl⟩ (vals_ints h)
def Only (H : Hp) : Prop := ∀ b, H b = none ∨ ∃ o xs, H b = some (.frz o (.lst xs))
theorem law_call {P : Program} {w : World} {K : PySem.W.Frag} {mg mb : Str → Option Value} {CX : CXT} {k : Nat} {fa a : Addr} {fd : FuncData} {x : Str} {sp : Sp} {s₁ : Shared} {vs : List Value} {ns : List Int}
    (KX : K.In s₁.heap) (hns : s₁.heap.Ns mainGlobals mg) (hb : s₁.heap.Ns builtinsNs mb) (hbb : ∀ x : Str, x ≠ "__name__" → mb x = bootBuiltins x) (hlim : s₁.heap.NoLimit) (hg : s₁.gens = #[])
    (ha : s₁.heap.get? a = some { cls := .type "list", data := .seq vs.toArray }) (hi : IntsAre vs ns) (hl : ns.length ≤ sizeLine) (hr : Room k callerA)
    (F : ∀ base : Heap, K.In base → base.Ns mainGlobals mg → FnOk P w K mg base CX k fa fd [x] sp) (hbind : ∀ (s : Shared) (u : Value), BindsTo s fd ⟨[u], []⟩ [(x, u)])
    (hsp : ∀ H : Hp, Only H → SqL K H a (ns.map V.int) → sp [.ref a] H (fun v _ => v = .bl true) fun _ _ _ => False)
    (hCX : ∀ H e s', CX [] H s₁ (fun _ _ _ => False) e s' → False) :
    codeAny (model P w) callerA (.call (.ref fa) ⟨[.ref a], []⟩) (fun r s' => r = .ok (.ret (.bool true)) ∧ OldK s₁.heap s'.heap ∧ s'.os = s₁.os ∧ AllBare s'.gens) s₁ := by
  have rv := vals_ints hi
  have lenV := hi.length
  have core : ∀ H : Hp, Only H → SqL K H a (ns.map V.int) → HOk P w H s₁.heap → (∀ b, H b ≠ none → b = a) → (H a ≠ none → K.lookup a = none) →
      codeAny (model P w) callerA (.call (.ref fa) ⟨[.ref a], []⟩) (fun r s' => r = .ok (.ret (.bool true)) ∧ OldK s₁.heap s'.heap ∧ s'.os = s₁.os ∧ AllBare s'.gens) s₁ := by
    intro H hO hS hok hA hK
    have base_of : ∀ {b : Addr} {o : Obj}, s₁.heap.get? b = some o → H b = none → (hidT s₁.heap H).get? b = some o := fun e n => hidT_get e n
    have noA : ∀ {b : Addr} {o : Obj} {es : Array DictEntry} {ep : Nat}, s₁.heap.get? b = some o → o.data = .dict es ep → H b = none := fun {b o es ep} e d => by
      cases q : H b with
      | none => rfl
      | some u =>
        have e' : b = a := hA b (by rw [q]; simp)
        subst e'
        rw [ha] at e; cases e
        have d' : Data.seq vs.toArray _ = Data.dict es ep := d
        cases d'
    have nsK : ∀ {b : Addr} {m : Str → Option Value}, s₁.heap.Ns b m → (hidT s₁.heap H).Ns b m := fun {b m} ⟨o, es, ep, e, d, r⟩ => ⟨o, es, ep, base_of e (noA e d), d, r⟩
    have hKb : K.In (hidT s₁.heap H) := fun b o e => base_of (KX b o e) (by
      cases q : H b with
      | none => rfl
      | some u =>
        have e' : b = a := hA b (by rw [q]; simp)
        subst e'
        rw [hK (by rw [q]; simp)] at e; cases e)
    have hM : Mod K mg (hidT s₁.heap H) := ⟨hKb, nsK hns, ⟨mb, nsK hb, hbb⟩, let ⟨mc, h1, h2⟩ := hlim; ⟨mc, nsK h1, h2⟩⟩
    have e0 : Env0 P w K mg (hidT s₁.heap H) callerA [] s₁ H := ⟨rfl, hM, fun b o e => of_hidT e, Nat.le_of_eq (hidT_size _ _), trivial, fun b hb => absurd (show b ∈ ([] : List Addr) from hb) (by simp), hok, .of_eq hg⟩
    refine codeAny_mono ((F _ hKb (nsK hns)).run callerA [] s₁ H ⟨[.ref a], []⟩ [.ref a] [.ref a] _ _ hr e0 (hbind s₁ (.ref a)) (.cons rfl .nil) (hsp H hO hS)) fun r s' h => ?_
    cases r with
    | error e => exact (hCX H e s' h).elim
    | ok fl =>
      cases fl with
      | next => exact False.elim h
      | brk => exact False.elim h
      | cont => exact False.elim h
      | ret u =>
        obtain ⟨v, H', os, bare, un, hok', r', q⟩ := h
        have q' : v = .bl true := q
        subst q'
        obtain rfl : u = Value.bool true := r'
        refine ⟨rfl, OldK.of_keep fun b o e => ?_, os, bare⟩
        cases q : H b with
        | none => exact un.keep b o e q (by intro z; exact absurd (show b ∈ ([] : List Addr) from z) (by simp)) (by simp)
        | some u =>
          rcases hO b with z | ⟨ob, xs, z⟩
          · rw [q] at z; cases z
          · have z2 := un.frzs b ob _ z
            obtain ⟨e1, _⟩ := hok b _ z
            obtain ⟨e2, _⟩ := hok' b _ z2
            rw [e] at e1; cases e1
            exact e2
  cases hk : K.lookup a with
  | some o =>
    have e := KX a o hk
    rw [ha] at e
    cases e
    refine core (fun _ => none) (fun _ => .inl rfl) (.inr ⟨_, vs.toArray, _, hk, rfl, rfl, rfl, by rw [List.size_toArray, lenV]; exact hl, by simpa using rv⟩) (fun b u z => by have z' : (none : Option HO) = some u := z; cases z') (fun b z => absurd rfl z) fun z => absurd rfl z
  | none =>
    refine core (fun b => if b = a then some (.frz { cls := .type "list", data := .seq vs.toArray } (.lst (ns.map V.int))) else none) (fun b => ?_) (.inl (.inr ⟨{ cls := .type "list", data := .seq vs.toArray }, if_pos rfl⟩)) (fun b u z => ?_) (fun b z => ?_) fun _ => hk
    · by_cases hb : b = a
      · exact .inr ⟨_, _, if_pos hb⟩
      · exact .inl (if_neg hb)
    · by_cases hb : b = a
      · have z' := (if_pos hb).symm.trans z
        cases z'
        subst hb
        exact ⟨ha, by rw [List.length_map]; exact hl, vs, _, rv, ha⟩
      · have z' := (if_neg hb).symm.trans z
        cases z'
    · by_cases hb : b = a
      · exact hb
      · exact absurd (if_neg hb) z
end L2
namespace L2
open PySem PySem.Spec PyProof.Rows
theorem walk_of {l : PySem.W.OpenLaw} {n k : Nat} {q : Program} {loose : List Str} {XP : (Str → Option Value) → Heap → Prop} {YP : World → Heap → Prop} {d : DefRec} {K : Params → PySem.W.Frag} {CX : World → CXT} {sp : World → Sp} {x : Str}
    (hn : l.most = some n) (hn2 : n ≤ sizeLine) (hdf : d.params.defaults = []) (hr : Room k callerA)
    (hY : ∀ (w : World) (h : Heap), YP w h → (K w.params).In h)
    (F : ∀ (w : World) (mg : Str → Option Value) (fa : Addr) (h : Heap), (K w.params).In h → h.Ns mainGlobals mg → mg d.name = some (.ref fa) →
      ∃ fd : FuncData, (∀ (s : Shared) (u : Value), BindsTo s fd ⟨[u], []⟩ [(x, u)]) ∧
        ∀ base : Heap, (K w.params).In base → base.Ns mainGlobals mg → FnOk l.prog w (K w.params) mg base (CX w) k fa fd [x] (sp w))
    (hsp : ∀ (w : World) (H : Hp) (a : Addr) (ns : List Int), ns.length ≤ n → Only H → SqL (K w.params) H a (ns.map V.int) → sp w [.ref a] H (fun v _ => v = .bl true) fun _ _ _ => False)
    (hCX : ∀ (w : World) (H : Hp) (s : Shared) (e : Value) (s' : Shared), CX w [] H s (fun _ _ _ => False) e s' → False) :
    PySem.W.WalkO q loose XP YP l.row.toRowW d [] (fun f vs => PySem.call f vs) := by
  refine Att.attach_call hn hdf fun w s₀ s₁ mg mb fa o pm cd doc a vs ns G Y ho hd hcd hmg hobj hints hlen hg => ?_
  have KX := hY w _ Y
  obtain ⟨fd, hb, hF⟩ := F w mg fa _ KX G.T.g hmg
  exact law_call KX G.T.g G.T.b G.T.builtins G.T.nolimit hg hobj hints (Nat.le_trans hlen hn2) hr hF hb (fun H hO hS => hsp w H a ns hlen hO hS) fun H e s' => hCX w H s₁ e s'
end L2
namespace L2
open PySem PySem.Spec PyProof.Rows
def defArgs (s : Stmt) : Arguments := match s with
  | .FunctionDef _ a _ _ _ _ _ _ _ _ => a
  | _ => { posonlyargs := [], args := [], vararg := none, kwonlyargs := [], kw_defaults := [], kwarg := none, defaults := [] }
def defBody (s : Stmt) : List Stmt := match s with
  | .FunctionDef _ _ b _ _ _ _ _ _ _ => b
  | _ => []
def defScope (s : Stmt) : Scope := match s with
  | .FunctionDef _ _ _ _ _ _ sc _ _ _ => sc
  | _ => { kind := .function, names := [], isGenerator := false, isCoroutine := false }
abbrev CX0 : CXT := fun _ _ _ _ _ _ => False
abbrev E0 : XK := fun _ _ _ => False
theorem pass0 {X : Cx} : Passes CX0 X E0 := fun _ _ _ _ _ _ _ h => h.elim
structure Fun (K : PySem.W.Frag) (x qual : Str) (st : Stmt) (f : Addr) (fd : FuncData) : Prop where
  ex : ∃ (oc : Value) (od : Option Addr) (kV doc pm : Value) (an : Option Addr) (cdv ct : Value) (osl : Array (Option Value)),
    fd = PySem.W.fnOf x qual (defArgs st) (defBody st) (defScope st) .none kV doc pm an cdv ct ∧ K.lookup f = some ⟨oc, od, .func fd, osl⟩ ∧ PySem.W.codeIn K cdv qual = true
  kp : PySem.W.keepIn K (.ref f) = true
section
variable {P : Program} {w : World} {K : PySem.W.Frag} {mg : Str → Option Value} {base : Heap}
theorem Fun.ok {x qual : Str} {st : Stmt} {f : Addr} {fd : FuncData} {N ps : List Str} {k : Nat} {sp : Sp} (F : Fun K x qual st f fd) (S : FnScope N ps (defScope st)) (len : ∀ vs H Q E, sp vs H Q E → vs.length = ps.length)
    (hbody : ∀ (cdv : Value) (A : Around) (outer : List Env) (s : Shared) (H : Hp) (vs : List V) (Q : VK) (E : XK), Room k (A.deeper (envOfC qual (defScope st) s.heap.objs.size f cdv)) → sp vs H Q E →
      ∃ t, PSs (cxOf CX0 P w K mg base N qual (defScope st) f cdv A outer s H E).nox (defBody st) t ∧ t { nx := fun _ H' => Q .non H', rt := Q } (start N vs) H) : FnOk P w K mg base CX0 (k + 1) f fd ps sp := by
  obtain ⟨oc, od, kV, doc, pm, an, cdv, ct, osl, rfl, lk, hcd⟩ := F.ex
  refine fn_of lk hcd S len fun A outer s H vs Q E hr hsp => ?_
  obtain ⟨t, h, q⟩ := hbody cdv A outer s H vs Q E hr hsp
  exact ⟨t, h.nox, q⟩
theorem Fun.binds {x qual : Str} {st : Stmt} {f : Addr} {fd : FuncData} {ps : List Str} (F : Fun K x qual st f fd)
    (h : ∀ (kV doc pm : Value) (an : Option Addr) (cdv ct : Value) (us : List Value), us.length = ps.length → bindArgs (PySem.W.fnOf x qual (defArgs st) (defBody st) (defScope st) .none kV doc pm an cdv ct) ⟨us, []⟩ = pure (ps.zip us)) : Binds K fd ps [] := by
  obtain ⟨oc, od, kV, doc, pm, an, cdv, ct, osl, rfl, lk, hcd⟩ := F.ex
  exact .all (h kV doc pm an cdv ct)
theorem fun_mk {x qual : Str} {st : Stmt} {f : Addr} {oc : Value} {od an : Option Addr} {osl : Array (Option Value)} {kV doc pm cdv ct : Value} (l : K.lookup f = some ⟨oc, od, .func (PySem.W.fnOf x qual (defArgs st) (defBody st) (defScope st) .none kV doc pm an cdv ct), osl⟩)
    (c : PySem.W.codeIn K cdv qual = true) (k : PySem.W.keepIn K (.ref f) = true) : Fun K x qual st f (PySem.W.fnOf x qual (defArgs st) (defBody st) (defScope st) .none kV doc pm an cdv ct) := ⟨⟨oc, od, kV, doc, pm, an, cdv, ct, osl, rfl, l, c⟩, k⟩
end
theorem hu_of {A : Around} {k : Nat} (hr : Room k A) : A.units + 1 < cLine := Nat.lt_of_le_of_lt (Nat.add_le_add_left (by decide : 1 ≤ 64) _) hr.units
section
variable {X : Cx}
theorem pv (i : Nat) {x : Str} {pos : Pos} (hN : X.N[i]? = some x := by rfl) (hv : Vis X.env.scope x := by first | exact Or.inl rfl | exact Or.inr (Or.inl rfl) | exact Or.inr (Or.inr rfl)) (hd : (x == ("__debug__" : Str)) = false := by decide)
    (hcd : (x == ("__classdict__" : Str)) = false := by decide) : PE X (.Name x pos) (tVar i) := pe_var hN hv hd hcd
end
theorem iteF {A B : Prop} (h : B) : if false = true then A else B := by
  rw [if_neg Bool.false_ne_true]
  exact h
theorem iteT {A B : Prop} (h : A) : if true = true then A else B := by
  rw [if_pos rfl]
  exact h
theorem ite2 {c A B : Prop} [Decidable c] (h1 : c → A) (h2 : ¬ c → B) : if c then A else B := by
  by_cases h : c
  · rw [if_pos h]
    exact h1 h
  · rw [if_neg h]
    exact h2 h
theorem iteNS {c A B : Prop} [Decidable c] (hc : c) (h : B) : if (!decide c) = true then A else B := by
  rw [decide_eq_true hc]
  exact iteF h
def Same (H H' : Hp) : Prop := ∀ b o, H b = some o → H' b = some o
theorem Same.refl (H : Hp) : Same H H := fun _ _ h => h
theorem Same.trans {H H1 H2 : Hp} (a : Same H H1) (b : Same H1 H2) : Same H H2 := fun c o h => b c o (a c o h)
theorem Same.free {H H' : Hp} (e : Same H H') {l : Addr} (h : H' l = Option.none) : H l = Option.none := by
  cases q : H l with
  | none => rfl
  | some o =>
    rw [e l o q] at h
    cases h
theorem Same.seq {K : PySem.W.Frag} {H H' : Hp} {a : Addr} {xs : List V} (e : Same H H') (h : SqL K H a xs) : SqL K H' a xs := by
  rcases h with (h | ⟨o, h⟩) | h
  · exact .inl (.inl (e _ _ h))
  · exact .inl (.inr ⟨o, e _ _ h⟩)
  · exact .inr h
end L2
namespace L2
open PySem PySem.Spec PyProof.Rows
section
variable {X : Cx}
end
end L2
namespace L2
open PySem PySem.Spec PyProof.Rows
section
variable {κ : Type} [DecidableEq κ]
theorem valV_not {kvs : List (κ × V)} {k : κ} (h : valV kvs k = none) : ¬ k ∈ kvs.map (·.1) := by
  intro m
  obtain ⟨p, hp, e⟩ := List.mem_map.mp m
  have q : (kvs.any fun kv => decide (kv.1 = k)) = true := List.any_eq_true.mpr ⟨p, hp, decide_eq_true e⟩
  rw [valV_any, h] at q
  exact absurd q (by simp)
theorem valV_in {kvs : List (κ × V)} {k : κ} {v : V} (h : valV kvs k = some v) : k ∈ kvs.map (·.1) := by
  have q : (kvs.any fun kv => decide (kv.1 = k)) = true := by
    rw [valV_any, h]
    all_goals rfl
  obtain ⟨p, hp, e⟩ := List.any_eq_true.mp q
  exact List.mem_map.mpr ⟨p, hp, of_decide_eq_true e⟩
theorem nd_snoc : ∀ {l : List κ} {k : κ}, l.Nodup → ¬ k ∈ l → (l ++ [k]).Nodup
  | [], k, _, _ => by simp
  | a :: r, k, h, hk => by
    obtain ⟨h1, h2⟩ := List.nodup_cons.mp h
    show (a :: (r ++ [k])).Nodup
    refine List.nodup_cons.mpr ⟨fun m => ?_, nd_snoc h2 fun m => hk (List.mem_cons.mpr (Or.inr m))⟩
    rcases List.mem_append.mp m with q | q
    · exact h1 q
    · exact hk (List.mem_cons.mpr (Or.inl (List.mem_singleton.mp q).symm))
end
end L2
section
namespace L2
open PySem PySem.Spec PyProof.Rows
def closed (env : Env) : List (Str × NameKind) → List (Str × Addr) → List (Str × Addr)
  | [], cs => cs
  | (n, k) :: r, cs => if k = NameKind.free then (match env.cells.lookup n with | some c => closed env r ((n, c) :: cs) | none => closed env r cs) else closed env r cs
theorem closed_from {env : Env} : ∀ (l : List (Str × NameKind)) (cs : List (Str × Addr)), (∀ p ∈ cs, env.cells.lookup p.1 = some p.2) → ∀ p ∈ closed env l cs, env.cells.lookup p.1 = some p.2
  | [], cs, h => h
  | (n, k) :: r, cs, h => by
    unfold closed
    by_cases hk : k = NameKind.free
    · rw [if_pos hk]
      cases e : env.cells.lookup n with
      | none => exact closed_from r cs h
      | some c =>
        refine closed_from r ((n, c) :: cs) fun p hp => ?_
        rcases List.mem_cons.mp hp with rfl | hp
        · exact e
        · exact h p hp
    · rw [if_neg hk]
      exact closed_from r cs h
theorem closed_is {env : Env} {l : List (Str × NameKind)} {p : Str × Addr} (h : p ∈ closed env l []) : env.cells.lookup p.1 = some p.2 :=
  closed_from l [] (fun q hq => absurd hq (by simp)) p h
theorem closed_old {env : Env} : ∀ (l : List (Str × NameKind)) (cs : List (Str × Addr)) (p : Str × Addr), p ∈ cs → p ∈ closed env l cs
  | [], _, _, h => h
  | (n, k) :: r, cs, p, h => by
    unfold closed
    by_cases hk : k = NameKind.free
    · rw [if_pos hk]
      cases e : env.cells.lookup n with
      | none => exact closed_old r cs p h
      | some c => exact closed_old r _ p (List.mem_cons_of_mem _ h)
    · rw [if_neg hk]
      exact closed_old r cs p h
theorem closed_has {env : Env} : ∀ (l : List (Str × NameKind)) (cs : List (Str × Addr)) (x : Str) (c : Addr), (x, NameKind.free) ∈ l → env.cells.lookup x = some c → (x, c) ∈ closed env l cs
  | [], _, _, _, h, _ => by cases h
  | (n, k) :: r, cs, x, c, h, e => by
    unfold closed
    rcases List.mem_cons.mp h with q | q
    · cases q
      rw [if_pos rfl, e]
      exact closed_old r _ _ List.mem_cons_self
    · by_cases hk : k = NameKind.free
      · rw [if_pos hk]
        cases e2 : env.cells.lookup n with
        | none => exact closed_has r cs x c q e
        | some d => exact closed_has r _ x c q e
      · rw [if_neg hk]
        exact closed_has r cs x c q e
theorem closure_runs {env : Env} : ∀ (l : List (Str × NameKind)) (cs : List (Str × Addr)), (∀ x, (x, NameKind.free) ∈ l → ∃ c, env.cells.lookup x = some c) →
    (forIn l cs (fun (p : Str × NameKind) (r : List (Str × Addr)) => if (p.2 == NameKind.free) = true then (do let a ← cellOf env p.1; pure (ForInStep.yield ((p.1, a) :: r))) else pure (ForInStep.yield r)) : Sem (List (Str × Addr))) = pure (closed env l cs)
  | [], cs, _ => rfl
  | (n, k) :: r, cs, h => by
    rw [List.forIn_cons]
    unfold closed
    by_cases hk : k = NameKind.free
    · subst hk
      obtain ⟨c, e⟩ := h n List.mem_cons_self
      have e2 : cellOf env n = pure c := by unfold cellOf; rw [e]
      simp only [beq_self_eq_true, if_true, e, e2]
      exact closure_runs r ((n, c) :: cs) fun x hx => h x (List.mem_cons_of_mem _ hx)
    · have hb : (k == NameKind.free) = false := by simpa using hk
      simp only [hb, Bool.false_eq_true, if_false, hk]
      exact closure_runs r cs fun x hx => h x (List.mem_cons_of_mem _ hx)
theorem closure_is {scope : Scope} {env : Env} (h : ∀ x, (x, NameKind.free) ∈ scope.names → ∃ c, env.cells.lookup x = some c) : closureFor scope env = pure (closed env scope.names []) := by
  have q := closure_runs (env := env) scope.names [] h
  unfold closureFor
  have e : ∀ (p : Str × NameKind) (r : List (Str × Addr)), (match p with
      | (name, kind) => if (kind == NameKind.free) = true then (do let a ← cellOf env name; pure (ForInStep.yield ((name, a) :: r))) else pure (ForInStep.yield r) : Sem (ForInStep (List (Str × Addr)))) =
      if (p.2 == NameKind.free) = true then (do let a ← cellOf env p.1; pure (ForInStep.yield ((p.1, a) :: r))) else pure (ForInStep.yield r) := fun p r => rfl
  first
    | exact q
    | (simp only [] at q ⊢; exact q)
    | (show (forIn scope.names [] _ >>= fun r => pure r) = _; rw [bind_pure]; exact q)
theorem mem_lookup_of {α : Type} : ∀ {l : List (Str × α)} {x : Str} {a : α}, (x, a) ∈ l → ∃ b, l.lookup x = some b
  | [], _, _, h => by cases h
  | (n, c) :: r, x, a, h => by
    rw [List.lookup_cons]
    cases e : x == n with
    | true => exact ⟨c, rfl⟩
    | false =>
      rcases List.mem_cons.mp h with q | q
      · cases q
        simp at e
      · exact mem_lookup_of q
theorem relabel_free {scope : Scope} {env : Env} (hcell : ∀ z ∈ scope.names, z.2 ≠ NameKind.cell) {x : Str} (h : (relabel scope env).names.lookup x = some .cell ∨ (relabel scope env).names.lookup x = some .free) : (x, NameKind.free) ∈ scope.names := by
  have hm : ∃ k, (x, k) ∈ (relabel scope env).names ∧ (k = .cell ∨ k = .free) := by
    rcases h with h | h
    · exact ⟨_, PySem.mem_of_lookup h, .inl rfl⟩
    · exact ⟨_, PySem.mem_of_lookup h, .inr rfl⟩
  obtain ⟨k, hm, hk⟩ := hm
  unfold relabel at hm
  obtain ⟨⟨n, k'⟩, hp, e⟩ := List.mem_map.mp hm
  dsimp only at e
  by_cases hc : (k' == NameKind.free && env.scope.kind == .function && env.kindOf n == some .cell) = true
  · rw [if_pos hc] at e
    cases e
    have hf : k' = NameKind.free := by
      simp only [Bool.and_eq_true, beq_iff_eq] at hc
      exact hc.1.1
    rw [← hf]
    exact hp
  · rw [if_neg hc] at e
    cases e
    rcases hk with hk | hk
    · exact absurd hk (hcell _ hp)
    · rw [← hk]
      exact hp
def cxC (X : Cx) (N' : List Str) (scope : Scope) (C : Addr) (s2 : Shared) (H2 : Hp) (fp : List Addr) : Cx :=
  { X with
    N := N'
    s₀ := s2
    H₀ := H2
    env := compEnvC scope (closed X.env scope.names []) C X.env
    outer := X.stack
    ex := fp
    fn := fun _ => false
    pn := []
    xe := fun _ _ => False }
def Emb (X : Cx) (scope : Scope) : List Str → List (Option Nat) → Prop
  | [], [] => True
  | n :: ns, some i :: es => X.N[i]? = some n ∧ (X.env.kindOf n = some .cell ∨ X.env.kindOf n = some .free) ∧ ((relabel scope X.env).names.lookup n = some .cell ∨ (relabel scope X.env).names.lookup n = some .free) ∧ Emb X scope ns es
  | _ :: ns, none :: es => Emb X scope ns es
  | _, _ => False
def embσ (emb : List (Option Nat)) (σ : St) : St := emb.map fun o => match o with | some i => (σ[i]?).join | none => none
theorem Emb.len {X : Cx} {scope : Scope} : ∀ {ns : List Str} {es : List (Option Nat)}, Emb X scope ns es → es.length = ns.length
  | [], [], _ => rfl
  | n :: ns, some i :: es, h => by
    obtain ⟨_, _, _, h⟩ := h
    rw [List.length_cons, List.length_cons, Emb.len h]
  | n :: ns, none :: es, h => by
    have h' : Emb X scope ns es := h
    rw [List.length_cons, List.length_cons, Emb.len h']
  | [], _ :: _, h => False.elim h
  | _ :: _, [], h => False.elim h
theorem Emb.at {X : Cx} {scope : Scope} {σ : St} : ∀ {ns : List Str} {es : List (Option Nat)} {j : Nat} {n : Str} {v : V}, Emb X scope ns es → ns[j]? = some n → (embσ es σ)[j]? = some (some v) →
    ∃ i : Nat, X.N[i]? = some n ∧ (X.env.kindOf n = some .cell ∨ X.env.kindOf n = some .free) ∧ ((relabel scope X.env).names.lookup n = some .cell ∨ (relabel scope X.env).names.lookup n = some .free) ∧ σ[i]? = some (some v)
  | [], [], j, n, v, _, h, _ => by simp at h
  | m :: ns, some i :: es, 0, n, v, h, h1, h2 => by
    obtain ⟨a, b, c, _⟩ := h
    simp at h1
    subst h1
    refine ⟨i, a, b, c, ?_⟩
    have h2' : (σ[i]?).join = some v := by simpa [embσ] using h2
    cases e : σ[i]? with
    | none => rw [e] at h2'; simp at h2'
    | some o =>
      rw [e] at h2'
      simp at h2'
      rw [h2']
  | m :: ns, some i :: es, j + 1, n, v, h, h1, h2 => by
    obtain ⟨_, _, _, h⟩ := h
    exact Emb.at (j := j) h (by simpa using h1) (by simpa [embσ] using h2)
  | m :: ns, none :: es, 0, n, v, h, h1, h2 => by simp [embσ] at h2
  | m :: ns, none :: es, j + 1, n, v, h, h1, h2 => by
    have h' : Emb X scope ns es := h
    exact Emb.at (j := j) h' (by simpa using h1) (by simpa [embσ] using h2)
  | [], _ :: _, _, _, _, h, _, _ => False.elim h
  | _ :: _, [], _, _, _, h, _, _ => False.elim h
section
variable {X : Cx} {pins : List (Addr × Obj)} {σ : St} {H2 : Hp} {s2 : Shared} {fp : List Addr} {N' : List Str} {emb : List (Option Nat)} {scope : Scope}
theorem cxC_ok {C : Addr} (I : Inv X pins σ H2 s2) (hfp : ∀ b ∈ fp, FpOk X pins H2 b) (hC : s2.heap.objs.size ≤ C) (hfpl : ∀ b ∈ fp, b < s2.heap.objs.size) (hk : scope.kind = .function) (hcell : ∀ z ∈ scope.names, z.2 ≠ NameKind.cell)
    (hfree : ∀ x, (x, NameKind.free) ∈ scope.names → ∃ c, X.env.cells.lookup x = some c) : (cxC X N' scope C s2 H2 fp).Ok where
  mod := I.ok.mod
  kind := hk
  glob := I.ok.glob
  blt := I.ok.blt
  above := hC
  inj := fun x y c h1 h2 => I.ok.inj x y c (closed_is (PySem.mem_of_lookup h1)) (closed_is (PySem.mem_of_lookup h2))
  has := fun x hx => by
    have hm := relabel_free (env := X.env) hcell hx
    obtain ⟨c, e⟩ := hfree x hm
    exact mem_lookup_of (closed_has scope.names [] x c hm e)
  cab := fun x c h _ => by cases (show false = true from h)
  hd := I.ok.hd
  frames := I.ok.frames
  stk := .inl rfl
  exf := fun b hb => ⟨Nat.ne_of_lt (Nat.lt_of_lt_of_le (hfpl b hb) hC), fun x c e => (hfp b hb).2.2.2.2.1 x c (closed_is (PySem.mem_of_lookup e))⟩
  bs := I.bs
  bsz := Nat.le_trans I.ok.bsz I.sz
  noex := fun b o e hb => by
    rcases (hfp b hb).2.2.2.1 with z | z
    · exact I.ok.noex b o e z
    · exact absurd (Nat.lt_of_lt_of_le (Heap.lt_size e) (Nat.le_trans I.ok.bsz z)) (Nat.lt_irrefl _)
  exfs := fun b hb hf => by
    rcases List.mem_cons.mp (I.stkSub b hf) with z | z
    · exact (hfp b hb).2.1 z
    · exact (hfp b hb).2.2.1 z
  funs := I.stack
  frf := I.stkFree
theorem cxC_start {h1 : Heap} (I : Inv X pins σ H2 s2) (hfp : ∀ b ∈ fp, FpOk X pins H2 b) (hfpl : ∀ b ∈ fp, b < s2.heap.objs.size) (hk : scope.kind = .function) (hcell : ∀ z ∈ scope.names, z.2 ≠ NameKind.cell)
    (hfree : ∀ x, (x, NameKind.free) ∈ scope.names → ∃ c, X.env.cells.lookup x = some c) (he : Emb X scope N' emb) {m : Str → Option Value} (hns : h1.Ns (s2.heap.objs.size + 1) m)
    (keep : ∀ b o, s2.heap.get? b = some o → h1.get? b = some o) (hD : h1.get? s2.heap.objs.size = some { cls := .type "list", data := .seq ([] : List Value).toArray 0 }) (tk : Nat) :
    Inv (cxC X N' scope (s2.heap.objs.size + 1) s2 H2 fp) [] (embσ emb σ) (upd H2 s2.heap.objs.size (.lst [])) { s2 with heap := h1, toks := tk } := by
  have fD : H2 s2.heap.objs.size = none := I.hok.fresh (Nat.le_refl _)
  have fC : H2 (s2.heap.objs.size + 1) = none := I.hok.fresh (Nat.le_succ _)
  have cells : ∀ x c, (closed X.env scope.names []).lookup x = some c → X.env.cells.lookup x = some c := fun x c e => closed_is (PySem.mem_of_lookup e)
  refine ⟨cxC_ok I hfp (Nat.le_succ _) hfpl hk hcell hfree, rfl, I.bare, Un.laid keep (Nat.le_refl _) fD, ⟨m, hns, fun i y v e1 e2 e3 => ?_⟩, fun x c e => ?_, ?_, fun x c e => ?_, fun p hp => absurd (show p ∈ ([] : List (Addr × Obj)) from hp) (by simp),
    I.hok.laid keep (Nat.le_refl _) ⟨Nat.zero_le _, [], 0, .nil, hD⟩, ?_⟩
  · obtain ⟨i', a1, a2, a3, a4⟩ := Emb.at he e1 e2
    obtain ⟨m0, _, hl⟩ := I.loc
    have vis : Vis X.env.scope y := by
      rcases a2 with z | z
      · exact .inr (.inl z)
      · exact .inr (.inr z)
    obtain ⟨u, r, l⟩ := hl i' y v a1 a4 vis
    refine ⟨u, r, .inr ⟨a3, ?_⟩⟩
    rcases l with ⟨k, _⟩ | ⟨_, c, e, o, ho, hd⟩
    · rcases a2 with z | z
      · rw [k] at z; cases z
      · rw [k] at z; cases z
    · have hm := relabel_free (env := X.env) hcell a3
      obtain ⟨b, eb⟩ := mem_lookup_of (closed_has scope.names [] y c hm e)
      have := cells y b eb
      rw [e] at this
      cases this
      exact ⟨c, eb, o, keep c o ho, hd⟩
  · obtain ⟨v, o, ho, hd⟩ := I.cell x c (cells x c e)
    exact ⟨v, o, keep c o ho, hd⟩
  · show upd H2 s2.heap.objs.size (.lst []) (s2.heap.objs.size + 1) = none
    rw [upd_ne (Nat.succ_ne_self _)]
    exact fC
  · show upd H2 s2.heap.objs.size (.lst []) c = none
    obtain ⟨v, o, ho, hd⟩ := I.cell x c (cells x c e)
    rw [upd_ne (Nat.ne_of_lt (Heap.lt_size ho))]
    exact I.freeC x c (cells x c e)
  · show (embσ emb σ).length = N'.length
    unfold embσ
    rw [List.length_map, he.len]
end
def PTs (X : Cx) (ifs : List Expr) (t : TT) : Prop :=
  ∀ (pins : List (Addr × Obj)) (s : Shared) (σ : St) (H : Hp) (Q : Bool → Hp → Prop) (E : Value → Shared → Prop), X.xe = (fun _ _ => False) → Inv X pins σ H s → t σ H Q →
    wpAny (model X.prog X.w) X.A (forIn ifs true fun c r => if r = true then do let ok ← isTrue c X.env (eval c X.env); pure (ForInStep.yield ok) else pure (ForInStep.yield r)) (TP X pins σ Q) E s
def tAlways : TT := fun _ H Q => Q true H
theorem always {σ : St} {H : Hp} {A B : Hp → Prop} (h : A H) : tAlways σ H (fun b H3 => if b = true then A H3 else B H3) := by
  show if true = true then A H else B H
  rw [if_pos rfl]
  exact h
theorem pts_nil {X : Cx} : PTs X [] tAlways := fun _ _ _ H _ _ _ I h => wpAny_tests_nil ⟨H, I, h⟩
theorem pts_one {X : Cx} {c : Expr} {t : TT} (h : PT X c t) : PTs X [c] t := fun pins s σ H Q E hx I q =>
  wpAny_tests_one (wpAny_mono (h pins s σ H Q I q) (fun _ _ z => z) fun e s' z => by rw [hx] at z; exact z.elim)
def tComp (wi : TI) (j : Nat) (emb : List (Option Nat)) (tt : TT) (te : TE) : TE := fun σ H Q => wi σ H fun J H1 => ∀ D, H1 D = none → ∃ W : Nat → Nat → List V → Hp → Prop, (∃ m, W 0 m [] (upd H1 D (.lst []))) ∧
  ∀ i m ys H', W i m ys H' → (J.stop i H' ∧ Q (.ref D) H') ∨ (J.go i H' ∧ ∃ N : List V → Hp → Prop, (∀ ys' H'', N ys' H'' → ∃ m', m' < m ∧ W (i + 1) m' ys' H'') ∧ ∀ x H2, J.yld i H' x H2 → tt ((embσ emb σ).set j (some x)) H2 fun b H3 =>
    if b = true then te ((embσ emb σ).set j (some x)) H3 fun y H4 => H4 D = some (.lst ys) ∧ ys.length < sizeLine ∧ N (ys ++ [y]) (upd H4 D (.lst (ys ++ [y])))
    else N ys H3)
section
variable {X : Cx} {pins : List (Addr × Obj)} {σ : St} {H2 : Hp} {s2 : Shared} {fp : List Addr} {N' : List Str} {emb : List (Option Nat)} {scope : Scope} {x : Str} {px : Pos} {iter elt : Expr} {ifs : List Expr} {pos : Pos} {E : Value → Shared → Prop}
theorem comp_block {it : Addr} {tn : Nat → Heap → Prop} {J : It} {j : Nat} {tt : TT} {te : TE} {Qv : VK} {RR : Value → Addr → Result → Shared → Prop}
    (I : Inv X pins σ H2 s2) (hc : X.calm = true) (T : Turn X.prog X.w X.K (.Name x px) J fp it tn) (st : tn 0 s2.heap) (hfp : ∀ b ∈ fp, FpOk X pins H2 b)
    (hk : scope.kind = .function) (hcell : ∀ z ∈ scope.names, z.2 ≠ NameKind.cell) (hfree : ∀ y, (y, NameKind.free) ∈ scope.names → ∃ c, X.env.cells.lookup y = some c) (he : Emb X scope N' emb)
    (hx : scope.names.lookup x = some .local) (hN : N'.Nodup) (hj : N'[j]? = some x) (hje : emb[j]? = some none)
    (htt : ∀ C s2 H2 fp, PTs (cxC X N' scope C s2 H2 fp) ifs tt) (hte : ∀ C s2 H2 fp, PE (cxC X N' scope C s2 H2 fp) elt te)
    (hw : ∀ D, H2 D = none → ∃ W : Nat → Nat → List V → Hp → Prop, (∃ m, W 0 m [] (upd H2 D (.lst []))) ∧
      ∀ i m ys H', W i m ys H' → (J.stop i H' ∧ Qv (.ref D) H') ∨ (J.go i H' ∧ ∃ N : List V → Hp → Prop, (∀ ys' H'', N ys' H'' → ∃ m', m' < m ∧ W (i + 1) m' ys' H'') ∧ ∀ x H2, J.yld i H' x H2 → tt ((embσ emb σ).set j (some x)) H2 fun b H3 =>
        if b = true then te ((embσ emb σ).set j (some x)) H3 fun y H4 => H4 D = some (.lst ys) ∧ ys.length < sizeLine ∧ N (ys ++ [y]) (upd H4 D (.lst (ys ++ [y])))
        else N ys H3))
    (hRR : ∀ (D C : Addr) (H' : Hp) (s' : Shared) (m : Str → Option Value), Inv X pins σ H' s' → Qv (.ref D) H' → s'.heap.Ns C m → H' C = none → s2.heap.objs.size ≤ C → RR (.ref D) C (.ok .next) s') :
    wpAny (model X.prog X.w) X.A (newList []) (fun acc s₃ => wpAny (model X.prog X.w) X.A (newFunctionEnv scope X.env.globals (closed X.env scope.names []) [] X.env.qual none .none (some X.env)) (fun cenv s₄ =>
      codeAny (model X.prog X.w) X.A (.compStart (.ListComp elt [⟨.Name x px, iter, ifs, 0⟩] scope pos) 0 (.ref it) acc { cenv with scope := relabel scope X.env }) (RR acc cenv.locals) s₄) E s₃) E s2 := by
  have hfpl : ∀ b ∈ fp, b < s2.heap.objs.size := fun b hb => by
    obtain ⟨o, ho, _⟩ := T.obj 0 s2.heap st b hb
    exact Heap.lt_size ho
  refine wpAny_newList ?_
  refine wpAny_newFunctionEnv hcell (fun y hy => absurd hy (by simp)) (fun h1 hns hsb => ?_) hk
  have sz : (s2.heap.push { cls := .type "list", data := .seq ([] : List Value).toArray }).objs.size = s2.heap.objs.size + 1 := Heap.size_push ..
  dsimp only at hns hsb ⊢
  rw [sz] at hns hsb ⊢
  have keep : ∀ b o, s2.heap.get? b = some o → h1.get? b = some o := fun b o e =>
    hsb.extBut b o (Nat.ne_of_lt (Nat.lt_succ_of_lt (Heap.lt_size e))) (Heap.get?_push_of_some _ (Heap.get?_push_of_some _ e))
  have hD : h1.get? s2.heap.objs.size = some { cls := .type "list", data := .seq ([] : List Value).toArray 0 } :=
    hsb.extBut _ _ (Nat.ne_of_lt (Nat.lt_succ_self _)) (Heap.get?_push_of_some _ (Heap.get?_push_size _ rfl))
  obtain ⟨W, ⟨m0, w0⟩, turn⟩ := hw s2.heap.objs.size (I.hok.fresh (Nat.le_refl _))
  have I1 := cxC_start (N' := N') (emb := emb) (scope := scope) I hfp hfpl hk hcell hfree he hns keep hD (s2.toks + ([] : List (Str × Value)).length)
  have st1 : tn 0 h1 := T.keep _ _ _ st fun b hb o e => keep b o e
  have fpD : ∀ b ∈ fp, upd H2 s2.heap.objs.size (.lst []) b = none := fun b hb => by
    rw [upd_ne (Nat.ne_of_lt (hfpl b hb))]
    exact (hfp b hb).1
  have stat : ∀ {pl : List (Addr × Obj)} {H' : Hp}, pl = [] → (∀ b ∈ fp, H' b = none) → ∀ b ∈ fp, FpOk (cxC X N' scope (s2.heap.objs.size + 1) s2 H2 fp) pl H' b := fun {pl H'} hpl hn b hb => by
    refine ⟨hn b hb, Nat.ne_of_lt (Nat.lt_succ_of_lt (hfpl b hb)), fun z => ?_, .inl hb, fun y c e => (hfp b hb).2.2.2.2.1 y c (closed_is (PySem.mem_of_lookup e)), fun p hp => ?_⟩
    · rcases List.mem_cons.mp (I.stkSub b z) with q | q
      · exact (hfp b hb).2.1 q
      · exact (hfp b hb).2.2.1 q
    · subst hpl
      exact absurd (show p ∈ ([] : List (Addr × Obj)) from hp) (by simp)
  have setset : ∀ (o : Option V) (v : V), ((embσ emb σ).set j o).set j (some v) = (embσ emb σ).set j (some v) := fun o v => by rw [List.set_set]
  have jn : (embσ emb σ).set j none = embσ emb σ := by
    refine List.ext_getElem? fun i => ?_
    rw [List.getElem?_set]
    by_cases hi : j = i
    · subst hi
      rw [if_pos rfl]
      have : (embσ emb σ)[j]? = some none := by unfold embσ; rw [List.getElem?_map, hje]; rfl
      rw [this]
      split
      · rfl
      · rename_i hl
        have := (List.getElem?_eq_some_iff.mp this).1
        exact absurd this hl
    · rw [if_neg hi]
  have hloc : (relabel scope X.env).names.lookup x = some .local := lookup_relabel_local hx
  have loop : codeAny (model X.prog X.w) X.A (.compLoop (.ListComp elt [⟨.Name x px, iter, ifs, 0⟩] scope pos) 0 (.ref it) (.ref s2.heap.objs.size) (cxC X N' scope (s2.heap.objs.size + 1) s2 H2 fp).env)
      (RR (.ref s2.heap.objs.size) (s2.heap.objs.size + 1)) { s2 with heap := h1, toks := s2.toks + ([] : List (Str × Value)).length } := by
    refine codeAny_compLoop_tests (fun n s' => ∃ i ys o H', Inv (cxC X N' scope (s2.heap.objs.size + 1) s2 H2 fp) [] ((embσ emb σ).set j o) H' s' ∧ tn i s'.heap ∧ (∀ b ∈ fp, H' b = none) ∧ W i n ys H') ?_ m0
      ⟨0, [], none, _, by rw [jn]; exact I1, st1, fpD, w0⟩
    rintro n s3 ⟨i, ys, o, H3, I3, st3, fr3, w3⟩
    rcases turn i n ys H3 w3 with ⟨stop, qn⟩ | ⟨go, N, hNn, step⟩
    · refine thn (T.done (cxC X N' scope (s2.heap.objs.size + 1) s2 H2 fp) rfl rfl rfl hc i [] s3 _ H3 _ I3 (stat rfl fr3) st3 stop) fun r s4 ⟨hr, I4⟩ => ?_
      subst hr
      obtain ⟨mC, hnC, _⟩ := id I4.loc
      have I5 : Inv X pins σ H3 s4 := I.call' (ch := fp) I4.os I4.base I4.hok I4.bare fun b hb => ⟨(hfp b hb).2.2.2.1, (hfp b hb).2.1, (hfp b hb).2.2.2.2.1, (hfp b hb).2.2.2.2.2⟩
      exact hRR _ _ H3 s4 mC I5 qn hnC I4.free (Nat.le_succ _)
    · refine thn (T.item (cxC X N' scope (s2.heap.objs.size + 1) s2 H2 fp) rfl rfl rfl hc i [] s3 _ H3 _ I3 (stat rfl fr3) st3 go) fun r s4 ⟨u, hr, h4⟩ => ?_
      subst hr
      show wpAny _ _ (letOwnedTupleGo (.Name x px) (.ref it) u >>= fun _ => assign (.Name x px) (cxC X N' scope (s2.heap.objs.size + 1) s2 H2 fp).env u) _ _ s4
      refine wpAny_bind (thn h4 fun _ s5 ⟨xv, H5, I5, r5, y5, st5, fr5⟩ => ?_)
      have I5' := I5.pinned (stat rfl fr5) (T.obj _ _ st5)
      refine wpAny_assign_Name (store_ok (v := xv) I5' hN hj (.inl hloc) r5 (fun s6 I6 => ?_) (.inr hloc))
      rw [setset] at I6
      have again : ∀ {ys' : List V} {H9 : Hp} {s9 : Shared} {m' : Nat}, Inv (cxC X N' scope (s2.heap.objs.size + 1) s2 H2 fp) ([] ++ pinsAt fp s5.heap) ((embσ emb σ).set j (some xv)) H9 s9 → m' < n → W (i + 1) m' ys' H9 →
          ∃ m, m < n ∧ ∃ i ys o H', Inv (cxC X N' scope (s2.heap.objs.size + 1) s2 H2 fp) [] ((embσ emb σ).set j o) H' s9 ∧ tn i s9.heap ∧ (∀ b ∈ fp, H' b = none) ∧ W i m ys H' := fun {ys' H9 s9 m'} I9 hm w9 => by
        refine ⟨m', hm, i + 1, ys', some xv, H9, I9.unpinned, T.keep _ _ _ st5 fun b hb o e => (I9.pin (b, o) (List.mem_append_right _ (List.mem_append_right _ (mem_pinsAt hb e)))).1, fun b hb => ?_, w9⟩
        obtain ⟨o, e, d⟩ := T.obj _ _ st5 b hb
        exact (I9.pin (b, o) (List.mem_append_right _ (List.mem_append_right _ (mem_pinsAt hb e)))).2.1
      refine thn (htt _ s2 H2 fp _ s6 _ H5 _ _ rfl I6 (step xv H5 y5)) fun ok s7 ⟨H7, I7, q7⟩ => ?_
      cases ok with
      | false =>
        rw [if_neg Bool.false_ne_true] at q7 ⊢
        obtain ⟨m', hm, w7⟩ := hNn _ _ q7
        exact again I7 hm w7
      | true =>
        rw [if_pos rfl] at q7 ⊢
        refine wpAny_mono (hte _ s2 H2 fp _ s7 _ H7 _ I7 q7) (fun yv s8 ⟨y, H8, I8, r8, hD8, hl8, n8⟩ => ?_) fun _ _ z => False.elim z
        refine wpAny_mono (mt_append (X := cxC X N' scope (s2.heap.objs.size + 1) s2 H2 fp) _ s8 _ H8 (.ref s2.heap.objs.size) [y] (.ref s2.heap.objs.size) [yv] (fun _ H9 => H9 = upd H8 s2.heap.objs.size (.lst (ys ++ [y]))) I8 rfl (.cons r8 .nil)
          ⟨_, ys, y, rfl, rfl, hD8, hl8, rfl⟩) (fun _ s9 ⟨_, H9, I9, _, e9⟩ => ?_) fun _ _ z => False.elim z
        subst e9
        obtain ⟨m', hm, w8⟩ := hNn _ _ n8
        exact again I9 hm w8
  exact codeAny_compStart_list loop (T.self X.A 0 _ _ _ st1 loop)
theorem pe_comp {wi : TI} {j : Nat} {tt : TT} {te : TE} (hc : X.calm = true) (hi : PI X (.Name x px) iter wi)
    (hk : scope.kind = .function) (hcell : ∀ z ∈ scope.names, z.2 ≠ NameKind.cell) (hnames : ∀ y ∈ scope.names, y.2 = .local → scope.names.lookup y.1 = some .local) (hfree : X.Ok → ∀ y, (y, NameKind.free) ∈ scope.names → ∃ c, X.env.cells.lookup y = some c) (he : Emb X scope N' emb)
    (hx : scope.names.lookup x = some .local) (hN : N'.Nodup) (hj : N'[j]? = some x) (hje : emb[j]? = some none)
    (htt : ∀ C s2 H2 fp, PTs (cxC X N' scope C s2 H2 fp) ifs tt) (hte : ∀ C s2 H2 fp, PE (cxC X N' scope C s2 H2 fp) elt te)
    (hs : ∀ v, foldedSetIterable iter X.env v = pure v := by intro _; rfl) : PE X (.ListComp elt [⟨.Name x px, iter, ifs, 0⟩] scope pos) (tComp wi j emb tt te) := by
  intro pins s σ H Q I h
  rw [eval_ListComp]
  refine wpAny_comprehension_free (use := none) rfl hs (closure_is (hfree I.ok)) hk hnames (thn (hi pins s σ H _ I h) fun v s1 h1 => thn h1 fun itv s2 h2 => ?_)
  obtain ⟨it, fp, tn, J, H2, e, I2, T, st2, f2, hw⟩ := h2
  subst e
  refine comp_block I2 hc T st2 f2 hk hcell (hfree I.ok) he hx hN hj hje htt hte hw fun D C H' s' m I' q hn hC hle => ?_
  refine ⟨m, hn, fun h' hs' => ?_⟩
  have lt : ∀ {b : Addr} {o : Obj}, s2.heap.get? b = some o → b ≠ C := fun e => Nat.ne_of_lt (Nat.lt_of_lt_of_le (Heap.lt_size e) hle)
  refine ⟨.ref D, H', I'.turned (t' := s'.toks) (it := C) (fun b o hb e => hs'.extBut b o hb e) hC (Ne.symm (Nat.ne_of_lt (Nat.lt_of_lt_of_le I2.lt hle))) (.inr (Nat.le_trans I2.sz hle)) (fun y c e => ?_) (fun p hp => lt (I2.pin p hp).1), rfl, q⟩
  obtain ⟨_, o, ho, _⟩ := I2.cell y c e
  exact lt ho
theorem ps_comp {wi : TI} {j i : Nat} {tt : TT} {te : TE} {y : Str} {py spos : Pos} (hc : X.calm = true) (hi : PI X (.Name x px) iter wi)
    (hk : scope.kind = .function) (hcell : ∀ z ∈ scope.names, z.2 ≠ NameKind.cell) (hnames : ∀ y ∈ scope.names, y.2 = .local → scope.names.lookup y.1 = some .local) (hfree : X.Ok → ∀ y, (y, NameKind.free) ∈ scope.names → ∃ c, X.env.cells.lookup y = some c) (he : Emb X scope N' emb)
    (hx : scope.names.lookup x = some .local) (hN : N'.Nodup) (hj : N'[j]? = some x) (hje : emb[j]? = some none)
    (htt : ∀ C s2 H2 fp, PTs (cxC X N' scope C s2 H2 fp) ifs tt) (hte : ∀ C s2 H2 fp, PE (cxC X N' scope C s2 H2 fp) elt te)
    (hNX : X.N.Nodup) (hy : X.N[i]? = some y) (hyl : X.env.scope.names.lookup y = some .local)
    (hsw : swapsWith (.ListComp elt [⟨.Name x px, iter, ifs, 0⟩] scope pos) (some (.Name y py)) spos.line X.env = pure true)
    (hs : ∀ v, foldedSetIterable iter X.env v = pure v := by intro _; rfl) : PS X (.Assign [.Name y py] (.ListComp elt [⟨.Name x px, iter, ifs, 0⟩] scope pos) spos) (tAsg (tComp wi j emb tt te) (gName i)) := by
  intro pins s σ H D I h
  rw [exec_Assign_Name_used _ _ _ _ hsw]
  refine wpAny_bind (wpAny_standAt (wpAny_bind ?_))
  show wpAny _ _ (do let _ ← comprehension (.ListComp elt [⟨.Name x px, iter, ifs, 0⟩] scope pos) scope X.env _ (newList []) false (eval iter X.env) (some (assign (.Name y py) X.env))) _ _ s
  refine wpAny_bind (thn (Q := fun _ s' => SP X pins D .next s') ?_ fun _ s' q => wpAny_pure (wpAny_pure q))
  refine wpAny_comprehension_free (use := some (assign (.Name y py) X.env)) rfl hs (closure_is (hfree I.ok)) hk hnames (thn (hi pins s σ H _ I h) fun v s1 h1 => thn h1 fun itv s2 h2 => ?_)
  obtain ⟨it, fp, tn, J, H2, e, I2, T, st2, f2, hw⟩ := h2
  subst e
  refine comp_block (Qv := fun v H' => gName i v σ H' D.nx) I2 hc T st2 f2 hk hcell (hfree I.ok) he hx hN hj hje htt hte hw fun Dl C H' s' m I' q hn hC hle => ?_
  have lt : ∀ {b : Addr} {o : Obj}, s2.heap.get? b = some o → b ≠ C := fun e => Nat.ne_of_lt (Nat.lt_of_lt_of_le (Heap.lt_size e) hle)
  have neL : X.env.locals ≠ C := Nat.ne_of_lt (Nat.lt_of_lt_of_le I2.lt hle)
  show wpAny _ _ (assign (.Name y py) X.env (.ref Dl)) _ _ s'
  refine wpAny_assign_Name (store_ok2 (v := .ref Dl) I' hNX hy (.inl hyl) rfl (fun s3 I3 ⟨a, hsb, ha⟩ => ?_) (.inr hyl))
  have nea : C ≠ a := by
    rcases ha with z | z
    · rw [z]; exact Ne.symm neL
    · obtain ⟨_, o, ho, _⟩ := I2.cell y a z
      exact Ne.symm (lt ho)
  refine ⟨m, hn.sameBut hsb nea, fun h' hs' => ⟨_, H', I3.turned (t' := s3.toks) (it := C) (fun b o hb e => hs'.extBut b o hb e) hC (Ne.symm neL) (.inr (Nat.le_trans I2.sz hle)) (fun z c e => ?_) (fun p hp => lt (I2.pin p hp).1), q⟩⟩
  obtain ⟨_, o, ho, _⟩ := I2.cell z c e
  exact lt ho
end
theorem comp_list {K : PySem.W.Frag} {a D : Addr} {xs : List V} {j : Nat} {emb : List (Option Nat)} {tt : TT} {te : TE} {σ : St} {H : Hp} {Q : VK} (Pv : Nat → List V → Hp → Prop) (h0 : Pv 0 [] (upd H D (.lst []))) (hl : ∀ i ys H', i ≤ xs.length → Pv i ys H' → SqL K H' a xs)
    (hs : ∀ i x ys H', xs[i]? = some x → Pv i ys H' → tt ((embσ emb σ).set j (some x)) H' fun b H3 => if b = true then te ((embσ emb σ).set j (some x)) H3 fun y H4 => H4 D = some (.lst ys) ∧ ys.length < sizeLine ∧ Pv (i + 1) (ys ++ [y]) (upd H4 D (.lst (ys ++ [y]))) else Pv (i + 1) ys H3)
    (hd : ∀ ys H', Pv xs.length ys H' → Q (.ref D) H') :
    ∃ W : Nat → Nat → List V → Hp → Prop, (∃ m, W 0 m [] (upd H D (.lst []))) ∧
      ∀ i m ys H', W i m ys H' → ((Itl K a).stop i H' ∧ Q (.ref D) H') ∨ ((Itl K a).go i H' ∧ ∃ N : List V → Hp → Prop, (∀ ys' H'', N ys' H'' → ∃ m', m' < m ∧ W (i + 1) m' ys' H'') ∧ ∀ x H2, (Itl K a).yld i H' x H2 → tt ((embσ emb σ).set j (some x)) H2 fun b H3 =>
        if b = true then te ((embσ emb σ).set j (some x)) H3 fun y H4 => H4 D = some (.lst ys) ∧ ys.length < sizeLine ∧ N (ys ++ [y]) (upd H4 D (.lst (ys ++ [y])))
        else N ys H3) := by
  refine ⟨fun i m ys H' => m = xs.length - i ∧ i ≤ xs.length ∧ Pv i ys H', ⟨xs.length, by simp, Nat.zero_le _, h0⟩, ?_⟩
  rintro i m ys H' ⟨rfl, hi, p⟩
  have q := hl i ys H' hi p
  by_cases hlt : i < xs.length
  · refine .inr ⟨⟨xs, xs[i], q, by simp [hlt]⟩, Pv (i + 1), fun ys' H'' p' => ⟨xs.length - (i + 1), by omega, rfl, hlt, p'⟩, fun x H2 y => ?_⟩
    obtain ⟨e, y⟩ := y
    subst e
    exact hs i x ys _ (y xs q) p
  · have e : i = xs.length := by omega
    subst e
    exact .inl ⟨⟨xs, q, Nat.le_refl _⟩, hd ys H' p⟩
theorem comp_range {lo : Int} {n : Nat} {D : Addr} {j : Nat} {emb : List (Option Nat)} {tt : TT} {te : TE} {σ : St} {H : Hp} {Q : VK} (Pv : Nat → List V → Hp → Prop) (h0 : Pv 0 [] (upd H D (.lst [])))
    (hs : ∀ i ys H', i < n → Pv i ys H' → tt ((embσ emb σ).set j (some (.int (lo + i)))) H' fun b H3 => if b = true then te ((embσ emb σ).set j (some (.int (lo + i)))) H3 fun y H4 => H4 D = some (.lst ys) ∧ ys.length < sizeLine ∧ Pv (i + 1) (ys ++ [y]) (upd H4 D (.lst (ys ++ [y]))) else Pv (i + 1) ys H3)
    (hd : ∀ ys H', Pv n ys H' → Q (.ref D) H') :
    ∃ W : Nat → Nat → List V → Hp → Prop, (∃ m, W 0 m [] (upd H D (.lst []))) ∧
      ∀ i m ys H', W i m ys H' → ((Itr lo n).stop i H' ∧ Q (.ref D) H') ∨ ((Itr lo n).go i H' ∧ ∃ N : List V → Hp → Prop, (∀ ys' H'', N ys' H'' → ∃ m', m' < m ∧ W (i + 1) m' ys' H'') ∧ ∀ x H2, (Itr lo n).yld i H' x H2 → tt ((embσ emb σ).set j (some x)) H2 fun b H3 =>
        if b = true then te ((embσ emb σ).set j (some x)) H3 fun y H4 => H4 D = some (.lst ys) ∧ ys.length < sizeLine ∧ N (ys ++ [y]) (upd H4 D (.lst (ys ++ [y])))
        else N ys H3) := by
  refine ⟨fun i m ys H' => m = n - i ∧ i ≤ n ∧ Pv i ys H', ⟨n, by simp, Nat.zero_le _, h0⟩, ?_⟩
  rintro i m ys H' ⟨rfl, hi, p⟩
  by_cases hlt : i < n
  · refine .inr ⟨hlt, Pv (i + 1), fun ys' H'' p' => ⟨n - (i + 1), by omega, rfl, hlt, p'⟩, fun x H2 y => ?_⟩
    obtain ⟨e, y⟩ := y
    subst e y
    exact hs i ys _ hlt p
  · have e : i = n := by omega
    subst e
    exact .inl ⟨Nat.le_refl _, hd ys H' p⟩
theorem free_of {X : Cx} {scope : Scope} (ys : List Str) (h1 : ∀ p ∈ scope.names, p.2 = NameKind.free → p.1 ∈ ys) (h2 : ∀ y ∈ ys, X.env.kindOf y = some .cell) (ok : X.Ok) : ∀ y, (y, NameKind.free) ∈ scope.names → ∃ c, X.env.cells.lookup y = some c :=
  fun y hy => ok.has y (.inl (h2 y (h1 _ hy rfl)))
theorem all_nil {p : Str → Prop} : ∀ y ∈ ([] : List Str), p y := fun _ h => nomatch h
theorem all_cons {p : Str → Prop} {x : Str} {xs : List Str} (h : p x) (t : ∀ y ∈ xs, p y) : ∀ y ∈ x :: xs, p y := fun y hy => by
  rcases List.mem_cons.mp hy with rfl | hy
  · exact h
  · exact t y hy
end L2
end
section
namespace SS
open PySem PySem.Spec PyProof.Rows
def keys (es : Array (Int × Value)) : List Str := es.toList.map fun e => strOf e.2
structure At (prog : Program) (w : World) (o : Obj) (es : Array (Int × Value)) (ep : Nat) (t : SetTable) : Prop where
  exact : o.ExactSet
  data : o.data = .set es ep t
  els : ElemsOf (PySem.strKind prog w) es.toList
  nd : (keys es).Nodup
  room : es.size < scanBound
  fits : t.fits es.size = true
  led : w.params.followText "set-order" = false → t.led = true
  plain : es.size ≠ 0 → t.plain = false
theorem els_str {prog : Program} {w : World} {l : List (Int × Value)} (h : ElemsOf (PySem.strKind prog w) l) : ∀ e ∈ l, ∃ x u, e.2 = .str x u := fun e he => by
  obtain ⟨⟨k, hk, _⟩, _⟩ := h e he
  obtain ⟨u, hu⟩ := Value.isStrOf_shape (x := k) (v := e.2) hk
  exact ⟨k, u, hu⟩
theorem is_iff {prog : Program} {w : World} {x k : Str} {u : Tok} : (PySem.strKind prog w).is k (.str x u) = true ↔ k = x := by
  show Value.isStrOf k (.str x u) = true ↔ k = x
  constructor
  · intro h
    obtain ⟨t, e⟩ := Value.isStrOf_shape h
    injection e with e1
    exact e1.symm
  · intro h
    subst h
    simp [Value.isStrOf]
theorem mem_keys {prog : Program} {w : World} {es : Array (Int × Value)} (h : ElemsOf (PySem.strKind prog w) es.toList) (k : Str) : k ∈ keys es ↔ ∃ e ∈ es.toList, (PySem.strKind prog w).is k e.2 = true := by
  unfold keys
  rw [List.mem_map]
  constructor
  · rintro ⟨e, he, rfl⟩
    obtain ⟨x, u, q⟩ := els_str h e he
    exact ⟨e, he, by rw [q]; exact is_iff.mpr rfl⟩
  · rintro ⟨e, he, q⟩
    obtain ⟨x, u, z⟩ := els_str h e he
    rw [z] at q
    exact ⟨e, he, by rw [z]; exact (is_iff.mp q).symm⟩
theorem layNew_led (t : SetTable) (es : Array (Int × Value)) (h : Int) (x : Value) : (layNew t es h x).2.1.led = t.led := by
  unfold layNew
  cases e : t.freeSlot h with
  | none => rfl
  | some p =>
    obtain ⟨slot, d⟩ := p
    dsimp only
    unfold SetTable.orStandIn
    split <;> rfl
theorem relayAll_led (t : SetTable) (es : Array (Int × Value)) (n : Nat) : (relayAll t es n).2.1.led = t.led := by
  unfold relayAll
  cases e : t.relaid (es.map (·.1)) n with
  | none => rfl
  | some p =>
    obtain ⟨t', order⟩ := p
    dsimp only
    split
    · unfold SetTable.relaid SetTable.laid at e
      cases q : SetTable.layClean (SetTable.sizeAbove n - 1) (es.map (·.1)) with
      | none => rw [q] at e; simp at e
      | some ow =>
        rw [q] at e
        simp at e
        rw [← e.1]
    · rfl
theorem relayAll_plain (t : SetTable) (es : Array (Int × Value)) (n : Nat) (hp : t.plain = false) : (relayAll t es n).2.1.plain = false := by
  unfold relayAll
  cases e : t.relaid (es.map (·.1)) n with
  | none => rfl
  | some p =>
    obtain ⟨t', order⟩ := p
    dsimp only
    split
    · unfold SetTable.relaid SetTable.laid at e
      cases q : SetTable.layClean (SetTable.sizeAbove n - 1) (es.map (·.1)) with
      | none => rw [q] at e; simp at e
      | some ow =>
        rw [q] at e
        simp at e
        rw [← e.1]
        exact hp
    · rfl
section
variable {prog : Program} {w : World} {A : Around} {E : Value → Shared → Prop} {s : Shared}
theorem get_put {h : Heap} {a : Addr} {o : Obj} {es es' : Array (Int × Value)} {ep : Nat} {t t' : SetTable} (ho : h.get? a = some o) (hd : o.data = .set es ep t) :
    (h.update a (Obj.putSet es' t')).get? a = some { o with data := .set es' (ep + 1) t' } := by
  have q := Heap.get?_update_self (Obj.putSet es' t') ho (by rw [putSet_of es' t' hd]; rfl)
  rw [putSet_of es' t' hd] at q
  exact q
theorem keys_perm {l l' : Array (Int × Value)} (p : l'.toList.Perm l.toList) : (keys l').Perm (keys l) := p.map _
theorem addH {a : Addr} {o : Obj} {es : Array (Int × Value)} {ep : Nat} {t : SetTable} {x : Str} {u : Tok} {Q : Bool → Shared → Prop} (ho : s.heap.get? a = some o) (S : At prog w o es ep t) (hr : es.size + 1 < scanBound)
    (h : ∀ (b : Bool) (h' : Heap) (o' : Obj) (es' : Array (Int × Value)) (ep' : Nat) (t' : SetTable), Heap.SameBut a s.heap h' → h'.get? a = some o' → At prog w o' es' ep' t' → (∀ y, y ∈ keys es' ↔ y ∈ keys es ∨ y = x) → es'.size ≤ es.size + 1 → Q b { s with heap := h' }) :
    wpAny (model prog w) A (setAddHashed a (.str x u) ((PySem.strKind prog w).hash x)) Q E s := by
  have hkey : (PySem.strKind prog w).is x (.str x u) = true := is_iff.mpr rfl
  unfold setAddHashed setAddHashedIn
  refine wpAny_holding (wpAny_bind (wpAny_setState_of ho S.data S.fits ?_))
  dsimp only
  rw [byScan_of (knd := PySem.strKind prog w) rfl S.room S.els]
  simp only [↓reduceIte]
  unfold setAddByScan
  refine wpAny_bind (wpAny_bind (wpAny_rule ?_))
  refine wpAny_bind (wpAny_setScan_of hkey ho S.data S.fits S.els ?_)
  cases hf : List.findIdx? (fun e => (PySem.strKind prog w).is x e.2) es.toList with
  | some j =>
    dsimp only
    obtain ⟨hj, hpj, _⟩ := List.findIdx?_eq_some_iff_getElem.mp hf
    refine wpAny_pure (wpAny_pure ?_)
    have hx : x ∈ keys es := (mem_keys S.els x).mpr ⟨_, List.getElem_mem hj, hpj⟩
    exact h false s.heap o es ep t (Heap.SameBut.refl a s.heap) ho S (fun y => ⟨.inl, fun z => z.elim id fun e => e ▸ hx⟩) (Nat.le_succ _)
  | none =>
    dsimp only
    have hx : ¬ x ∈ keys es := fun z => by
      obtain ⟨e, he, q⟩ := (mem_keys S.els x).mp z
      have := List.findIdx?_eq_none_iff.mp hf e he
      rw [q] at this
      cases this
    have gw : ∀ (b : Bool) {s₁ : Shared} {Q' : Unit → Shared → Prop}, Q' () s₁ → wpAny (model prog w) A (match b with | true => rule "set.scan.the-table-gave-way" | false => pure ()) Q' E s₁ :=
      fun b s₁ Q' hq => by cases b <;> first | exact wpAny_pure hq | exact wpAny_rule hq
    have hperm := layNew_perm t es ((PySem.strKind prog w).hash x) (.str x u)
    have hfits := layNew_fits t es ((PySem.strKind prog w).hash x) (.str x u)
    have hled := layNew_led t es ((PySem.strKind prog w).hash x) (.str x u)
    generalize layNew t es ((PySem.strKind prog w).hash x) (.str x u) = L at hperm hfits hled ⊢
    obtain ⟨es1, t1, wd, gave⟩ := L
    dsimp only at hperm hfits hled ⊢
    rw [Array.toList_push] at hperm
    have els1 : ElemsOf (PySem.strKind prog w) es1.toList := (S.els.push hkey rfl).perm hperm
    have kp : (keys es1).Perm (keys es ++ [x]) := by
      have := hperm.map fun e => strOf e.2
      rw [List.map_append] at this
      exact this
    have nd1 : (keys es1).Nodup := kp.nodup_iff.mpr (List.nodup_append.mpr ⟨S.nd, by simp, fun a ha b hb e => by
      rw [List.mem_singleton.mp hb] at e
      exact hx (e ▸ ha)⟩)
    have sz1 : es1.size = es.size + 1 := by
      have := hperm.length_eq
      rw [List.length_append, Array.length_toList, Array.length_toList] at this
      exact this
    have mem1 : ∀ y, y ∈ keys es1 ↔ y ∈ keys es ∨ y = x := fun y => by rw [kp.mem_iff, List.mem_append, List.mem_singleton]
    refine wpAny_bind (gw _ ?_)
    have tail : ∀ t2 : SetTable, t2.fits es1.size = true → t2.led = t.led → t2.plain = false →
        wpAny (model prog w) A (do
          storeSet a es1 t2
          if (!wd && t2.tooFull) = true then do
              (match (relayAll t2 es1 (SetTable.grown es1.size)).2.2 with | true => rule "set.scan.the-table-gave-way" | false => pure ())
              storeSet a (relayAll t2 es1 (SetTable.grown es1.size)).1 (relayAll t2 es1 (SetTable.grown es1.size)).2.1
              pure (some true)
            else pure (some true)) (fun (r : Option Bool) s' => wpAny (model prog w) A (match r with | some added => pure added | none => setAddHashedIn a (.str x u) ((PySem.strKind prog w).hash x) 99999) Q E s') E s := by
      intro t2 f2 l2 p2
      have rm1 : es1.size < scanBound := by rw [sz1]; exact hr
      refine wpAny_bind (wpAny_storeSet_of ho S.data ?_ (fits_of_scanBound rm1))
      have g1 := get_put (es' := es1) (t' := t2) ho S.data
      have sb1 := Heap.SameBut.update s.heap a (Obj.putSet es1 t2)
      have A1 : At prog w { o with data := .set es1 (ep + 1) t2 } es1 (ep + 1) t2 := ⟨S.exact, rfl, els1, nd1, rm1, f2, fun z => l2.trans (S.led z), fun _ => p2⟩
      split
      · have pr := relayAll_perm t2 es1 (SetTable.grown es1.size)
        have fr := relayAll_fits t2 es1 (SetTable.grown es1.size)
        have lr := relayAll_led t2 es1 (SetTable.grown es1.size)
        have rp := relayAll_plain t2 es1 (SetTable.grown es1.size) p2
        generalize relayAll t2 es1 (SetTable.grown es1.size) = R at pr fr lr rp ⊢
        obtain ⟨es2, t3, gv⟩ := R
        dsimp only at pr fr lr rp ⊢
        have sz2 : es2.size = es1.size := by rw [← Array.length_toList, pr.length_eq, Array.length_toList]
        refine wpAny_bind (gw _ ?_)
        refine wpAny_bind (wpAny_storeSet_of g1 rfl ?_ (fits_of_scanBound (by rw [sz2]; exact rm1)))
        have g2 := get_put (es' := es2) (t' := t3) g1 rfl
        refine wpAny_pure (wpAny_pure ?_)
        refine h true _ _ es2 _ t3 (sb1.trans (Heap.SameBut.update _ a _)) g2 ⟨S.exact, rfl, els1.perm pr, (keys_perm pr).nodup_iff.mpr nd1, by rw [sz2]; exact rm1, fr, fun z => lr.trans (l2.trans (S.led z)), fun _ => rp⟩ (fun y => by rw [(keys_perm pr).mem_iff]; exact mem1 y) (by omega)
      · exact wpAny_pure (wpAny_pure (h true _ _ es1 _ t2 sb1 g1 A1 mem1 (by omega)))
    have hbv : hashByValue 8 (.str x u) = pure false := by rw [hashByValue_scannable 8 (x := .str x u) rfl]; rfl
    split
    · refine wpAny_bind ?_
      rw [hbv]
      refine wpAny_pure ?_
      simp only [Bool.false_eq_true, if_false]
      exact tail { t1 with plain := false } (SetTable.fits_plain_off hfits) hled rfl
    · rename_i hpl
      refine wpAny_bind (wpAny_pure ?_)
      simp only [↓reduceIte]
      exact tail t1 hfits hled (by simpa using hpl)
theorem add {a : Addr} {o : Obj} {es : Array (Int × Value)} {ep : Nat} {t : SetTable} {x : Str} {u : Tok} {Q : Bool → Shared → Prop} (ho : s.heap.get? a = some o) (S : At prog w o es ep t) (hr : es.size + 1 < scanBound)
    (h : ∀ (b : Bool) (h' : Heap) (o' : Obj) (es' : Array (Int × Value)) (ep' : Nat) (t' : SetTable) (tk : Nat), s.toks ≤ tk → Heap.SameBut a s.heap h' → h'.get? a = some o' → At prog w o' es' ep' t' → (∀ y, y ∈ keys es' ↔ y ∈ keys es ∨ y = x) → es'.size ≤ es.size + 1 → Q b { s with heap := h', toks := tk }) :
    wpAny (model prog w) A (setAdd a (.str x u)) Q E s := by
  have hkey : (PySem.strKind prog w).is x (.str x u) = true := is_iff.mpr rfl
  unfold setAdd
  refine wpAny_holding (wpAny_bind ((PySem.strKind prog w).pyHash (k := x) hkey ?_))
  exact addH (s := { s with toks := s.toks + 1 }) ho S hr fun b h' o' es' ep' t' q1 q2 q3 q4 q5 => h b h' o' es' ep' t' (s.toks + 1) (Nat.le_succ _) q1 q2 q3 q4 q5
end
end SS
end
section
namespace SS
open PySem PySem.Spec PyProof.Rows
abbrev fresh (w : World) : Obj := { cls := .type "set", dict := none, data := .set #[] 0 (.fresh 0 0 (!w.params.followText "set-order")) }
theorem fresh_at (prog : Program) (w : World) : At prog w (fresh w) #[] 0 (.fresh 0 0 (!w.params.followText "set-order")) :=
  ⟨⟨rfl, rfl, rfl⟩, rfl, fun e he => by simp at he, by simp [keys], by decide, rfl, fun h => by show (!w.params.followText "set-order") = true; rw [h]; rfl, fun h => absurd rfl h⟩
theorem strs_len : ∀ {vs : List Value} {xs : List Str}, StrsAre vs xs → vs.length = xs.length
  | _, _, .nil => rfl
  | _, _, .cons x u r => by rw [List.length_cons, List.length_cons, strs_len r]
section
variable {prog : Program} {w : World} {A : Around} {E : Value → Shared → Prop} {s : Shared}
theorem code_new (a : Value) {Q₁ : Value → Shared → Prop} (h : Q₁ (.ref s.heap.objs.size) { s with heap := s.heap.push (fresh w) }) :
    codeAny (model prog w) A (.call (.builtin "set.__new__") ⟨[.type "set", a], []⟩) (wants Q₁ E) s := by
  refine codeAny_of_tree ?_
  show wpAny _ A.in1 (checkBuiltinCall "set.__new__" ⟨[.type "set", a], []⟩ >>= fun _ => again (.builtin "set.__new__" ⟨[.type "set", a], []⟩)) _ _ s
  refine wpAny_bind (wpAny_of_eq (F.newCall_set_1 a) (wpAny_pure ⟨plainId_quiet F.plain_set_new _, ?_⟩))
  refine codeAny_builtin F.entry_set_new ?_
  rw [Around.under_plainId F.plain_set_new _]
  unfold Builtin.«set.__new__» Builtin.Frozenset.newClass
  have hsub := sub_set_self
  obtain ⟨hp, g, d, tk, os⟩ := s
  dsimp only
  wp_walk
  refine wpAny_askSetting (wpAny_pure ?_)
  dsimp only
  simp only [newObj]
  exact wpAny_bind (wpAny_alloc (wpAny_pure (wpAny_pure h)))
theorem fill {R : Result → Shared → Prop} {I : Addr} {fp wr : List Addr} {G : Array GenState → Array GenState → Prop} {n : Nat} {P : Nat → Value → Prop} {St : Nat → Shared → Prop}
    (W : WalksS prog w A.in1 I fp wr G n P St) (S : Addr) (hS : S ∉ fp) (xs : Nat → Str) (hx : ∀ i v, P i v → ∃ u, v = .str (xs i) u) (hn : n + 1 < scanBound) :
    ∀ (k i : Nat) (s : Shared) (o : Obj) (es : Array (Int × Value)) (ep : Nat) (t : SetTable), n - i = k → i ≤ n → St i s → s.heap.get? S = some o → At prog w o es ep t → (∀ y, y ∈ keys es ↔ ∃ j, j < i ∧ xs j = y) → es.size ≤ i →
      (∀ s' o' es' ep' t', Moved (S :: wr) G s s' → s'.heap.get? S = some o' → At prog w o' es' ep' t' → (∀ y, y ∈ keys es' ↔ ∃ j, j < n ∧ xs j = y) → es'.size ≤ n → R (.ok (.ret .none)) s') →
      codeAny (model prog w) A (.builtin "set.update.loop" ⟨[.ref S, .ref I], []⟩) R s := by
  have hSw : S ∉ wr := fun h => hS (W.sub _ h)
  have hsub : ∀ b ∈ wr, b ∈ S :: wr := fun b hb => List.mem_cons_of_mem _ hb
  intro k
  induction k with
  | zero =>
    intro i s o es ep t hk hi st ho hA hm hz hR
    have e : i = n := by omega
    subst e
    refine codeAny_builtin F.entry_set_update_loop ?_
    rw [Around.under_plainId F.plain_set_update_loop _]
    show wpAny _ A.in1 (pyNext (.ref I) >>= _) _ _ s
    refine wpAny_bind (W.done s _ _ st fun s' mv => ?_)
    show wpAny _ A.in1 (ret Value.none) _ _ s'
    exact wpAny_pure (hR s' o es ep t (mv.mono hsub) (mv.heap S _ hSw ho) hA hm hz)
  | succ k ih =>
    intro i s o es ep t hk hi st ho hA hm hz hR
    have lt : i < n := by omega
    refine codeAny_builtin F.entry_set_update_loop ?_
    rw [Around.under_plainId F.plain_set_update_loop _]
    show wpAny _ A.in1 (pyNext (.ref I) >>= _) _ _ s
    refine wpAny_bind (W.item i s _ _ lt st fun v s1 hP st1 mv => ?_)
    obtain ⟨u, rfl⟩ := hx i v hP
    show wpAny _ A.in1 (holding [Value.str (xs i) u] (setAdd S (.str (xs i) u)) >>= _) _ _ s1
    refine wpAny_bind (wpAny_holding (add (mv.heap S _ hSw ho) hA (by omega) fun b h' o' es' ep' t' tk htk sb g' A' m' z' => ?_))
    refine wpAny_pure ⟨plainId_quiet F.plain_set_update_loop _, ?_⟩
    refine ih (i + 1) _ o' es' ep' t' (by omega) lt (W.frame _ s1 _ _ st1 htk fun c hc oc e => ?_) g' A' (fun y => ?_) (by omega) fun s2 o2 es2 ep2 t2 mv2 g2 A2 m2 z2 => ?_
    · rw [sb.2 c (fun z : c = S => hS (by rw [← z]; exact hc))]
      exact e
    · rw [m' y, hm y]
      constructor
      · rintro (⟨j, hj, e⟩ | e)
        · exact ⟨j, by omega, e⟩
        · exact ⟨i, by omega, e.symm⟩
      · rintro ⟨j, hj, e⟩
        by_cases hji : j = i
        · subst hji
          exact .inr e.symm
        · exact .inl ⟨j, by omega, e⟩
    · refine hR s2 o2 es2 ep2 t2 (Moved.trans W.gtrans ((mv.mono hsub).then_heap htk fun c oc hc e => ?_) mv2) g2 A2 m2 z2
      rw [sb.2 c (fun z : c = S => hc (by rw [z]; exact List.mem_cons_self))]
      exact e
theorem call_set {l : Addr} {items : Array Value} {xs : List Str} {Q : Value → Shared → Prop} (hh : A.handled = none) (hl : s.heap.IsList l items) (hi : StrsAre items.toList xs) (hb : items.size + 1 < scanBound)
    (h : ∀ (h' : Heap) (tk : Nat) (o : Obj) (es : Array (Int × Value)) (ep : Nat) (t : SetTable), h'.get? s.heap.objs.size = some o → At prog w o es ep t → (∀ y, y ∈ keys es ↔ y ∈ xs) → es.size ≤ items.size →
      (∀ b o, s.heap.get? b = some o → h'.get? b = some o) → Q (.ref s.heap.objs.size) { s with heap := h', toks := tk }) :
    wpAny (model prog w) A (call (.type "set") [.ref l]) Q E s := by
  have hat : ∀ (j : Nat) (v : Value), items[j]? = some v → ∃ u, v = .str (xs.getD j ⟨#[]⟩) u := fun j v e => by
    have e' : items.toList[j]? = some v := by rw [Array.getElem?_toList]; exact e
    clear e hl hb h
    generalize items.toList = L at hi e'
    induction hi generalizing j with
    | nil => simp at e'
    | cons x u r ih =>
      cases j with
      | zero => simp at e'; exact ⟨u, e'.symm⟩
      | succ j => simpa using ih j (by simpa using e')
  have hlen : items.size = xs.length := by rw [← strs_len hi, Array.length_toList]
  have hmem : ∀ y, (∃ j, j < items.size ∧ xs.getD j ⟨#[]⟩ = y) ↔ y ∈ xs := fun y => by
    constructor
    · rintro ⟨j, hj, e⟩
      rw [hlen] at hj
      rw [← e, List.getD_eq_getElem?_getD, List.getElem?_eq_getElem hj]
      exact List.getElem_mem hj
    · intro m
      obtain ⟨j, hj, e⟩ := List.mem_iff_getElem.mp m
      refine ⟨j, by rw [hlen]; exact hj, ?_⟩
      rw [List.getD_eq_getElem?_getD, List.getElem?_eq_getElem hj]
      exact e
  obtain ⟨c, tl, hmro⟩ := F.called_set.mro
  have hmade := F.called_set.made
  have hsub := F.called_set.sub
  refine wpAny_call (codeAny_of_tree ?_)
  show wpAny _ _ (callAny (.type "set") _) _ _ _
  refine wpAny_pure ⟨Code.quiet_builtin _ (by decide +kernel), codeAny_builtin F.entry_type_call ?_⟩
  rw [Around.under_plain (weight_type_call_type "set" [.ref l] []) rfl]
  have h1 := F.called_set.notType
  have h2 := F.called_set.canCreate
  have hct := F.typeCall_set_1 (.ref l)
  repeat (any_goals (first | assumption | wp_step))
  refine codeAny_mono (code_new (.ref l) (E := E) (Q₁ := fun obj s₁ => obj = .ref s.heap.objs.size ∧ s₁ = { s with heap := s.heap.push (fresh w) }) ⟨rfl, rfl⟩) fun r s₁ hr => ?_
  cases r with
  | error e => exact hr
  | ok fl =>
    cases fl with
    | ret obj =>
      obtain ⟨rfl, rfl⟩ := hr
      have hS : (s.heap.push (fresh w)).get? s.heap.objs.size = some (fresh w) := Heap.get?_push_size _ rfl
      have hT : Shared.TypeIs { s with heap := s.heap.push (fresh w) } (.ref s.heap.objs.size) "set" := ⟨_, hS, rfl⟩
      have hli := F.called_set.init.lookup
      have hbi := F.called_set.init.bind (.ref s.heap.objs.size)
      repeat (any_goals (first | assumption | wp_step))
      refine codeAny_mono (codeAny_call_builtin (R := wants (fun r s₂ => r = .none ∧ ∃ h' tk o es ep t, s₂ = { s with heap := h', toks := tk } ∧ h'.get? s.heap.objs.size = some o ∧ At prog w o es ep t ∧ (∀ y, y ∈ keys es ↔ y ∈ xs) ∧ es.size ≤ items.size ∧
          (∀ b o, s.heap.get? b = some o → h'.get? b = some o)) E) F.called_set.init.plain F.entry_set_init (check_set_init_1 hT ?_)) fun r₂ s₂ hr₂ => ?_
      · obtain ⟨ol, hol, hcl, nl, hdl⟩ := hl
        obtain ⟨ocls, odict, odata, oslots⟩ := ol
        simp only at hcl hdl
        subst hcl; subst hdl
        have hol' : (s.heap.push (fresh w)).get? l = some { cls := .type "list", dict := odict, data := .seq items nl, slots := oslots } := Heap.get?_push_of_some _ hol
        have hsls := F.sub_list_set
        have hslf := F.sub_list_frozenset
        have hne : (Value.type "list" == Value.type "dict") = false := by decide
        have hl1 : (s.heap.push (fresh w)).IsList l items := ⟨_, hol', rfl, nl, rfl⟩
        unfold Builtin.«set.__init__» noKeywords Builtin.Frozenset.updateFrom
        generalize hPI : pyIter = PI
        wp_walk
        subst hPI
        refine wpAny_pyIter_list hl1 ?_
        refine wpAny_bind (wpAny_runValue ?_)
        have hlS : l < s.heap.objs.size := Heap.lt_size hol
        have hh3 : A.in1.in1.in1.handled = none := by simp [hh]
        have hneI : l ≠ (s.heap.push (fresh w)).objs.size := by
          rw [Heap.size_push]; exact Nat.ne_of_lt (Nat.lt_succ_of_lt hlS)
        have hSf : s.heap.objs.size ∉ [(s.heap.push (fresh w)).objs.size, l] := by
          rw [Heap.size_push]
          intro z
          rcases List.mem_cons.mp z with z | z
          · exact Nat.ne_of_lt (Nat.lt_succ_self _) z
          · exact Nat.ne_of_gt hlS (List.mem_singleton.mp z)
        have g0 : ((s.heap.push (fresh w)).push { cls := .type "list_iterator", data := .fields #[.ref l, .int 0 0] }).get? s.heap.objs.size = some (fresh w) := Heap.get?_push_of_some _ hS
        refine fill ((Walks.list hh3 _ l hneI items).toS) s.heap.objs.size hSf (fun i => xs.getD i ⟨#[]⟩) (fun i v e => hat i v e) hb (items.size - 0) 0 _ (fresh w) #[] 0 _ (by omega) (Nat.zero_le _)
          ⟨⟨_, Heap.get?_push_size _ rfl, rfl, rfl⟩, hl1.push _⟩ g0 (fresh_at prog w) (fun y => ⟨fun z => by simp [keys] at z, fun ⟨j, hj, _⟩ => absurd hj (Nat.not_lt_zero _)⟩) (Nat.zero_le _) fun s' o' es' ep' t' mv g' A' m' z' => ?_
        obtain ⟨h', gg, d', tk', os'⟩ := s'
        have eg : gg = s.gens := mv.gens
        have ed : d' = s.drawn := mv.drawn
        have eo : os' = s.os := mv.os
        subst eg; subst ed; subst eo
        show wpAny _ _ _ _ _ _
        refine wpAny_pure ?_
        show wpAny _ _ (ret Value.none) _ _ _
        refine wpAny_pure ⟨rfl, h', tk', o', es', ep', t', rfl, g', A', fun y => (m' y).trans (hmem y), z', fun b o e => ?_⟩
        have lt := Heap.lt_size e
        refine mv.heap b o (fun z => ?_) (Heap.get?_push_of_some _ (Heap.get?_push_of_some _ e))
        rcases List.mem_cons.mp z with z | z
        · exact Nat.ne_of_lt lt z
        · have z' : b = (s.heap.push (fresh w)).objs.size := List.mem_singleton.mp z
          rw [Heap.size_push] at z'
          exact Nat.ne_of_lt (Nat.lt_succ_of_lt lt) z'
      · cases r₂ with
        | error e => exact hr₂
        | ok fl₂ =>
          cases fl₂ with
          | ret r =>
            obtain ⟨rfl, h', tk, o', es', ep', t', rfl, g', A', m', z', k'⟩ := hr₂
            repeat (any_goals (first | assumption | wp_step))
            exact h h' tk o' es' ep' t' g' A' m' z' k'
          | _ => exact hr₂.elim
    | _ => exact hr.elim
end
end SS
end
section
namespace SS
open PySem PyProof.Rows
theorem entry_iter : entryFor table "set.__iter__" = some Builtin.«frozenset.__iter__» := entryFor_alias (id' := "frozenset.__iter__") (by kernel_rfl) rfl (by decide +kernel) (by kernel_rfl)
theorem slot_next : Slot "set_iterator" "__next__" "set_iterator.__next__" :=
  .of (owner := "set_iterator") (n := "__next__") (by rw [typeLookup_type, builtinLookup_eq_fast]; kernel_rfl) (by decide +kernel) (by decide +kernel) (by decide +kernel) (by first | exact .inl (by decide +kernel) | exact .inr (by decide +kernel))
    (by rw [isSubtype_type]; kernel_rfl)
theorem entry_next : entryFor table "set_iterator.__next__" = some Builtin.«set_iterator.__next__» := entryFor_of_tree (by kernel_rfl)
theorem args_next (a : Value) : argsOk "set_iterator.__next__" ⟨[a], []⟩ := by unfold argsOk; kernel_rfl
theorem erase_perm {α : Type} : ∀ {l : List α} {i : Nat} (h : i < l.length), (l[i] :: l.eraseIdx i).Perm l
  | [], i, h => absurd h (Nat.not_lt_zero _)
  | a :: r, 0, _ => List.Perm.refl _
  | a :: r, i + 1, h => by
    have hi : i < r.length := by simpa using h
    have ih := erase_perm (l := r) (i := i) hi
    show (r[i] :: a :: r.eraseIdx i).Perm (a :: r)
    exact (List.Perm.swap a r[i] (r.eraseIdx i)).trans (List.Perm.cons a ih)
theorem at_filterMap {α : Type} {l : List α} : ∀ {ps : List Nat} {j p : Nat}, (∀ q ∈ ps, q < l.length) → ps[j]? = some p → (ps.filterMap fun q => l[q]?)[j]? = l[p]?
  | [], j, p, _, h => by simp at h
  | q :: r, j, p, hq, h => by
    have hl : q < l.length := hq q List.mem_cons_self
    have e : l[q]? = some l[q] := List.getElem?_eq_getElem hl
    rw [List.filterMap_cons, e]
    cases j with
    | zero =>
      simp at h
      subst h
      simp [e]
    | succ j =>
      simp only [List.getElem?_cons_succ] at h ⊢
      exact at_filterMap (fun z hz => hq z (List.mem_cons_of_mem _ hz)) h
theorem range_at {α : Type} (l : List α) : (List.range l.length).filterMap (fun q => l[q]?) = l := List.filterMap_getElem?_range_length l
theorem pick_go_perm {α : Type} (next : Nat → Nat) : ∀ (fuel k : Nat) (left : List α) (out : Array α), left.length ≤ fuel → (pickOrder.go next fuel k left out).toList.Perm (out.toList ++ left)
  | 0, k, left, out, h => by
    have e : left = [] := List.length_eq_zero_iff.mp (by omega)
    subst e
    simp [pickOrder.go]
  | fuel + 1, k, left, out, h => by
    unfold pickOrder.go
    cases e : left[next k % left.length]? with
    | none =>
      dsimp only
      have z : left = [] := by
        cases left with
        | nil => rfl
        | cons a r =>
          have := List.getElem?_eq_none_iff.mp e
          have q := Nat.mod_lt (next k) (show 0 < (a :: r).length by simp)
          omega
      subst z
      simp
    | some x =>
      dsimp only
      obtain ⟨hj, ex⟩ := List.getElem?_eq_some_iff.mp e
      have ih := pick_go_perm next fuel (k + 1) (left.eraseIdx (next k % left.length)) (out.push x) (by rw [List.length_eraseIdx_of_lt hj]; omega)
      refine ih.trans ?_
      rw [Array.toList_push, List.append_assoc]
      refine List.Perm.append_left _ ?_
      rw [← ex]
      exact erase_perm hj
theorem pick_perm {α : Type} (next : Nat → Nat) (xs : Array α) : (pickOrder next xs).toList.Perm xs.toList := by
  unfold pickOrder
  exact (pick_go_perm next xs.size 0 xs.toList #[] (by simp)).trans (by simp)
section
variable {prog : Program} {w : World} {A : Around} {E : Value → Shared → Prop} {s : Shared}
theorem choose_any {src : Source} {n : Nat} {Q : Nat → Shared → Prop} (hn : n ≠ 0) (h : ∀ i d, i < n → Q i { s with drawn := d }) : wpAny (model prog w) A (choose src n) Q E s :=
  fun Γ p _ => ⟨hn, h _ _ (Nat.mod_lt _ (Nat.pos_of_ne_zero hn))⟩
theorem draw_any {α : Type} : ∀ (n : Nat) (xs : List α) (s : Shared) (Q : List α → Shared → Prop), xs.length = n → (∀ ys d, ys.Perm xs → Q ys { s with drawn := d }) → wpAny (model prog w) A (drawOrder n xs) Q E s
  | 0, xs, s, Q, hl, h => by
    have e : xs = [] := List.length_eq_zero_iff.mp hl
    subst e
    exact wpAny_pure (h [] s.drawn (List.Perm.refl _))
  | n + 1, [], s, Q, hl, h => by simp at hl
  | n + 1, x :: r, s, Q, hl, h => by
    show wpAny _ _ (choose .order (x :: r).length >>= _) _ _ s
    refine wpAny_bind (choose_any (by simp) fun i d hi => ?_)
    have e : (x :: r)[i]? = some ((x :: r)[i]) := List.getElem?_eq_getElem hi
    rw [e]
    dsimp only
    refine wpAny_bind (draw_any n ((x :: r).eraseIdx i) _ _ (by rw [List.length_eraseIdx_of_lt hi]; omega) fun ys d' p => wpAny_pure (h _ d' ?_))
    exact (List.Perm.cons _ p).trans (erase_perm hi)
end
abbrev itObj (first : Value) (i : Nat) (a : Addr) (n ep : Nat) : Obj := { cls := .type "set_iterator", data := .fields #[first, rawInt i, .ref a, rawInt n, rawInt ep] }
inductive Mode (w : World) (a : Addr) (es : Array (Int × Value)) (ep : Nat) (t : SetTable) : Value → Nat → List Value → List (Addr × Obj) → Prop where
  | text (k i : Nat) (h : w.params.followText "set-order" = true) : Mode w a es ep t (rawInt k) i ((pickOrder (w.params.setOrder a ep) es).toList.map (·.2)) []
  | drawn (tp i : Nat) (ps : List Nat) (h : ps.Perm (List.range es.size)) (hb : w.params.followText "set-order" = false) :
      Mode w a es ep t (.ref tp) i ((ps.filterMap fun p => es.toList[p]?).map (·.2)) [(tp, { cls := .type "tuple", data := .seq (ps.map fun (p : Nat) => rawInt p).toArray })]
  | few (k i : Nat) (hb : w.params.followText "set-order" = false) (hn : es.size ≤ 1) (hk : i = 0 ∧ k = 0 ∨ (i = 1 ∧ es.size = 1 ∧ ∃ j, t.place = #[j] ∧ k = j + 1)) : Mode w a es ep t (rawInt k) i (es.toList.map (·.2)) []
section
variable {prog : Program} {w : World} {A : Around} {E : Value → Shared → Prop} {s : Shared} {a : Addr} {es : Array (Int × Value)} {ep : Nat} {t : SetTable} {f : Value} {i : Nat} {vs : List Value} {l : List (Addr × Obj)} {o : Obj} {it : Addr}
theorem Mode.perm (m : Mode w a es ep t f i vs l) : vs.Perm (es.toList.map (·.2)) := by
  cases m with
  | text k i h => exact (pick_perm _ es).map _
  | drawn tp i ps h hb =>
    refine ((h.filterMap _).trans (List.Perm.of_eq ?_)).map _
    have := range_at es.toList
    rw [Array.length_toList] at this
    exact this
  | few k i hb hn hk => exact List.Perm.refl _
theorem setState_at (ho : s.heap.get? a = some o) (S : At prog w o es ep t) {Q : (Array (Int × Value) × Nat × SetTable) → Shared → Prop} (h : Q (es, ep, t) s) : wpAny (model prog w) A (setState a) Q E s := wpAny_setState_of ho S.data S.fits h
theorem byText_at {Q : Bool → Shared → Prop} (h : Q (w.params.followText "set-order") s) : wpAny (model prog w) A setsByText Q E s := by
  unfold setsByText
  exact wpAny_bind (wpAny_askSetting (wpAny_pure h))
theorem setNext_text {slot given : Nat} {Q : Option (Value × Nat) → Shared → Prop} (ho : s.heap.get? a = some o) (S : At prog w o es ep t) (hb : w.params.followText "set-order" = true)
    (h : Q (((pickOrder (w.params.setOrder a ep) es)[given]?).map fun e => (e.2, slot)) s) : wpAny (model prog w) A (setNext a slot given ep) Q E s := by
  unfold setNext
  refine wpAny_bind (setState_at ho S ?_)
  dsimp only
  refine wpAny_bind (byText_at ?_)
  rw [hb]
  simp only [if_true, bne_self_eq_false, Bool.false_eq_true, if_false]
  refine wpAny_bind ?_
  unfold setWalk
  refine wpAny_bind (setState_at ho S ?_)
  dsimp only
  refine wpAny_bind (byText_at ?_)
  rw [hb]
  simp only [if_true]
  refine wpAny_bind (wpAny_askSetting (wpAny_pure ?_))
  exact wpAny_pure h
theorem below_one (j k : Nat) : SetTable.below #[j] k = if j < k then 1 else 0 := by
  unfold SetTable.below
  by_cases h : j < k
  · simp [SetTable.below.go, h]
  · simp [SetTable.below.go, h]
theorem setNext_few {slot given : Nat} {Q : Option (Value × Nat) → Shared → Prop} (ho : s.heap.get? a = some o) (S : At prog w o es ep t) (hb : w.params.followText "set-order" = false) (hn : es.size ≤ 1)
    (h : Q (match es[SetTable.below t.place slot]?, t.place[SetTable.below t.place slot]? with | some (_, x), some j => some (x, j + 1) | _, _ => none) s) : wpAny (model prog w) A (setNext a slot given ep) Q E s := by
  unfold setNext
  refine wpAny_bind (setState_at ho S ?_)
  dsimp only
  refine wpAny_bind (byText_at ?_)
  rw [hb]
  simp only [Bool.false_eq_true, if_false]
  refine wpAny_ite ?_
  split
  · rename_i z
    have z' : (!t.plain && decide (es.size > 1)) = true := z
    have : decide (es.size > 1) = false := decide_eq_false (by omega)
    rw [this, Bool.and_false] at z'
    cases z'
  · refine wpAny_bind ?_
    show wpAny _ _ (if (!t.led && !es.isEmpty) = true then unsupported "set:maker-not-led" else pure ()) _ _ s
    rw [if_neg (by rw [S.led hb]; simp)]
    exact wpAny_pure (wpAny_pure h)
theorem next_item {x : Value} {Q : Option Value → Shared → Prop} (hit : s.heap.get? it = some (itObj f i a es.size ep)) (ho : s.heap.get? a = some o) (S : At prog w o es ep t) (m : Mode w a es ep t f i vs l) (hl : ∀ p ∈ l, s.heap.get? p.1 = some p.2)
    (hx : vs[i]? = some x) (hQ : ∀ h' f', h'.get? it = some (itObj f' (i + 1) a es.size ep) → Heap.SameBut it s.heap h' → Mode w a es ep t f' (i + 1) vs l → Q (some x) { s with heap := h' }) :
    wpAny (model prog w) A (pyNext (.ref it)) Q E s := by
  have hT : s.TypeIs (.ref it) "set_iterator" := ⟨_, hit, rfl⟩
  unfold pyNext
  refine wpAny_bind (wpAny_attempt (wpAny_callSpecial?_slot (name := Str.ofString "__next__") hT slot_next (wpAny_call_entry slot_next hT entry_next ?_ (args_next _))))
  unfold Builtin.«set_iterator.__next__»
  refine wpAny_bind (m := slotArgs "__next__" 0 ⟨[.ref it], []⟩) (wpAny_pure ?_)
  dsimp only
  refine wpAny_bind (wpAny_fieldsOf hit rfl ?_)
  show wpAny _ _ (setEntries a >>= _) _ _ s
  refine wpAny_bind (wpAny_setEntries_of ho S.data S.fits ?_)
  rw [if_neg (by simp)]
  have put : ∀ {h1 : Heap} {f' : Value}, h1.get? it = some (itObj f' i a es.size ep) → (h1.update it (Obj.mapFields (·.setIfInBounds 1 (rawInt ((i : Int) + 1))))).get? it = some (itObj f' (i + 1) a es.size ep) := fun {h1 f'} e => by
    have q := Heap.get?_update_self (Obj.mapFields (·.setIfInBounds 1 (rawInt ((i : Int) + 1)))) e rfl
    exact q
  cases m with
  | text k i hb =>
    show wpAny _ _ (setNext a (k : Int).toNat (i : Int).toNat (ep : Int).toNat >>= _) _ _ s
    simp only [Int.toNat_natCast]
    refine wpAny_bind (setNext_text ho S hb ?_)
    obtain ⟨e, he, ex⟩ : ∃ e, (pickOrder (w.params.setOrder a ep) es)[i]? = some e ∧ e.2 = x := by
      rw [List.getElem?_map, Array.getElem?_toList] at hx
      cases q : (pickOrder (w.params.setOrder a ep) es)[i]? with
      | none => rw [q] at hx; cases hx
      | some e => rw [q] at hx; exact ⟨e, rfl, by simpa using hx⟩
    rw [he]
    show wpAny _ _ (setField (.ref it) 0 (rawInt (k : Nat)) >>= _) _ _ s
    refine wpAny_bind (wpAny_setField hit rfl (by simp) ?_)
    have g1 : (s.heap.update it (Obj.mapFields (·.setIfInBounds 0 (rawInt (k : Nat))))).get? it = some (itObj (rawInt (k : Nat)) i a es.size ep) := Heap.get?_update_self (Obj.mapFields (·.setIfInBounds 0 (rawInt (k : Nat)))) hit rfl
    refine wpAny_bind (wpAny_setField g1 rfl (by simp) ?_)
    refine wpAny_pure ⟨_, rfl, wpAny_pure ?_⟩
    rw [ex]
    exact hQ _ _ (put g1) ((Heap.SameBut.update ..).trans (Heap.SameBut.update ..)) (.text k (i + 1) hb)
  | drawn tp i ps hp hb =>
    have gt := hl _ List.mem_cons_self
    show wpAny _ _ (seqItems? (.ref tp) >>= _) _ _ s
    refine wpAny_bind (wpAny_seqItems gt rfl ?_)
    have hps : ∀ q ∈ ps, q < es.toList.length := fun q hq => by
      have := hp.mem_iff.mp hq
      rw [Array.length_toList]
      exact List.mem_range.mp this
    obtain ⟨p, hpi⟩ : ∃ p, ps[i]? = some p := by
      cases q : ps[i]? with
      | some p => exact ⟨p, rfl⟩
      | none =>
        have h1 := List.getElem?_eq_none_iff.mp q
        have h2 := (List.getElem?_eq_some_iff.mp hx).1
        rw [List.length_map] at h2
        have h3 := List.length_filterMap_le (fun p => es.toList[p]?) ps
        omega
    have hv := at_filterMap hps hpi
    rw [List.getElem?_map, hv] at hx
    have e1 : (ps.map fun (p : Nat) => rawInt p).toArray[(i : Int).toNat]? = some (rawInt (p : Nat)) := by
      simp [hpi]
    dsimp only
    rw [e1]
    show wpAny _ _ (setNextDrawn a (p : Int).toNat (ep : Int).toNat >>= _) _ _ s
    simp only [Int.toNat_natCast]
    cases q : es.toList[p]? with
    | none => rw [q] at hx; cases hx
    | some e =>
      rw [q] at hx
      have ex : e.2 = x := by simpa using hx
      have q' : es[p]? = some e := by rw [← Array.getElem?_toList]; exact q
      refine wpAny_bind ?_
      unfold setNextDrawn
      refine wpAny_bind (setState_at ho S ?_)
      dsimp only
      simp only [bne_self_eq_false, Bool.false_eq_true, if_false]
      rw [q']
      refine wpAny_pure ?_
      refine wpAny_bind (wpAny_setField hit rfl (by simp) ?_)
      refine wpAny_pure ⟨_, rfl, wpAny_pure ?_⟩
      rw [ex]
      exact hQ _ _ (put hit) (Heap.SameBut.update ..) (.drawn tp (i + 1) ps hp hb)
  | few k i hb hn hk =>
    show wpAny _ _ (setNext a (k : Int).toNat (i : Int).toNat (ep : Int).toNat >>= _) _ _ s
    simp only [Int.toNat_natCast]
    have hi : i < es.size := by
      have := (List.getElem?_eq_some_iff.mp hx).1
      rw [List.length_map, Array.length_toList] at this
      exact this
    have hi0 : i = 0 := by omega
    have hk0 : k = 0 := by
      rcases hk with ⟨_, z⟩ | ⟨z, _⟩
      · exact z
      · omega
    subst hi0
    subst hk0
    have hs1 : t.place.size = 1 := by
      have := S.fits
      unfold SetTable.fits at this
      simp only [Bool.and_eq_true, beq_iff_eq] at this
      omega
    obtain ⟨j, hj⟩ : ∃ j, t.place = #[j] := Array.size_eq_one_iff.mp hs1
    refine wpAny_bind (setNext_few ho S hb hn ?_)
    rw [hj, below_one, if_neg (Nat.not_lt_zero _)]
    have q : es[0]? = some (es[0].1, x) := by
      rw [List.getElem?_map, Array.getElem?_toList, Array.getElem?_eq_getElem hi] at hx
      have hx' : es[0].2 = x := by simpa using hx
      rw [Array.getElem?_eq_getElem hi, ← hx']
    rw [q]
    show wpAny _ _ (setField (.ref it) 0 (rawInt ((j + 1 : Nat) : Int)) >>= _) _ _ s
    refine wpAny_bind (wpAny_setField hit rfl (by simp) ?_)
    have g1 : (s.heap.update it (Obj.mapFields (·.setIfInBounds 0 (rawInt ((j + 1 : Nat) : Int))))).get? it = some (itObj (rawInt ((j + 1 : Nat) : Int)) 0 a es.size ep) := Heap.get?_update_self (Obj.mapFields (·.setIfInBounds 0 (rawInt ((j + 1 : Nat) : Int)))) hit rfl
    refine wpAny_bind (wpAny_setField g1 rfl (by simp) ?_)
    refine wpAny_pure ⟨_, rfl, wpAny_pure ?_⟩
    exact hQ _ _ (put g1) ((Heap.SameBut.update ..).trans (Heap.SameBut.update ..)) (.few (j + 1) 1 hb hn (.inr ⟨rfl, by omega, j, hj, rfl⟩))
theorem next_end {Q : Option Value → Shared → Prop} (hh : A.handled = none) (hit : s.heap.get? it = some (itObj f i a es.size ep)) (ho : s.heap.get? a = some o) (S : At prog w o es ep t) (m : Mode w a es ep t f i vs l) (hl : ∀ p ∈ l, s.heap.get? p.1 = some p.2)
    (hx : i = es.size) (hQ : ∀ h', Heap.ExtBut it s.heap h' → Q none { s with heap := h' }) : wpAny (model prog w) A (pyNext (.ref it)) Q E s := by
  have hT : s.TypeIs (.ref it) "set_iterator" := ⟨_, hit, rfl⟩
  have hvl : vs.length = es.size := by rw [m.perm.length_eq, List.length_map, Array.length_toList]
  unfold pyNext
  refine wpAny_bind (wpAny_attempt (wpAny_callSpecial?_slot (name := Str.ofString "__next__") hT slot_next (wpAny_call_entry slot_next hT entry_next ?_ (args_next _))))
  unfold Builtin.«set_iterator.__next__»
  refine wpAny_bind (m := slotArgs "__next__" 0 ⟨[.ref it], []⟩) (wpAny_pure ?_)
  dsimp only
  refine wpAny_bind (wpAny_fieldsOf hit rfl ?_)
  show wpAny _ _ (setEntries a >>= _) _ _ s
  refine wpAny_bind (wpAny_setEntries_of ho S.data S.fits ?_)
  rw [if_neg (by simp)]
  have stop : ∀ h1 : Heap, Heap.ExtBut it s.heap h1 → wpAny (model prog w) A.in1 (newExc (.type "StopIteration") [] >>= fun e => (raiseNew e : Sem Fin))
      (fun fin s' => ∃ v, fin = Fin.done (Flow.ret v) ∧ wpAny (model prog w) A (pure (some v)) Q E s')
      (fun e s' => wpAny (model prog w) A (isInstance e (Value.type "StopIteration") >>= fun b => if b = true then pure none else throw e) Q E s') { s with heap := h1 } := by
    intro h1 hx1
    refine wpAny_bind ?_
    simp only [newExc, newTuple]
    refine wpAny_bind (wpAny_newObj_type ?_ (by size_fits))
    refine wpAny_bind (m := firstArgMember _ _) (wpAny_of_eq (a := Value.none) (by first | rfl | (simp only [firstArgMember]; rfl)) ?_)
    refine wpAny_newObj_type ?_ (by size_fits)
    simp only [raiseNew]
    refine wpAny_bind (wpAny_handled ?_)
    rw [show A.in1.handled = none from hh]
    refine wpAny_bind (wpAny_pure (wpAny_throw ?_))
    refine wpAny_bind (wpAny_isInstance (T := "StopIteration") (b := true) ⟨_, Heap.get?_push_size _ rfl, rfl⟩ isSubtype_stop ?_)
    exact wpAny_pure (hQ _ ((hx1.push _).push _))
  cases m with
  | text k i hb =>
    show wpAny _ _ (setNext a (k : Int).toNat (i : Int).toNat (ep : Int).toNat >>= _) _ _ s
    simp only [Int.toNat_natCast]
    refine wpAny_bind (setNext_text ho S hb ?_)
    have q : (pickOrder (w.params.setOrder a ep) es)[i]? = none := by
      rw [Array.getElem?_eq_none]
      rw [List.length_map, Array.length_toList] at hvl
      omega
    rw [q]
    show wpAny _ _ (setField (.ref it) 2 .none >>= _) _ _ s
    exact wpAny_bind (wpAny_setField hit rfl (by simp) (stop _ (Heap.SameBut.update ..).extBut))
  | drawn tp i ps hp hb =>
    have gt := hl _ List.mem_cons_self
    show wpAny _ _ (seqItems? (.ref tp) >>= _) _ _ s
    refine wpAny_bind (wpAny_seqItems gt rfl ?_)
    have e1 : (ps.map fun (p : Nat) => rawInt p).toArray[(i : Int).toNat]? = none := by
      have := hp.length_eq
      rw [List.length_range] at this
      simp
      omega
    dsimp only
    rw [e1]
    show wpAny _ _ (setField (.ref it) 0 (rawInt 0) >>= _) _ _ s
    refine wpAny_bind (wpAny_setField hit rfl (by simp) ?_)
    have g1 : (s.heap.update it (Obj.mapFields (·.setIfInBounds 0 (rawInt 0)))).get? it = some (itObj (rawInt 0) i a es.size ep) := Heap.get?_update_self (Obj.mapFields (·.setIfInBounds 0 (rawInt 0))) hit rfl
    exact wpAny_bind (wpAny_setField g1 rfl (by simp) (stop _ ((Heap.SameBut.update ..).trans (Heap.SameBut.update ..)).extBut))
  | few k i hb hn hk =>
    show wpAny _ _ (setNext a (k : Int).toNat (i : Int).toNat (ep : Int).toNat >>= _) _ _ s
    simp only [Int.toNat_natCast]
    refine wpAny_bind (setNext_few ho S hb hn ?_)
    have q : es[SetTable.below t.place k]? = none := by
      have hf := S.fits
      unfold SetTable.fits at hf
      simp only [Bool.and_eq_true, beq_iff_eq] at hf
      rcases hk with ⟨hi, hk⟩ | ⟨hi, h1, j, hj, hk⟩
      · have hz : es.size = 0 := by omega
        rw [Array.getElem?_eq_none]
        omega
      · rw [hj, below_one, if_pos (by omega), Array.getElem?_eq_none]
        omega
    rw [q]
    show wpAny _ _ (setField (.ref it) 2 .none >>= _) _ _ s
    exact wpAny_bind (wpAny_setField hit rfl (by simp) (stop _ (Heap.SameBut.update ..).extBut))
theorem iter_at {Q : Value → Shared → Prop} (ho : s.heap.get? a = some o) (S : At prog w o es ep t)
    (hQ : ∀ (h' : Heap) (it : Addr) (d : Drawn) (f : Value) (vs : List Value) (l : List (Addr × Obj)), h'.get? it = some (itObj f 0 a es.size ep) → (∀ b o, s.heap.get? b = some o → h'.get? b = some o) → s.heap.objs.size ≤ it →
      Mode w a es ep t f 0 vs l → (∀ p ∈ l, h'.get? p.1 = some p.2 ∧ p.1 ≠ it ∧ s.heap.objs.size ≤ p.1) → Q (.ref it) { s with heap := h', drawn := d }) : wpAny (model prog w) A (pyIter (.ref a)) Q E s := by
  have hT : s.TypeIs (.ref a) "set" := ⟨o, ho, S.exact.1⟩
  refine wpAny_pyIter_slot hT F.slot_set_iter (wpAny_call_entry F.slot_set_iter hT entry_iter ?_ (F.args_set_iter_1 _))
  unfold Builtin.«frozenset.__iter__»
  refine wpAny_bind (m := Builtin.Frozenset.slot0 "__iter__" ⟨[.ref a], []⟩) (wpAny_pure ?_)
  refine wpAny_bind ?_
  unfold Builtin.Frozenset.sizeOf
  refine wpAny_bind (wpAny_setEntries_of ho S.data S.fits (wpAny_pure ?_))
  refine wpAny_bind ?_
  unfold setDrawn
  refine wpAny_bind (setState_at ho S ?_)
  dsimp only
  refine wpAny_bind (byText_at (wpAny_pure ?_))
  have fin : ∀ (vs : List Value), Mode w a es ep t (rawInt ((0 : Nat) : Int)) 0 vs [] → wpAny (model prog w) A.in1 (setEpoch a >>= fun e => newFields "set_iterator" [rawInt 0, rawInt 0, .ref a, rawInt es.size, rawInt e] >>= fun r => (ret r : Sem Fin))
      (fun fin s' => ∃ v, fin = Fin.done (Flow.ret v) ∧ ∃ T' r, s'.TypeIs v T' ∧ typeLookup (Value.type T') (Str.ofString "__next__") = pure (some r) ∧ Q v s') E s := fun vs m => by
    refine wpAny_bind (wpAny_setEpoch_of ho S.data S.fits ?_)
    refine wpAny_bind (wpAny_newObj_type (wpAny_pure ⟨_, rfl, "set_iterator", _, ⟨_, Heap.get?_push_size _ rfl, rfl⟩, slot_next.lookup, ?_⟩))
    exact hQ _ _ s.drawn _ vs [] (Heap.get?_push_size _ rfl) (fun b o e => Heap.get?_push_of_some _ e) (Nat.le_refl _) m fun p hp => by cases hp
  cases hb : w.params.followText "set-order" with
  | true =>
    simp only [Bool.not_true, Bool.false_and, Bool.false_eq_true, if_false]
    refine wpAny_bind (wpAny_pure ?_)
    exact fin _ (.text 0 0 hb)
  | false =>
    refine wpAny_ite ?_
    split
    · rename_i z
      refine wpAny_bind (draw_any es.size (List.range es.size) _ _ (List.length_range) fun ps d hp => ?_)
      have hpl : ps.length = es.size := by rw [hp.length_eq, List.length_range]
      refine wpAny_bind (wpAny_newTuple ?_ (by rw [List.length_map, hpl]; exact fits_of_scanBound S.room))
      have ho1 : (s.heap.push { cls := .type "tuple", data := .seq (ps.map fun (i : Nat) => rawInt i).toArray }).get? a = some o := Heap.get?_push_of_some _ ho
      refine wpAny_bind (wpAny_setEpoch_of (s := { s with heap := _, drawn := d }) ho1 S.data S.fits ?_)
      refine wpAny_bind (wpAny_newObj_type (wpAny_pure ⟨_, rfl, "set_iterator", _, ⟨_, Heap.get?_push_size _ rfl, rfl⟩, slot_next.lookup, ?_⟩))
      refine hQ _ _ d _ _ _ (Heap.get?_push_size _ rfl) (fun b o e => Heap.get?_push_of_some _ (Heap.get?_push_of_some _ e)) (by show _ ≤ (s.heap.push _).objs.size; rw [Heap.size_push]; exact Nat.le_succ _) (.drawn s.heap.objs.size 0 ps hp hb) fun p hp => ?_
      rw [List.mem_singleton.mp hp]
      exact ⟨Heap.get?_push_of_some _ (Heap.get?_push_size _ rfl), Nat.ne_of_lt (by show _ < (s.heap.push _).objs.size; rw [Heap.size_push]; exact Nat.lt_succ_self _), Nat.le_refl _⟩
    · rename_i z
      refine wpAny_bind (wpAny_pure ?_)
      refine fin _ (.few 0 0 hb ?_ (.inl ⟨rfl, rfl⟩))
      refine Nat.le_of_not_lt fun h => z ?_
      show (!false && (!t.plain && decide (es.size > 1))) = true
      rw [S.plain (by omega), decide_eq_true h]
      rfl
end
end SS
end
section
namespace SS
open PySem PySem.Spec PyProof.Rows
section
variable {prog : Program} {w : World} {A : Around} {E : Value → Shared → Prop} {s : Shared} {a : Addr} {es : Array (Int × Value)} {ep : Nat} {t : SetTable} {vs : List Value} {l : List (Addr × Obj)} {o : Obj} {it : Addr}
theorem hint_set {Q : Bool → Shared → Prop} (hT : s.TypeIs (.ref a) "set") (h : Q false s) : wpAny (model prog w) A (Builtin.List.listLengthHint (.ref a)) Q E s := by
  unfold Builtin.List.listLengthHint
  refine wpAny_bind (wpAny_specialOf hT F.slot_set_len.lookup ?_)
  generalize hid : ("set.__len__" : String) = name
  wp_delta
  rw [show splitId name = some ("set", "__len__") from by subst hid; decide +kernel]
  subst hid
  refine wpAny_bind (wpAny_isInstance (T := "set") (b := true) hT sub_set_self ?_)
  refine wpAny_ite_split (fun z => absurd z (by decide)) fun _ => wpAny_ite_split (fun _ => ?_) fun z => absurd (by decide +kernel) z
  exact wpAny_bind (wpAny_typeOf hT (wpAny_pure h))
abbrev lobj (acc : Array Value) (c : Nat) : Obj := { cls := .type "list", dict := none, data := .seq acc c, slots := #[] }
theorem walk_loop {R : Result → Shared → Prop} (hh : A.handled = none) (S : At prog w o es ep t) (L : Addr) (res : Value) (hLi : L ≠ it) (hLa : L ≠ a) (hai : a ≠ it) (hl : ∀ p ∈ l, p.1 ≠ L ∧ p.1 ≠ it) (hz : vs.length ≤ sizeLine) (hvl : vs.length = es.size) :
    ∀ (k i : Nat) (s : Shared) (acc : Array Value) (c : Nat) (f : Value), es.size - i = k → i ≤ es.size → s.heap.get? it = some (itObj f i a es.size ep) → s.heap.get? a = some o → Mode w a es ep t f i vs l → (∀ p ∈ l, s.heap.get? p.1 = some p.2) →
      s.heap.get? L = some (lobj acc c) → acc.toList = vs.take i →
      (∀ h' c', (∀ b o, b ≠ L → b ≠ it → s.heap.get? b = some o → h'.get? b = some o) → h'.get? L = some (lobj vs.toArray c') → R (.ok (.ret res)) { s with heap := h' }) →
      codeAny (model prog w) A (.builtin "list.extend.loop" ⟨[.ref L, .ref it, res], []⟩) R s := by
  intro k
  induction k with
  | zero =>
    intro i s acc c f hk hi git ga m gl gL ha hR
    have e : i = es.size := by omega
    refine codeAny_builtin F.entry_extend_loop ?_
    rw [Around.under_plainId F.plain_extend_loop _]
    show wpAny _ A.in1 (pyNext (.ref it) >>= _) _ _ s
    refine wpAny_bind (next_end (by simp [hh]) git ga S m gl e fun h' hx => ?_)
    have : acc = vs.toArray := by
      apply Array.toList_inj.mp
      rw [ha, e, ← hvl, List.take_length]
    subst this
    exact wpAny_pure (hR h' c (fun b o _ hb q => hx b o hb q) (hx L _ hLi gL))
  | succ k ih =>
    intro i s acc c f hk hi git ga m gl gL ha hR
    have lt : i < es.size := by omega
    have lt' : i < vs.length := by omega
    refine codeAny_builtin F.entry_extend_loop ?_
    rw [Around.under_plainId F.plain_extend_loop _]
    show wpAny _ A.in1 (pyNext (.ref it) >>= _) _ _ s
    refine wpAny_bind (next_item (x := vs[i]) git ga S m gl (List.getElem?_eq_getElem lt') fun h1 f' git1 sb m1 => ?_)
    have gL1 : h1.get? L = some (lobj acc c) := (sb.2 L hLi).trans gL
    have hsz : acc.size = i := by
      rw [← Array.length_toList, ha, List.length_take]
      omega
    show wpAny _ A.in1 (updateSeq L (·.push vs[i]) >>= _) _ _ _
    refine wpAny_bind ?_
    have keep : ∀ b o, b ≠ L → b ≠ it → s.heap.get? b = some o → (h1.update L (Obj.mapSeq (·.push vs[i]))).get? b = some o := fun b o h1 h2 q => (Heap.get?_update_other _ _ (Ne.symm h1)).trans ((sb.2 b h2).trans q)
    refine wpAny_updateSeq gL1 rfl (wpAny_pure ⟨plainId_quiet F.plain_extend_loop _, ih (i + 1) _ (acc.push vs[i]) _ f' (by omega) lt ?_ (keep a o (Ne.symm hLa) hai ga) m1 (fun p hp => keep p.1 p.2 (hl p hp).1 (hl p hp).2 (gl p hp)) (Heap.get?_update_self _ gL1 rfl) ?_ ?_⟩) (by omega) (by show (acc.push vs[i]).size ≤ sizeLine + 1; rw [Array.size_push]; omega)
    · exact (Heap.get?_update_other _ _ hLi).trans git1
    · rw [Array.toList_push, ha, List.take_append_getElem lt']
    · intro h' c' kp g'
      exact hR h' c' (fun b o h1 h2 q => kp b o h1 h2 (keep b o h1 h2 q)) g'
theorem collect_set {Q : List Value → Shared → Prop} (hh : A.handled = none) (ho : s.heap.get? a = some o) (S : At prog w o es ep t)
    (hQ : ∀ (h' : Heap) (d : Drawn) (vs : List Value), vs.Perm (es.toList.map (·.2)) → (∀ b o, s.heap.get? b = some o → h'.get? b = some o) → s.heap.objs.size ≤ h'.objs.size → Q vs { s with heap := h', drawn := d }) :
    wpAny (model prog w) A (collect (.ref a)) Q E s := by
  unfold collect
  refine wpAny_bind (wpAny_runValue (codeAny_builtin F.entry_proto_collect ?_))
  rw [Around.under_plainId F.plain_proto_collect _]
  show wpAny _ A.in1 (newList [] >>= fun l => again (.builtin "list.__iadd__" ⟨[l, .ref a], []⟩)) _ _ s
  refine wpAny_bind (wpAny_newList ?_)
  refine wpAny_pure ⟨plainId_quiet F.plain_list_iadd _, codeAny_builtin F.entry_list_iadd ?_⟩
  rw [Around.under_plainId F.plain_list_iadd _]
  show wpAny _ A.in1 (Builtin.List.listExtendWith (.ref s.heap.objs.size) (.ref a) (.ref s.heap.objs.size)) _ _ _
  have alt : a < s.heap.objs.size := Heap.lt_size ho
  have ho1 : (s.heap.push (lobj ([] : List Value).toArray 0)).get? a = some o := Heap.get?_push_of_some _ ho
  have gL : (s.heap.push (lobj ([] : List Value).toArray 0)).get? s.heap.objs.size = some (lobj ([] : List Value).toArray 0) := Heap.get?_push_size _ rfl
  have hT : Shared.TypeIs { s with heap := s.heap.push (lobj ([] : List Value).toArray 0) } (.ref a) "set" := ⟨o, ho1, S.exact.1⟩
  unfold Builtin.List.listExtendWith
  refine wpAny_bind (wpAny_typeOf (T := "set") hT ?_)
  have h1 : Builtin.List.listSameRef (.ref s.heap.objs.size) (.ref a) = false := by
    simp [Builtin.List.listSameRef]
    exact Nat.ne_of_gt alt
  have h2 : (Value.type "set" == Value.type "list") = false := by decide
  have h3 : (Value.type "set" == Value.type "tuple") = false := by decide
  simp only [h1, h2, h3, Bool.or_false, Bool.false_eq_true, if_false]
  refine wpAny_bind (iter_at (s := { s with heap := s.heap.push (lobj ([] : List Value).toArray 0) }) ho1 S fun h2 it d f vs l git keep hle m gl => ?_)
  have hle' : s.heap.objs.size + 1 ≤ it := by
    have : (s.heap.push (lobj ([] : List Value).toArray 0)).objs.size ≤ it := hle
    rw [Heap.size_push] at this
    exact this
  have gl' : ∀ p ∈ l, s.heap.objs.size + 1 ≤ p.1 := fun p hp => by
    have : (s.heap.push (lobj ([] : List Value).toArray 0)).objs.size ≤ p.1 := (gl p hp).2.2
    rw [Heap.size_push] at this
    exact this
  refine wpAny_bind (wpAny_holding (hint_set ⟨o, keep a o ho1, S.exact.1⟩ ?_))
  rw [if_pos (by decide +kernel)]
  refine wpAny_bind (wpAny_rule ?_)
  refine wpAny_bind ?_
  have gL2 := keep _ _ gL
  show wpAny _ A.in1 (updateSeq s.heap.objs.size (·.push .none) >>= fun _ => updateSeq s.heap.objs.size (·.pop)) _ _ _
  refine wpAny_bind (wpAny_updateSeq gL2 rfl ?_)
  have gL3 := Heap.get?_update_self (Obj.mapSeq (·.push Value.none)) gL2 rfl
  refine wpAny_updateSeq gL3 rfl ?_
  have gL4 := Heap.get?_update_self (Obj.mapSeq (·.pop)) gL3 rfl
  have oth : ∀ b o, b ≠ s.heap.objs.size → h2.get? b = some o → ((h2.update s.heap.objs.size (Obj.mapSeq (·.push Value.none))).update s.heap.objs.size (Obj.mapSeq (·.pop))).get? b = some o :=
    fun b o hb e => (Heap.get?_update_other _ _ (Ne.symm hb)).trans ((Heap.get?_update_other _ _ (Ne.symm hb)).trans e)
  have hvl : vs.length = es.size := by rw [m.perm.length_eq, List.length_map, Array.length_toList]
  have ni : s.heap.objs.size ≠ it := Nat.ne_of_lt (by omega)
  refine wpAny_pure ⟨plainId_quiet F.plain_extend_loop _, walk_loop (l := l) (vs := vs) (it := it) (a := a) hh S s.heap.objs.size _ ni (Nat.ne_of_gt alt) (Nat.ne_of_lt (Nat.lt_of_lt_of_le alt (Nat.le_of_succ_le hle'))) (fun p hp => ⟨Nat.ne_of_gt (by have := gl' p hp; omega), (gl p hp).2.1⟩)
    (by rw [hvl]; exact fits_of_scanBound S.room) hvl es.size 0 _ #[] _ f (by omega) (Nat.zero_le _) (oth _ _ (Ne.symm ni) git) (oth a o (Nat.ne_of_lt alt) (keep a o ho1)) m (fun p hp => oth _ _ (Nat.ne_of_gt (by have := gl' p hp; omega)) (gl p hp).1) gL4 (by simp) fun h' c' kp g' => ?_⟩
  show wpAny _ A (load s.heap.objs.size >>= _) _ _ _
  refine wpAny_bind (wpAny_load g' (wpAny_pure (hQ h' d vs m.perm (fun b ob e => ?_) ?_)))
  · have lt := Heap.lt_size e
    exact kp b ob (Nat.ne_of_lt lt) (Nat.ne_of_lt (Nat.lt_of_lt_of_le lt (Nat.le_of_succ_le hle'))) (oth b ob (Nat.ne_of_lt lt) (keep b ob (Heap.get?_push_of_some _ e)))
  · exact Nat.le_of_lt (Heap.lt_size g')
theorem sorted_set {Q : Value → Shared → Prop} (hh : A.handled = none) (ho : s.heap.get? a = some o) (S : At prog w o es ep t) (h64 : es.size < 64)
    (h : ∀ (h' : Heap) (d : Drawn) (p : Addr) (out : List Value) (c : Nat) (ss : List Str), StrsAre out ss → ss.Perm (keys es) → sortedS ss = true → (∀ b o, s.heap.get? b = some o → h'.get? b = some o) → s.heap.objs.size ≤ p → h'.get? p = some (seqObj "list" out.toArray c) →
      Q (.ref p) { s with heap := h', drawn := d }) : wpAny (model prog w) A (call (.builtin "sorted") [.ref a]) Q E s := by
  refine Calls.call_function_entry kind_sorted plain_sorted entry_sorted (args_sorted1 _) ?_
  unfold Builtin.«sorted»
  refine wpAny_bind (m := checkCount "sorted" 1 1 _) (wpAny_pure ?_)
  refine wpAny_bind (collect_set (by simp [hh]) ho S fun h1 d vs hp keep hle => ?_)
  have hS : StrsAre vs (vs.map strOf) := strsAre_map vs fun v hv => by
    obtain ⟨e, he, rfl⟩ := List.mem_map.mp (hp.mem_iff.mp hv)
    exact els_str S.els e he
  have hpk : (vs.map strOf).Perm (keys es) := by
    have := hp.map strOf
    rw [List.map_map] at this
    exact this
  have hvl : vs.length = es.size := by rw [hp.length_eq, List.length_map, Array.length_toList]
  refine wpAny_bind (wpAny_newList ?_ (by rw [hvl]; exact fits_of_scanBound S.room))
  have gP : (h1.push (seqObj "list" vs.toArray 0)).get? h1.objs.size = some (seqObj "list" vs.toArray 0) := Heap.get?_push_size _ rfl
  refine wpAny_bind (wpAny_holding (wpAny_call_entry slot_list_sort ⟨_, gP, rfl⟩ entry_list_sort (list_sort_treeK strKind_oneLt gP hS.keysOf (fun v₁ v₂ rest e => keyKind_strs (by rw [← e]; exact hS)) (by omega) fun st hp' hs' => ⟨_, rfl, ?_⟩) (args_list_sort _)))
  obtain ⟨ss, h2, h3, h4⟩ := sorted_out_str hS hp' hs'
  obtain ⟨c, gc⟩ := sortedHeap_at (out := (arrOf st).map (·.2)) gP
  refine wpAny_pure ⟨_, rfl, ?_⟩
  refine h _ d h1.objs.size ((arrOf st).map (·.2)).toList c ss h2 (h3.trans hpk) h4 (fun b ob e => ?_) hle (by rw [Array.toArray_toList]; exact gc)
  have lt := Heap.lt_size (keep b ob e)
  rw [sortedHeap_old (Nat.ne_of_lt lt) (by rw [size_push']; exact Nat.lt_succ_of_lt lt)]
  exact Heap.get?_push_of_some _ (keep b ob e)
end
end SS
end
section
namespace L2
open PySem PySem.Spec PyProof.Rows
theorem Inv.draws {X : Cx} {pins : List (Addr × Obj)} {σ : St} {H : Hp} {s : Shared} (I : Inv X pins σ H s) (d : Drawn) : Inv X pins σ H { s with drawn := d } :=
  ⟨I.ok, I.os, I.bare, I.base, I.loc, I.cell, I.free, I.freeC, I.pin, I.hok, I.len⟩
theorem strs_of {xs : List Str} : ∀ {us : List Value}, Vals (xs.map V.str) us → StrsAre us xs := by
  induction xs with
  | nil => intro us r; rw [List.map_nil] at r; cases r; exact .nil
  | cons x xs ih =>
    intro us r
    rw [List.map_cons] at r
    cases r with
    | cons r1 r2 =>
      obtain ⟨t, e⟩ := r1
      subst e
      exact .cons x t (ih r2)
theorem vals_strs : ∀ {us : List Value} {xs : List Str}, StrsAre us xs → Vals (xs.map V.str) us
  | _, _, .nil => .nil
  | _, _, .cons x t r => .cons ⟨t, rfl⟩ (vals_strs r)
def setφ (P : Program) (w : World) (p : Addr) (ks : List Str) : Heap → Prop := fun h => ∃ o es ep t, h.get? p = some o ∧ SS.At P w o es ep t ∧ SS.keys es = ks
section
variable {X : Cx}
theorem op_le_str : OpR X (compareOp .LtE) (fun x y H Q => ∃ i j, x = .str i ∧ y = .str j ∧ Q (.bl (!decide (j.cps.toList < i.cps.toList))) H) := by
  intro pins s σ H x y v u Q I rx ry h
  obtain ⟨i, j, rfl, rfl, q⟩ := h
  obtain ⟨t, rfl⟩ := rx
  obtain ⟨t', rfl⟩ := ry
  exact PySem.P.le_str (fin_bl I q rfl)
theorem call_sortedS : CallR X (.builtin "sorted") (fun xs H Q => ∃ (p : Addr) (ys : List Str), xs = [.ref p] ∧ SqL X.K H p (ys.map V.str) ∧ ys.length < 64 ∧ ∀ (zs : List Str) (l : Addr), zs.Perm ys → sortedS zs = true → H l = none → Q (.ref l) (upd H l (.lst (zs.map V.str)))) := by
  intro pins s σ H xs us Q I r h
  obtain ⟨p, ys, rfl, hq, hn, q⟩ := h
  obtain ⟨u, rfl, rx⟩ := vals1 r
  cases rx
  obtain ⟨its, r', pl, hz⟩ := I.list hq
  have hl := r'.length
  rw [List.length_map] at hl hz
  refine sorted_strs pl.isList (strs_of r') (by omega) fun out ss h1 h2 h3 => ?_
  obtain ⟨c, hc⟩ := sortedAll_at s.heap its out
  have hs : H (s.heap.objs.size + 1) = none := I.hok.fresh (Nat.le_succ _)
  refine ⟨.ref (s.heap.objs.size + 1), _, I.laid (t' := s.toks) (o := .lst (ss.map V.str)) (fun b o e => sortedAll_old e) (Nat.le_succ _) ?_, rfl, q ss _ h2 h3 hs⟩
  refine ⟨by rw [List.length_map, h2.length_eq]; omega, out.toList, c, vals_strs h1, ?_⟩
  rw [Array.toArray_toList]
  exact hc
theorem call_setS (hc : X.calm = true) : CallR X (.type "set") (fun xs H Q => ∃ (p : Addr) (ys : List Str), xs = [.ref p] ∧ SqL X.K H p (ys.map V.str) ∧ ys.length + 1 < scanBound ∧
    ∀ (ks : List Str) (l : Addr), ks.Nodup → (∀ y, y ∈ ks ↔ y ∈ ys) → ks.length ≤ ys.length → H l = none → Q (.ref l) (upd H l (.ext (setφ X.prog X.w l ks)))) := by
  intro pins s σ H xs us Q I r h
  obtain ⟨p, ys, rfl, hq, hn, q⟩ := h
  obtain ⟨u, rfl, rx⟩ := vals1 r
  cases rx
  obtain ⟨its, r', pl, hz⟩ := I.list hq
  have hl := r'.length
  rw [List.length_map] at hl hz
  refine SS.call_set (I.ok.hd hc) pl.isList (xs := ys) (strs_of r') (by rw [List.size_toArray]; omega) fun h' tk o es ep t g A m z k => ?_
  have hs : H s.heap.objs.size = none := I.hok.fresh (Nat.le_refl _)
  have hz1 : its.toArray.size = its.length := List.size_toArray
  have hz2 : (SS.keys es).length = es.size := by simp [SS.keys]
  refine ⟨.ref s.heap.objs.size, _, I.laid (t' := tk) (o := .ext (setφ X.prog X.w s.heap.objs.size (SS.keys es))) k (Nat.le_refl _) ?_, rfl, q (SS.keys es) _ A.nd m (by omega) hs⟩
  exact ⟨⟨o, es, ep, t, g, A, rfl⟩, ⟨o, g⟩, fun h1 h2 ⟨o1, es1, ep1, t1, g1, A1, k1⟩ st => ⟨o1, es1, ep1, t1, st _ g1, A1, k1⟩⟩
theorem call_sortedSet (hc : X.calm = true) : CallR X (.builtin "sorted") (fun xs H Q => ∃ (p : Addr) (ks : List Str), xs = [.ref p] ∧ H p = some (.ext (setφ X.prog X.w p ks)) ∧ ks.length < 64 ∧ ∀ (zs : List Str) (l : Addr), zs.Perm ks → sortedS zs = true → H l = none → Q (.ref l) (upd H l (.lst (zs.map V.str)))) := by
  intro pins s σ H xs us Q I r h
  obtain ⟨p, ks, rfl, hp, hn, q⟩ := h
  obtain ⟨u, rfl, rx⟩ := vals1 r
  cases rx
  obtain ⟨⟨o, es, ep, t, g, A, e⟩, _, _⟩ := I.hok p _ hp
  have hsz : es.size = ks.length := by rw [← e]; simp [SS.keys]
  refine SS.sorted_set (I.ok.hd hc) g A (by omega) fun h' d l out c ss h1 h2 h3 k hle gl => ?_
  have hs : H l = none := I.hok.fresh hle
  rw [e] at h2
  have hsl : sizeLine = 16777216 := sizeLine_eq
  refine ⟨.ref l, _, (I.laid (t' := s.toks) (o := .lst (ss.map V.str)) k hle ?_).draws d, rfl, q ss _ h2 h3 hs⟩
  exact ⟨by rw [List.length_map, h2.length_eq]; omega, out, c, vals_strs h1, gl⟩
theorem pe_ty {x : Str} {T : String} {pos : Pos} (hg : Gl X x) (hm : X.mg x = none) (hv : bootBuiltins x = some (.type T)) (hn : x ≠ "__name__" := by decide) (hd : (x == ("__debug__" : Str)) = false := by decide) : PE X (.Name x pos) (tC (.ty T)) :=
  pe_bltn (v := .ty T) hg hm hv rfl hn hd
theorem call_isinst {T : String} : CallR X (.builtin "isinstance") (fun xs H Q => ∃ x t b, xs = [x, .ty T] ∧ TyOf X.K H x t ∧ PySem.W.kitOne X.K t (.type T) = some b ∧ Q (.bl b) H) := by
  intro pins s σ H xs us Q I r h
  obtain ⟨x, t, b, rfl, ty, e, q⟩ := h
  obtain ⟨u, w', rfl, ru, rw'⟩ := vals2 r
  cases rw'
  exact isinst_ok I ru ty e fun tk => ⟨.bl b, H, I.tok tk, rfl, q⟩
end
theorem bt_len : bootBuiltins "len" = some (.builtin "len") := by decide +kernel
theorem bt_sorted : bootBuiltins "sorted" = some (.builtin "sorted") := by decide +kernel
theorem bt_isinstance : bootBuiltins "isinstance" = some (.builtin "isinstance") := by decide +kernel
theorem bt_abs : bootBuiltins "abs" = some (.builtin "abs") := by decide +kernel
theorem bt_set : bootBuiltins "set" = some (.type "set") := by decide +kernel
theorem bt_list : bootBuiltins "list" = some (.type "list") := by decide +kernel
theorem bt_str : bootBuiltins "str" = some (.type "str") := by decide +kernel
theorem bt_bool : bootBuiltins "bool" = some (.type "bool") := by decide +kernel
theorem bt_int : bootBuiltins "int" = some (.type "int") := by decide +kernel
theorem bt_tuple : bootBuiltins "tuple" = some (.type "tuple") := by decide +kernel
end L2
end
section
namespace CM
open PySem PySem.Spec PyProof.Rows
abbrev slt (x y : Str) : Prop := x.cps.toList < y.cps.toList
theorem str_ext {x y : Str} (h : x.cps.toList = y.cps.toList) : x = y := by
  cases x; cases y
  have := Array.toList_inj.mp h
  cases this
  rfl
theorem slt_irrefl (x : Str) : ¬ slt x x := List.lt_irrefl _
theorem slt_trans {x y z : Str} (h : slt x y) (h' : slt y z) : slt x z := List.lt_trans h h'
theorem slt_tri {x y : Str} (h : ¬ slt x y) (h' : ¬ slt y x) : x = y := str_ext (List.le_antisymm (List.not_lt.mp h') (List.not_lt.mp h))
theorem slt_of {x y : Str} (h : ¬ slt y x) (n : x ≠ y) : slt x y := Classical.byContradiction fun q => n (slt_tri q h)
def Rising (xs : List Str) : Prop := ∀ (j : Nat) (x y : Str), xs[j]? = some x → xs[j + 1]? = some y → slt x y
theorem Rising.tail {x : Str} {xs : List Str} (h : Rising (x :: xs)) : Rising xs := fun j a b h1 h2 => h (j + 1) a b (by simpa using h1) (by simpa using h2)
theorem Rising.pw : ∀ {xs : List Str}, Rising xs → xs.Pairwise slt
  | [], _ => List.Pairwise.nil
  | [x], _ => List.pairwise_singleton _ _
  | x :: y :: r, h => by
    have ih := Rising.pw h.tail
    refine List.Pairwise.cons (fun z hz => ?_) ih
    have xy : slt x y := h 0 x y rfl rfl
    rcases List.mem_cons.mp hz with rfl | hz
    · exact xy
    · exact slt_trans xy ((List.pairwise_cons.mp ih).1 z hz)
theorem rising_of_pw {xs : List Str} (h : xs.Pairwise slt) : Rising xs := fun j x y h1 h2 => by
  obtain ⟨a, rfl⟩ := List.getElem?_eq_some_iff.mp h1
  obtain ⟨b, rfl⟩ := List.getElem?_eq_some_iff.mp h2
  exact List.pairwise_iff_getElem.mp h j (j + 1) a b (Nat.lt_succ_self _)
theorem Rising.nodup {xs : List Str} (h : Rising xs) : xs.Nodup := List.Pairwise.imp (S := fun a b => a ≠ b) (fun {a b} (q : slt a b) (e : a = b) => slt_irrefl a (by rw [← e] at q; exact q)) h.pw
theorem risingS_pw : ∀ (l : List Str) (p : Str), risingS p l = true → (p :: l).Nodup → Rising (p :: l)
  | [], p, _, _ => fun j x y h1 h2 => by simp at h2
  | x :: r, p, h, nd => by
    have h' : (!ltCps x.cps.toList p.cps.toList && risingS x r) = true := h
    rw [Bool.and_eq_true] at h'
    obtain ⟨h1, h2⟩ := h'
    have nd' := (List.nodup_cons.mp nd).2
    have ih := risingS_pw r x h2 nd'
    have px : slt p x := by
      refine slt_of (fun q => ?_) (fun e => (List.nodup_cons.mp nd).1 (by rw [e]; exact List.mem_cons_self))
      rw [ltCps_eq, decide_eq_true q] at h1
      cases h1
    intro j a b e1 e2
    cases j with
    | zero =>
      simp at e1 e2
      rw [← e1, ← e2]
      exact px
    | succ j => exact ih j a b (by simpa using e1) (by simpa using e2)
theorem rising_of_sorted {l : List Str} (h : sortedS l = true) (nd : l.Nodup) : Rising l := by
  cases l with
  | nil => exact fun j x y h1 h2 => by simp at h1
  | cons x r => exact risingS_pw r x h nd
theorem rising_same : ∀ {xs ys : List Str}, Rising xs → Rising ys → (∀ z, z ∈ xs ↔ z ∈ ys) → xs = ys
  | [], [], _, _, _ => rfl
  | [], y :: r, _, _, h => by have := (h y).mpr List.mem_cons_self; simp at this
  | x :: r, [], _, _, h => by have := (h x).mp List.mem_cons_self; simp at this
  | x :: r, y :: q, hx, hy, h => by
    have px := List.pairwise_cons.mp hx.pw
    have py := List.pairwise_cons.mp hy.pw
    have e : x = y := by
      rcases List.mem_cons.mp ((h x).mp List.mem_cons_self) with e | m
      · exact e
      · rcases List.mem_cons.mp ((h y).mpr List.mem_cons_self) with e | m'
        · exact e.symm
        · exact absurd (slt_trans (px.1 y m') (py.1 x m)) (slt_irrefl _)
    subst e
    congr 1
    refine rising_same hx.tail hy.tail fun z => ⟨fun m => ?_, fun m => ?_⟩
    · rcases List.mem_cons.mp ((h z).mp (List.mem_cons_of_mem _ m)) with e | m'
      · exact absurd (px.1 z m) (by rw [e]; exact slt_irrefl _)
      · exact m'
    · rcases List.mem_cons.mp ((h z).mpr (List.mem_cons_of_mem _ m)) with e | m'
      · exact absurd (py.1 z m) (by rw [e]; exact slt_irrefl _)
      · exact m'
def word (c : Nat) : List Nat := if h : c = 0 then [] else word ((c - 1) / 26) ++ [97 + (c - 1) % 26]
termination_by c
decreasing_by
  have := Nat.div_le_self (c - 1) 26
  omega
theorem word_zero : word 0 = [] := by rw [word]; simp
theorem word_pos {c : Nat} (h : c ≠ 0) : word c = word ((c - 1) / 26) ++ [97 + (c - 1) % 26] := by
  rw [word]
  simp [h]
theorem word_ne {c : Nat} (h : c ≠ 0) : word c ≠ [] := by rw [word_pos h]; simp
theorem snoc_inj {α : Type} {a b : List α} {x y : α} (h : a ++ [x] = b ++ [y]) : a = b ∧ x = y := by
  have h1 := congrArg List.reverse h
  simp at h1
  exact ⟨h1.2, h1.1⟩
theorem word_inj : ∀ (c d : Nat), word c = word d → c = d := by
  intro c
  induction c using Nat.strongRecOn with
  | _ c ih =>
    intro d h
    by_cases hc : c = 0
    · subst hc
      by_cases hd : d = 0
      · exact hd.symm
      · rw [word_zero] at h
        exact absurd h.symm (word_ne hd)
    · by_cases hd : d = 0
      · subst hd
        rw [word_zero] at h
        exact absurd h (word_ne hc)
      · rw [word_pos hc, word_pos hd] at h
        obtain ⟨h1, h2⟩ := snoc_inj h
        have e := ih ((c - 1) / 26) (by have := Nat.div_le_self (c - 1) 26; omega) _ h1
        have d1 := Nat.div_add_mod (c - 1) 26
        have d2 := Nat.div_add_mod (d - 1) 26
        rw [e] at d1
        omega
theorem word_len : ∀ (c : Nat), 2 ^ (word c).length ≤ c + 1 := by
  intro c
  induction c using Nat.strongRecOn with
  | _ c ih =>
    by_cases hc : c = 0
    · subst hc
      rw [word_zero]
      exact Nat.le_refl _
    · rw [word_pos hc, List.length_append, List.length_singleton, Nat.pow_succ]
      have q := ih ((c - 1) / 26) (by have := Nat.div_le_self (c - 1) 26; omega)
      have d1 := Nat.div_add_mod (c - 1) 26
      omega
def wordS (c : Nat) : Str := ⟨(word c).toArray⟩
theorem wordS_inj {c d : Nat} (h : wordS c = wordS d) : c = d := by
  have e : (wordS c).cps.toList = (wordS d).cps.toList := by rw [h]
  exact word_inj c d (by simpa [wordS] using e)
theorem wordS_len (c : Nat) : (wordS c).length = (word c).length := by simp [wordS, Str.length]
theorem len_le {n k : Nat} (h : 2 ^ n ≤ 2 ^ k) : n ≤ k := (Nat.pow_le_pow_iff_right (by decide)).mp h
theorem wordS_short {c k : Nat} (h : c + 1 ≤ 2 ^ k) : (wordS c).length ≤ k := by
  rw [wordS_len]
  exact len_le (Nat.le_trans (word_len c) h)
end CM
end
section
namespace DD
open PySem PySem.Spec PyProof.Rows
section
variable {prog : Program} {w : World} {κ : Type} [DecidableEq κ] {knd : PySem.KeyKind prog w κ} {A : Around} {E : Value → Shared → Prop} {s : Shared} {d : Addr} {kvs : List (κ × Value)} {ep : Nat}
theorem hint_dict {Q : Bool → Shared → Prop} (hT : s.TypeIs (.ref d) "dict") (h : Q false s) : wpAny (model prog w) A (Builtin.List.listLengthHint (.ref d)) Q E s := by
  unfold Builtin.List.listLengthHint
  refine wpAny_bind (wpAny_specialOf hT F.slot_dict_len.lookup ?_)
  generalize hid : ("dict.__len__" : String) = name
  wp_delta
  rw [show splitId name = some ("dict", "__len__") from by subst hid; decide +kernel]
  subst hid
  refine wpAny_bind (wpAny_isInstance (T := "dict") (b := true) hT F.sub_dict_dict ?_)
  refine wpAny_ite_split (fun z => absurd z (by decide)) fun _ => wpAny_ite_split (fun _ => ?_) fun z => absurd (by decide +kernel) z
  exact wpAny_bind (wpAny_typeOf hT (wpAny_pure h))
abbrev lobj (acc : Array Value) (c : Nat) : Obj := { cls := .type "list", dict := none, data := .seq acc c, slots := #[] }
theorem collect_dict {Q : List Value → Shared → Prop} (hh : A.handled = none) (hd : (d == sysModules) = false) (hm : s.heap.DictAt knd d kvs ep) (hz : kvs.length ≤ sizeLine)
    (hQ : ∀ (h' : Heap) (tk : Nat) (vs : List Value), vs.length = kvs.length → (∀ (i : Nat) (v : Value), vs[i]? = some v → ∃ k x, kvs[i]? = some (k, x) ∧ knd.is k v = true) → (∀ b o, s.heap.get? b = some o → h'.get? b = some o) → s.heap.objs.size ≤ h'.objs.size → s.toks ≤ tk →
      Q vs { s with heap := h', toks := tk }) : wpAny (model prog w) A (collect (.ref d)) Q E s := by
  unfold collect
  refine wpAny_bind (wpAny_runValue (codeAny_builtin F.entry_proto_collect ?_))
  rw [Around.under_plainId F.plain_proto_collect _]
  show wpAny _ A.in1 (newList [] >>= fun l => again (.builtin "list.__iadd__" ⟨[l, .ref d], []⟩)) _ _ s
  refine wpAny_bind (wpAny_newList ?_)
  refine wpAny_pure ⟨plainId_quiet F.plain_list_iadd _, codeAny_builtin F.entry_list_iadd ?_⟩
  rw [Around.under_plainId F.plain_list_iadd _]
  show wpAny _ A.in1 (Builtin.List.listExtendWith (.ref s.heap.objs.size) (.ref d) (.ref s.heap.objs.size)) _ _ _
  have dlt : d < s.heap.objs.size := hm.lt_size
  have hm1 : (s.heap.push (lobj ([] : List Value).toArray 0)).DictAt knd d kvs ep := hm.push _
  have gL : (s.heap.push (lobj ([] : List Value).toArray 0)).get? s.heap.objs.size = some (lobj ([] : List Value).toArray 0) := Heap.get?_push_size _ rfl
  have hT : Shared.TypeIs { s with heap := s.heap.push (lobj ([] : List Value).toArray 0) } (.ref d) "dict" := hm1.dictOf.typeIs (s := { s with heap := _ })
  unfold Builtin.List.listExtendWith
  refine wpAny_bind (wpAny_typeOf (T := "dict") hT ?_)
  have h1 : Builtin.List.listSameRef (.ref s.heap.objs.size) (.ref d) = false := by
    simp [Builtin.List.listSameRef]
    exact Nat.ne_of_gt dlt
  have h2 : (Value.type "dict" == Value.type "list") = false := by decide
  have h3 : (Value.type "dict" == Value.type "tuple") = false := by decide
  simp only [h1, h2, h3, Bool.or_false, Bool.false_eq_true, if_false]
  refine wpAny_bind (wpAny_pyIter_dict (s := { s with heap := s.heap.push (lobj ([] : List Value).toArray 0) }) hd hm1 ?_)
  have hm2 := hm1.push ({ cls := .type "dict_keyiterator", data := .fields #[.ref d, .int 0 0, .int kvs.length 0, .int ep 0] } : Obj)
  refine wpAny_bind (wpAny_holding (hint_dict (hm2.dictOf.typeIs (s := { s with heap := _ })) ?_))
  have sz1 : (s.heap.push (lobj ([] : List Value).toArray 0)).objs.size = s.heap.objs.size + 1 := Heap.size_push ..
  have gL2 : ((s.heap.push (lobj ([] : List Value).toArray 0)).push ({ cls := .type "dict_keyiterator", data := .fields #[.ref d, .int 0 0, .int kvs.length 0, .int ep 0] } : Obj)).get? s.heap.objs.size = some (lobj ([] : List Value).toArray 0) := Heap.get?_push_of_some _ gL
  have gI : ((s.heap.push (lobj ([] : List Value).toArray 0)).push ({ cls := .type "dict_keyiterator", data := .fields #[.ref d, .int 0 0, .int kvs.length 0, .int ep 0] } : Obj)).get? (s.heap.push (lobj ([] : List Value).toArray 0)).objs.size = some _ := Heap.get?_push_size _ rfl
  rw [if_pos (by decide +kernel)]
  refine wpAny_bind (wpAny_rule ?_)
  refine wpAny_bind ?_
  show wpAny _ A.in1 (updateSeq s.heap.objs.size (·.push .none) >>= fun _ => updateSeq s.heap.objs.size (·.pop)) _ _ _
  refine wpAny_bind (wpAny_updateSeq gL2 rfl ?_)
  have gL3 := Heap.get?_update_self (Obj.mapSeq (·.push Value.none)) gL2 rfl
  refine wpAny_updateSeq gL3 rfl ?_
  have gL4 := Heap.get?_update_self (Obj.mapSeq (·.pop)) gL3 rfl
  generalize hh2 : (s.heap.push (lobj ([] : List Value).toArray 0)).push ({ cls := .type "dict_keyiterator", data := .fields #[.ref d, .int 0 0, .int kvs.length 0, .int ep 0] } : Obj) = h2 at *
  have oth : ∀ b o, b ≠ s.heap.objs.size → h2.get? b = some o → ((h2.update s.heap.objs.size (Obj.mapSeq (·.push Value.none))).update s.heap.objs.size (Obj.mapSeq (·.pop))).get? b = some o :=
    fun b o hb e => (Heap.get?_update_other _ _ (Ne.symm hb)).trans ((Heap.get?_update_other _ _ (Ne.symm hb)).trans e)
  have keep : ∀ b o, s.heap.get? b = some o → h2.get? b = some o := fun b o e => by
    rw [← hh2]
    exact Heap.get?_push_of_some _ (Heap.get?_push_of_some _ e)
  generalize hI : (s.heap.push (lobj ([] : List Value).toArray 0)).objs.size = I at *
  have nI : I ≠ s.heap.objs.size := Nat.ne_of_gt (by rw [← hI, Heap.size_push]; exact Nat.lt_succ_self _)
  have ndI : d ≠ I := Nat.ne_of_lt (Nat.lt_trans dlt (by rw [← hI, Heap.size_push]; exact Nat.lt_succ_self _))
  show wpAny (model prog w) A.in1 _ _ _ { s with heap := (h2.update s.heap.objs.size (Obj.mapSeq (·.push Value.none))).update s.heap.objs.size (Obj.mapSeq (·.pop)) }
  have hS : s.heap.objs.size ∉ [I, d] := fun z => by
    rcases List.mem_cons.mp z with z | z
    · exact nI z.symm
    · exact Nat.ne_of_gt dlt (List.mem_singleton.mp z)
  refine wpAny_pure ⟨plainId_quiet F.plain_extend_loop _, codeAny_extend_loopS (Walks.toS (Walks.dictKeys (knd := knd) (A := A.in1) (by simp [hh]) I d ndI kvs ep)) hz s.heap.objs.size hS _ kvs.length 0 _ #[] _ (by omega) (Nat.zero_le _) ⟨⟨_, oth I _ nI gI, rfl, rfl⟩, hm2.at' fun o e => oth d o (Nat.ne_of_lt dlt) e⟩ gL4 (ItemsOf.nil _) fun s' acc c mv gS it => ?_⟩
  obtain ⟨h', gg, d', tk', os'⟩ := s'
  have eg : gg = s.gens := mv.gens
  have ed : d' = s.drawn := mv.drawn
  have eo : os' = s.os := mv.os
  subst eg; subst ed; subst eo
  show wpAny _ A (load s.heap.objs.size >>= _) _ _ _
  refine wpAny_bind (wpAny_load gS (wpAny_pure (hQ h' tk' acc.toList (by rw [Array.length_toList]; exact it.1) (fun i v e => ?_) (fun b ob e => ?_) ?_ mv.toks)))
  · rw [Array.getElem?_toList] at e
    exact it.2 i v e
  · have lt := Heap.lt_size e
    refine mv.heap b ob (fun z => ?_) (oth b ob (Nat.ne_of_lt lt) (keep b ob e))
    rcases List.mem_cons.mp z with z | z
    · exact Nat.ne_of_lt lt z
    · exact Nat.ne_of_lt (Nat.lt_trans lt (by rw [← hI, Heap.size_push]; exact Nat.lt_succ_self _)) (List.mem_singleton.mp z)
  · exact Nat.le_of_lt (Heap.lt_size gS)
end
end DD
end
section
namespace DD
open PySem PySem.Spec PyProof.Rows L2
section
variable {prog : Program} {w : World} {A : Around} {E : Value → Shared → Prop} {s : Shared} {d : Addr} {kvs : List (Key × Value)} {ep : Nat}
theorem sorted_dict {Q : Value → Shared → Prop} (hh : A.handled = none) (hd : (d == sysModules) = false) (hm : s.heap.DictAt (mixKind prog w) d kvs ep) (hz : kvs.length < 64) (hk : ∀ k ∈ kvs.map (·.1), ∃ x, k = Sum.inr x)
    (h : ∀ (h' : Heap) (tk : Nat) (p : Addr) (out : List Value) (c : Nat) (ss ks : List Str), StrsAre out ss → kvs.map (·.1) = ks.map Sum.inr → ss.Perm ks → sortedS ss = true → (∀ b o, s.heap.get? b = some o → h'.get? b = some o) → s.heap.objs.size ≤ p → h'.get? p = some (seqObj "list" out.toArray c) →
      Q (.ref p) { s with heap := h', toks := tk }) : wpAny (model prog w) A (call (.builtin "sorted") [.ref d]) Q E s := by
  refine Calls.call_function_entry kind_sorted plain_sorted entry_sorted (args_sorted1 _) ?_
  unfold Builtin.«sorted»
  refine wpAny_bind (m := checkCount "sorted" 1 1 _) (wpAny_pure ?_)
  refine wpAny_bind (collect_dict (knd := mixKind prog w) (by simp [hh]) hd hm (by rw [sizeLine_eq]; omega) fun h1 tk vs hl hv keep hle htk => ?_)
  have hstr : ∀ (i : Nat) (v : Value), vs[i]? = some v → ∃ x t, v = .str x t ∧ (kvs.map (·.1))[i]? = some (Sum.inr x) := fun i v e => by
    obtain ⟨k, y, ek, is⟩ := hv i v e
    have ek' : (kvs.map (·.1))[i]? = some k := by rw [List.getElem?_map, ek]; rfl
    obtain ⟨x, rfl⟩ := hk k (List.mem_of_getElem? ek')
    obtain ⟨t, rfl⟩ := Value.isStrOf_shape (x := x) (v := v) is
    exact ⟨x, t, rfl, ek'⟩
  have hS : StrsAre vs (vs.map strOf) := strsAre_map vs fun v hv => by
    obtain ⟨i, e⟩ := List.getElem?_of_mem hv
    obtain ⟨x, t, q, _⟩ := hstr i v e
    exact ⟨x, t, q⟩
  have hkk : kvs.map (·.1) = (vs.map strOf).map Sum.inr := by
    apply List.ext_getElem?
    intro i
    by_cases c : i < vs.length
    · have e : vs[i]? = some vs[i] := List.getElem?_eq_getElem c
      obtain ⟨x, t, q, z⟩ := hstr i _ e
      rw [z, List.getElem?_map, List.getElem?_map, e, q]
      rfl
    · rw [List.getElem?_eq_none (by rw [List.length_map]; omega), List.getElem?_eq_none (by rw [List.length_map, List.length_map]; omega)]
  have hvz : vs.length ≤ sizeLine := by rw [sizeLine_eq]; omega
  refine wpAny_bind (wpAny_newList ?_ hvz)
  have gP : (h1.push (seqObj "list" vs.toArray 0)).get? h1.objs.size = some (seqObj "list" vs.toArray 0) := Heap.get?_push_size _ rfl
  refine wpAny_bind (wpAny_holding (wpAny_call_entry slot_list_sort ⟨_, gP, rfl⟩ entry_list_sort (list_sort_treeK strKind_oneLt gP hS.keysOf (fun x y r e => keyKind_strs (e ▸ hS)) (by omega) fun st hp' hs' => ⟨_, rfl, ?_⟩) (args_list_sort _)))
  obtain ⟨ss, h2, h3, h4⟩ := sorted_out_str hS hp' hs'
  obtain ⟨c, gc⟩ := sortedHeap_at (out := (arrOf st).map (·.2)) gP
  refine wpAny_pure ⟨_, rfl, ?_⟩
  refine h _ tk h1.objs.size ((arrOf st).map (·.2)).toList c ss (vs.map strOf) h2 hkk h3 h4 (fun b ob e => ?_) hle (by rw [Array.toArray_toList]; exact gc)
  have lt := Heap.lt_size (keep b ob e)
  rw [sortedHeap_old (Nat.ne_of_lt lt) (by rw [size_push']; exact Nat.lt_succ_of_lt lt)]
  exact Heap.get?_push_of_some _ (keep b ob e)
end
end DD
namespace L2
open PySem PySem.Spec PyProof.Rows
section
variable {X : Cx}
theorem kv_keys : ∀ {kvs : List (Key × V)} {vs : List (Key × Value)}, KV kvs vs → vs.map (·.1) = kvs.map (·.1)
  | _, _, .nil => rfl
  | _, _, .cons r t => by
    rw [List.map_cons, List.map_cons, kv_keys t, r.1]
theorem inrs : ∀ {ks : List Key}, (∀ k ∈ ks, ∃ x : Str, k = Sum.inr x) → ∃ ys : List Str, ks = ys.map Sum.inr
  | [], _ => ⟨[], rfl⟩
  | k :: r, h => by
    obtain ⟨x, rfl⟩ := h k List.mem_cons_self
    obtain ⟨ys, rfl⟩ := inrs fun k hk => h k (List.mem_cons_of_mem _ hk)
    exact ⟨x :: ys, rfl⟩
theorem nodup_len : ∀ {zs ws : List Str}, zs.Nodup → (∀ y ∈ zs, y ∈ ws) → zs.length ≤ ws.length
  | [], _, _, _ => Nat.zero_le _
  | z :: r, ws, nd, sub => by
    have m := sub z List.mem_cons_self
    have nd := List.nodup_cons.mp nd
    have h := nodup_len (zs := r) (ws := ws.erase z) nd.2 fun y hy => (List.mem_erase_of_ne (a := y) (b := z) (fun e => nd.1 (by rw [← e]; exact hy))).mpr (sub y (List.mem_cons_of_mem _ hy))
    rw [List.length_erase_of_mem m] at h
    have := List.length_pos_of_mem m
    rw [List.length_cons]
    omega
theorem call_sortedD (hc : X.calm = true) : CallR X (.builtin "sorted") (fun xs H Q => ∃ (p : Addr) (kvs : List (Key × V)), xs = [.ref p] ∧ H p = some (.dK kvs) ∧ (∀ i : Int, valV kvs (Sum.inl i) = none) ∧ (∃ W : List Str, W.length < 64 ∧ ∀ y, (valV kvs (Sum.inr y)).isSome = true → y ∈ W) ∧
    ∀ (zs : List Str) (l : Addr), zs.Nodup → (∀ y, y ∈ zs ↔ (valV kvs (Sum.inr y)).isSome = true) → zs.length ≤ kvs.length → sortedS zs = true → H l = none → Q (.ref l) (upd H l (.lst (zs.map V.str)))) := by
  intro pins s σ H xs us Q I r h
  obtain ⟨p, kvs, rfl, hp, hi, ⟨W, lW, sW⟩, q⟩ := h
  obtain ⟨u, rfl, rx⟩ := vals1 r
  cases rx
  obtain ⟨hz, hd, vs, kv, dd⟩ := (show ObjOk X.prog X.w H s.heap p (.dK kvs) from I.hok p _ hp)
  obtain ⟨ep, da⟩ := dd.dictAt
  have ek := kv_keys kv
  have el : vs.length = kvs.length := by
    have := congrArg List.length ek
    rw [List.length_map, List.length_map] at this
    exact this
  have hall : ∀ k ∈ vs.map (·.1), ∃ x : Str, k = Sum.inr x := fun k hk => by
    cases k with
    | inr x => exact ⟨x, rfl⟩
    | inl i =>
      rw [ek] at hk
      exact absurd hk (valV_not (hi i))
  have few : vs.length < 64 := by
    obtain ⟨ks, e⟩ := inrs hall
    have nk : (ks.map (Sum.inr : Str → Key)).Nodup := by rw [← e]; exact da.nodup
    have nks : ks.Nodup := List.Pairwise.of_map Sum.inr (fun a b hab e => hab (by rw [e])) nk
    have h1 := nodup_len nks (ws := W) fun y hy => sW y (by
      have m : (Sum.inr y : Key) ∈ kvs.map (·.1) := by rw [← ek, e]; exact List.mem_map_of_mem hy
      cases c : valV kvs (Sum.inr y) with
      | none => exact absurd m (valV_not c)
      | some v => rfl)
    have h2 := congrArg List.length e
    rw [List.length_map, List.length_map] at h2
    omega
  refine DD.sorted_dict (I.ok.hd hc) hd da few hall fun h' tk l out c ss ks h1 h2 h3 h4 k hle gl => ?_
  · have hs : H l = none := I.hok.fresh hle
    have nk : (ks.map (Sum.inr : Str → Key)).Nodup := by rw [← h2]; exact da.nodup
    have nks : ks.Nodup := List.Pairwise.of_map Sum.inr (fun a b hab e => hab (by rw [e])) nk
    have lk : ks.length = kvs.length := by
      have := congrArg List.length h2
      rw [List.length_map, List.length_map] at this
      omega
    refine ⟨.ref l, _, I.laid (t' := tk) (o := .lst (ss.map V.str)) k hle ?_, rfl, q ss l (h3.nodup_iff.mpr nks) (fun y => ?_) (by rw [h3.length_eq]; omega) h4 hs⟩
    · exact ⟨by rw [List.length_map, h3.length_eq]; omega, out, c, vals_strs h1, gl⟩
    · rw [h3.mem_iff]
      have e : y ∈ ks ↔ (Sum.inr y : Key) ∈ kvs.map (·.1) := by
        rw [← ek, h2, List.mem_map]
        constructor
        · exact fun z => ⟨y, z, rfl⟩
        · rintro ⟨x, z, e⟩
          exact Sum.inr.inj e ▸ z
      rw [e]
      cases c : valV kvs (Sum.inr y) with
      | none => exact ⟨fun z => absurd z (valV_not c), fun z => by cases z⟩
      | some v => exact ⟨fun _ => rfl, fun _ => valV_in c⟩
end
end L2
end
section
namespace LB
open PySem L2 CM
structure IsDef (K : PySem.W.Frag) (mg : Str → Option Value) (x : Str) (st : Stmt) (ps : List Str) (f : Addr) (fd : FuncData) : Prop where
  F : Fun K x x st f fd
  b : Binds K fd ps []
  m : mg x = some (.ref f)
structure Txt (mg : Str → Option Value) : Prop where
  len : mg "len" = none
  range : mg "range" = none
  sorted : mg "sorted" = none
  set : mg "set" = none
  isi : mg "isinstance" = none
  list : mg "list" = none
  str : mg "str" = none
  bool : mg "bool" = none
  abs : mg "abs" = none
  max : mg "max" = none
  min : mg "min" = none
  int : mg "int" = none
  tuple : mg "tuple" = none
  sum : mg "sum" = none
  any : mg "any" = none
  reversed : mg "reversed" = none
theorem app_list (x y : Str) : (x ++ y).cps.toList = x.cps.toList ++ y.cps.toList := by
  show (x.cps ++ y.cps).toList = _
  simp
theorem empty_list : (Str.ofString "").cps.toList = [] := by decide +kernel
theorem abc_at : ∀ n, n < 26 → (("abcdefghijklmnopqrstuvwxyz" : Str)).cps.toList[n]? = some (97 + n) := by decide +kernel
theorem abc_ix {i : Int} (h0 : 0 ≤ i) (h1 : i < 26) : atI (("abcdefghijklmnopqrstuvwxyz" : Str)).cps.toList i = some (97 + i.toNat) := by
  obtain ⟨n, rfl⟩ : ∃ n : Nat, i = (n : Int) := ⟨i.toNat, by omega⟩
  exact atI_nat (abc_at n (by omega))
theorem at_ints {ns : List Int} {k : Nat} (h : k < ns.length) : (ns.map V.int)[k]? = some (V.int (ns.getD k 0)) := by
  rw [List.getElem?_map, List.getElem?_eq_getElem h, List.getD_eq_getElem?_getD, List.getElem?_eq_getElem h]
  rfl
def spAt (K : PySem.W.Frag) : Sp := fun vs H Q _ => ∃ (a : Addr) (k : Nat) (ns : List Int), vs = [.ref a, .int (k : Int)] ∧ SqL K H a (ns.map V.int) ∧ Q (.int (ns.getD k 0)) H
def spSpelt : Sp := fun vs H Q _ => ∃ c : Int, vs = [.int c] ∧ 0 ≤ c ∧ (c + 1).toNat + 1 ≤ 2 ^ 210 ∧ Q (.str (wordS (c + 1).toNat)) H
def spAny : Sp := fun vs H Q _ => ∃ c : Int, vs = [.int c] ∧ ∀ (r : Int) (H' : Hp), -(10 ^ 59) < r → r < 10 ^ 59 → Same H H' → Q (.int r) H'
def spStride (K : PySem.W.Frag) : Sp := fun vs H Q _ => ∃ (a : Addr) (ns : List Int), vs = [.ref a] ∧ SqL K H a (ns.map V.int) ∧ ∀ (r : Int) (H' : Hp), 1 ≤ r → r ≤ 10 ^ 59 → Same H H' → Q (.int r) H'
def spSame : Sp := fun vs H Q _ => ∃ (a b : Addr) (xs ys : List Str), vs = [.ref a, .ref b] ∧ H a = some (.lst (xs.map V.str)) ∧ H b = some (.lst (ys.map V.str)) ∧ ys.length ≤ 100000 ∧ ∀ r : Bool, (r = true ↔ xs = ys) → Q (.bl r) H
def spRising : Sp := fun vs H Q _ => ∃ (a : Addr) (xs : List Str), vs = [.ref a] ∧ H a = some (.lst (xs.map V.str)) ∧ xs.length ≤ 100000 ∧ ∀ r : Bool, (r = true ↔ Rising xs) → Q (.bl r) H
theorem same_upd {H : Hp} {p : Addr} {o : HO} (h : H p = none) : Same H (upd H p o) := fun b u e => by
  rw [upd_ne (ne_of_none e h)]
  exact e
theorem same_put {H H3 : Hp} {q : Addr} {o : HO} (h : Same H H3) (hq : H q = none) : Same H (upd H3 q o) := fun b u e => by
  rw [upd_ne (ne_of_none e hq)]
  exact h b u e
theorem sq_of {K : PySem.W.Frag} {H : Hp} {a : Addr} {xs : List V} (h : H a = some (.lst xs)) : SqL K H a xs := .inl (.inl h)
theorem ix_map {xs : List Str} {k : Int} {j : Nat} {x : Str} (e : k = (j : Int)) (h : xs[j]? = some x) : atI (xs.map V.str) k = some (V.str x) := by
  subst e
  exact atI_nat (by rw [List.getElem?_map, h]; rfl)
theorem iteN {c A B : Prop} [Decidable c] (hc : ¬ c) (h : A) : if (!decide c) = true then A else B := by
  rw [decide_eq_false hc]
  exact iteT h
theorem big_word {m st : Int} (h0 : 0 ≤ m) (h1 : m ≤ 1000) (h2 : 1 ≤ st) (h3 : st ≤ 10 ^ 59) : 0 ≤ m * st ∧ (m * st + 1).toNat + 1 ≤ 2 ^ 210 := by
  have a : 0 ≤ m * st := Int.mul_nonneg h0 (by omega)
  have b : m * st ≤ 1000 * 10 ^ 59 := Int.mul_le_mul h1 h3 (by omega) (by decide)
  have c : (1000 * 10 ^ 59 + 2 : Int) ≤ ((2 ^ 210 : Nat) : Int) := by decide
  refine ⟨a, ?_⟩
  have d : ((m * st + 1).toNat : Int) = m * st + 1 := Int.toNat_of_nonneg (by omega)
  omega
structure Tab (H : Hp) (a : Addr) (rs : List Addr) (X : Nat → List V) : Prop where
  head : H a = some (.lst (rs.map V.ref))
  row : ∀ p r, rs[p]? = some r → H r = some (.lst (X p))
structure New (H : Hp) (a : Addr) (rs : List Addr) : Prop where
  head : H a = none
  row : ∀ r ∈ rs, H r = none
  nd : (a :: rs).Nodup
theorem Tab.same {H H' : Hp} {a : Addr} {rs : List Addr} {X : Nat → List V} (t : Tab H a rs X) (s : Same H H') : Tab H' a rs X := ⟨s _ _ t.head, fun p r e => s _ _ (t.row p r e)⟩
theorem refs_at {rs : List Addr} {i : Nat} {x : V} (h : (rs.map V.ref)[i]? = some x) : ∃ r, rs[i]? = some r ∧ x = V.ref r := by
  rw [List.getElem?_map] at h
  cases e : rs[i]? with
  | none => rw [e] at h; cases h
  | some r => rw [e] at h; exact ⟨r, rfl, (Option.some.inj h).symm⟩
theorem ix_refs {rs : List Addr} {k : Int} {j : Nat} {r : Addr} (e : k = (j : Int)) (h : rs[j]? = some r) : atI (rs.map V.ref) k = some (V.ref r) := by
  subst e
  exact atI_nat (by rw [List.getElem?_map, h]; rfl)
theorem row_snoc {H H' : Hp} {rs : List Addr} {X : Nat → List V} {q : Addr} (h : ∀ p r, rs[p]? = some r → H r = some (.lst (X p))) (s : ∀ r ∈ rs, ∀ o, H r = some o → H' r = some o) (hq : H' q = some (.lst (X rs.length))) : ∀ p r, (rs ++ [q])[p]? = some r → H' r = some (.lst (X p)) := fun p r e => by
  by_cases hp : p < rs.length
  · rw [List.getElem?_append_left hp] at e
    exact s r (List.mem_of_getElem? e) _ (h p r e)
  · rw [List.getElem?_append_right (by omega)] at e
    have z : p - rs.length = 0 := by
      have := (List.getElem?_eq_some_iff.mp e).1
      simp at this
      omega
    rw [z] at e
    cases e
    have e2 : p = rs.length := by omega
    rw [e2]
    exact hq
def cond (ns : List Int) (count k p : Nat) : Bool :=
  decide (ns.getD ((k + 1) % ns.length) 0 / 3 % 5 = 0) || decide (((k : Int) + ns.getD ((k + 2) % ns.length) 0) % (max 1 (count : Int)) = (p : Int))
def hit (ns : List Int) (count span k p s : Nat) : Bool := cond ns count k p && decide ((ns.getD k 0 % (span : Int)).toNat = s)
def grid (ns : List Int) (count span k p s : Nat) : Bool := (List.range k).any fun j => hit ns count span j p s
theorem grid_succ (ns : List Int) (count span k p s : Nat) : grid ns count span (k + 1) p s = (grid ns count span k p s || hit ns count span k p s) := by
  unfold grid
  rw [List.range_succ, List.any_append]
  simp
def rowB (g : Nat → Nat → Bool) (n p : Nat) : List V := (List.range n).map fun s => V.bl (g p s)
theorem rowB_len (g : Nat → Nat → Bool) (n p : Nat) : (rowB g n p).length = n := by simp [rowB]
theorem rowB_at {g : Nat → Nat → Bool} {n p s : Nat} (h : s < n) : (rowB g n p)[s]? = some (V.bl (g p s)) := by
  unfold rowB
  rw [List.getElem?_map, List.getElem?_range h]
  rfl
def pick (b : Nat → Bool) (zs : List Str) (n : Nat) : List Str := (List.range n).filterMap fun k => if b k = true then zs[k]? else none
theorem pick_succ {b : Nat → Bool} {zs : List Str} {n : Nat} {z : Str} (h : zs[n]? = some z) : pick b zs (n + 1) = pick b zs n ++ (if b n = true then [z] else []) := by
  unfold pick
  rw [List.range_succ, List.filterMap_append]
  congr 1
  cases e : b n <;> simp [e, h]
theorem pick_len (b : Nat → Bool) (zs : List Str) (n : Nat) : (pick b zs n).length ≤ n := by
  unfold pick
  have := List.length_filterMap_le (fun k => if b k = true then zs[k]? else none) (List.range n)
  rw [List.length_range] at this
  exact this
theorem pick_mem {b : Nat → Bool} {zs : List Str} {n : Nat} {y : Str} : y ∈ pick b zs n ↔ ∃ k, k < n ∧ b k = true ∧ zs[k]? = some y := by
  unfold pick
  rw [List.mem_filterMap]
  constructor
  · rintro ⟨k, hk, e⟩
    by_cases c : b k = true
    · rw [if_pos c] at e
      exact ⟨k, List.mem_range.mp hk, c, e⟩
    · rw [if_neg c] at e
      cases e
  · rintro ⟨k, hk, c, e⟩
    exact ⟨k, List.mem_range.mpr hk, by rw [if_pos c]; exact e⟩
theorem upd_none {H : Hp} {p q : Addr} {o : HO} (h : (upd H p o) q = none) : q ≠ p ∧ H q = none := by
  by_cases e : q = p
  · rw [e, upd_same] at h
    cases h
  · rw [upd_ne e] at h
    exact ⟨e, h⟩
theorem rowB_set {g g' : Nat → Nat → Bool} {n p j : Nat} (h : ∀ s, s < n → g' p s = (g p s || decide (j = s))) : (rowB g n p).set j (V.bl true) = rowB g' n p := by
  apply List.ext_getElem?
  intro s
  by_cases hs : s < n
  · rw [List.getElem?_set, rowB_at hs, rowB_at hs, h s hs, rowB_len]
    by_cases e : j = s
    · rw [if_pos e, if_pos (by omega), decide_eq_true e, Bool.or_true]
    · rw [if_neg e, decide_eq_false e, Bool.or_false]
  · rw [List.getElem?_eq_none (by rw [List.length_set, rowB_len]; omega), List.getElem?_eq_none (by rw [rowB_len]; omega)]
theorem rowB_congr {g g' : Nat → Nat → Bool} {n p : Nat} (h : ∀ s, s < n → g' p s = g p s) : rowB g n p = rowB g' n p := by
  unfold rowB
  refine List.map_congr_left fun s hs => ?_
  rw [h s (List.mem_range.mp hs)]
theorem rowB_zero {ns : List Int} {count span n p : Nat} : (List.replicate n [V.bl false]).flatten = rowB (grid ns count span 0) n p := by
  unfold rowB grid
  have e : (List.range n).map (fun s => V.bl ((List.range 0).any fun j => hit ns count span j p s)) = List.replicate n (V.bl false) := by
    rw [List.eq_replicate_iff]
    refine ⟨by simp, fun b hb => ?_⟩
    obtain ⟨s, _, e⟩ := List.mem_map.mp hb
    exact e.symm
  rw [e]
  induction n with
  | zero => rfl
  | succ n ih => rw [List.replicate_succ, List.flatten_cons, List.replicate_succ]; exact congrArg _ (ih (by rw [List.eq_replicate_iff]; exact ⟨by simp, fun b hb => by obtain ⟨s, _, e⟩ := List.mem_map.mp hb; exact e.symm⟩))
theorem nd_at {rs : List Addr} {i j : Nat} {r : Addr} (nd : rs.Nodup) (h1 : rs[i]? = some r) (h2 : rs[j]? = some r) : i = j :=
  (List.getElem?_inj (List.getElem?_eq_some_iff.mp h1).1 nd).mp (h1.trans h2.symm)
theorem nd_one (d : Addr) : [d].Nodup := List.nodup_cons.mpr ⟨List.not_mem_nil, List.nodup_nil⟩
theorem ixN_nat {n j : Nat} (h : j < n) : ixN n (j : Int) = some j := by
  unfold ixN
  rw [if_pos (by omega), if_pos (by omega), Int.toNat_natCast]
theorem int_nat {i : Int} (h : 0 ≤ i) : i = (i.toNat : Int) := (Int.toNat_of_nonneg h).symm
theorem mod_nat {x : Int} {a n : Nat} (h : x = (a : Int)) : x % (n : Int) = ((a % n : Nat) : Int) := by rw [h, Int.natCast_emod]
theorem at_int {ns : List Int} {i : Int} {j : Nat} (e : i = (j : Int)) (h : j < ns.length) : atI (ns.map V.int) i = some (V.int (ns.getD j 0)) := by
  subst e
  exact atI_nat (at_ints h)
theorem max_of (n : Nat) : (if (n : Int) > 1 then (n : Int) else 1) = max 1 (n : Int) := by
  by_cases h : (n : Int) > 1
  · rw [if_pos h]; omega
  · rw [if_neg h]; omega
theorem dec_i {a b : Int} : decide (V.int a = V.int b) = decide (a = b) := by
  by_cases h : a = b
  · rw [h, decide_eq_true rfl, decide_eq_true rfl]
  · rw [decide_eq_false h, decide_eq_false fun z => h (V.int.inj z)]
theorem bt_max : bootBuiltins "max" = some (.builtin "max") := by decide +kernel
theorem bt_min : bootBuiltins "min" = some (.builtin "min") := by decide +kernel
theorem pick_rising {b : Nat → Bool} {zs : List Str} (hz : Rising zs) : ∀ n, n ≤ zs.length → (pick b zs n).Pairwise slt
  | 0, _ => List.Pairwise.nil
  | n + 1, h => by
    have e : zs[n]? = some zs[n] := List.getElem?_eq_getElem (by omega)
    rw [pick_succ e]
    refine List.pairwise_append.mpr ⟨pick_rising hz n (by omega), ?_, fun x hx y hy => ?_⟩
    · by_cases c : b n = true
      · rw [if_pos c]
        exact List.pairwise_singleton _ _
      · rw [if_neg c]
        exact List.Pairwise.nil
    · by_cases c : b n = true
      · rw [if_pos c] at hy
        cases List.mem_singleton.mp hy
        obtain ⟨k, hk, _, ek⟩ := pick_mem.mp hx
        obtain ⟨l1, e1⟩ := List.getElem?_eq_some_iff.mp ek
        have q := List.pairwise_iff_getElem.mp hz.pw k n l1 (by omega) hk
        rw [e1] at q
        exact q
      · rw [if_neg c] at hy
        cases hy
theorem pick_rises {b : Nat → Bool} {zs : List Str} (hz : Rising zs) : Rising (pick b zs zs.length) := rising_of_pw (pick_rising hz _ (Nat.le_refl _))
def spTwo (p : Bool → Bool → Bool) : Sp := fun vs H Q _ => ∃ (a b : Addr) (xs ys : List Str), vs = [.ref a, .ref b] ∧ H a = some (.lst (xs.map V.str)) ∧ H b = some (.lst (ys.map V.str)) ∧ Rising xs ∧ Rising ys ∧ xs.length ≤ 31 ∧ ys.length ≤ 31 ∧
  ∀ (l : Addr) (zs : List Str) (H' : Hp), Rising zs → (∀ y, y ∈ zs ↔ p (decide (y ∈ xs)) (decide (y ∈ ys)) = true) → H l = none → H' l = some (.lst (zs.map V.str)) → Same H H' → Q (.ref l) H'
def spLaw (K : PySem.W.Frag) : Sp := fun vs H Q _ => ∃ (a : Addr) (ns : List Int), vs = [.ref a] ∧ SqL K H a (ns.map V.int) ∧ ns.length ≤ 63 ∧ ∀ H', Q (.bl true) H'
theorem cut_ints (xs : List Int) (lo hi : Option Int) : ∃ ys : List Int, cutV (xs.map V.int) lo hi = ys.map V.int ∧ ys.length ≤ xs.length := by
  refine ⟨(xs.drop (HT.sIx (xs.map V.int).length 0 lo)).take (HT.sIx (xs.map V.int).length (xs.map V.int).length hi - HT.sIx (xs.map V.int).length 0 lo), ?_, ?_⟩
  · unfold cutV
    rw [List.map_take, List.map_drop]
  · simp only [List.length_take, List.length_drop, List.length_map]
    omega
theorem at_len {α : Type} {xs : List α} {k : Nat} (h : k < xs.length) : ∃ x, xs[k]? = some x := ⟨xs[k], List.getElem?_eq_getElem h⟩
def HasFn (P : Program) (w : World) (K : PySem.W.Frag) (mg : Str → Option Value) (base : Heap) (k : Nat) (x : Str) (st : Stmt) (ps : List Str) (sp : Sp) : Prop := ∃ (f : Addr) (fd : FuncData), IsDef K mg x st ps f fd ∧ FnOk P w K mg base CX0 k f fd ps sp
def spMark (K : PySem.W.Frag) : Sp := fun vs H Q _ => ∃ (c : Addr) (ns : List Int) (count span : Nat), vs = [.ref c, .int count, .int span] ∧ SqL K H c (ns.map V.int) ∧ ns.length ≤ 1000 ∧ count ≤ 1000 ∧ 1 ≤ span ∧ span ≤ 1000 ∧
  ∀ (l : Addr) (rs : List Addr) (H' : Hp), New H l rs → rs.length = count → Tab H' l rs (rowB (grid ns count span ns.length) span) → Same H H' → Q (.ref l) H'
def spLaid : Sp := fun vs H Q _ => ∃ (a m : Addr) (rs : List Addr) (g : Nat → Nat → Bool) (zs : List Str), vs = [.ref a, .ref m] ∧ Tab H a rs (rowB g zs.length) ∧ rs.length ≤ 1000 ∧ H m = some (.lst (zs.map V.str)) ∧ zs.length ≤ 1000 ∧
  ∀ (l : Addr) (qs : List Addr) (H' : Hp), New H l qs → qs.length = rs.length → Tab H' l qs (fun p => (pick (g p) zs zs.length).map V.str) → Same H H' → Q (.ref l) H'
def spCopies : Sp := fun vs H Q _ => ∃ (a : Addr) (rs : List Addr) (X : Nat → List V), vs = [.ref a] ∧ Tab H a rs X ∧ rs.length ≤ 1000 ∧
  ∀ (l : Addr) (qs : List Addr) (H' : Hp), New H l qs → qs.length = rs.length → Tab H' l qs X → Same H H' → Q (.ref l) H'
def spAllSame : Sp := fun vs H Q _ => ∃ (a b : Addr) (rs ts : List Addr) (X Y : Nat → List Str), vs = [.ref a, .ref b] ∧ Tab H a rs (fun p => (X p).map V.str) ∧ Tab H b ts (fun p => (Y p).map V.str) ∧ (∀ p, (Y p).length ≤ 100000) ∧ ts.length ≤ 1000 ∧
  ∀ r : Bool, (r = true ↔ rs.length = ts.length ∧ ∀ p, p < ts.length → X p = Y p) → Q (.bl r) H
def spRoom (K : PySem.W.Frag) : Sp := fun vs H Q _ => ∃ (a : Addr) (ns : List Int) (m b : Int), vs = [.ref a, .int m, .int b] ∧ SqL K H a (ns.map V.int) ∧ ns.length ≤ 63 ∧ Q (.int m) H
end LB
end
section
namespace LB
open PySem L2 CM
def prod (xs ys : List Str) : List (Str × Str) := xs.flatMap fun x => ys.map fun y => (x, y)
theorem prod_nil (ys : List Str) : prod [] ys = [] := rfl
theorem prod_cons (x : Str) (xs ys : List Str) : prod (x :: xs) ys = ys.map (fun y => (x, y)) ++ prod xs ys := rfl
theorem prod_len : ∀ xs ys : List Str, (prod xs ys).length = xs.length * ys.length
  | [], ys => by rw [prod_nil, List.length_nil, List.length_nil, Nat.zero_mul]
  | x :: xs, ys => by rw [prod_cons, List.length_append, List.length_map, prod_len xs ys, List.length_cons, Nat.succ_mul, Nat.add_comm]
theorem in_strs {x : Str} {xs : List Str} : inV (V.str x) (xs.map V.str) = decide (x ∈ xs) := by
  rw [Bool.eq_iff_iff, decide_eq_true_iff]
  unfold inV
  rw [List.any_map, List.any_eq_true]
  constructor
  · rintro ⟨y, hy, e⟩
    have e2 : eqV (V.str y) (V.str x) = true := e
    have : y = x := by simpa [eqV] using e2
    exact this ▸ hy
  · intro h
    refine ⟨x, h, ?_⟩
    show eqV (V.str x) (V.str x) = true
    simp [eqV]
structure PairsAt (H : Hp) (ts : List Addr) (P : List (Str × Str)) : Prop where
  len : ts.length = P.length
  at_ : ∀ (i : Nat) (t : Addr) (p : Str × Str), ts[i]? = some t → P[i]? = some p → H t = some (.tup [V.str p.1, V.str p.2])
def spPairs : Sp := fun vs H Q _ => ∃ (a b : Addr) (xs ys : List Str), vs = [.ref a, .ref b] ∧ H a = some (.lst (xs.map V.str)) ∧ H b = some (.lst (ys.map V.str)) ∧ Rising xs ∧ Rising ys ∧ xs.length ≤ 110 ∧ ys.length ≤ 110 ∧
  ∀ (l : Addr) (ts : List Addr) (H' : Hp), PairsAt H' ts (prod xs ys) → H l = none → H' l = some (.lst (ts.map V.ref)) → Same H H' → Q (.ref l) H'
end LB
end
section
namespace SL
open PySem PySem.SetTable
def go (x : Nat) : Nat → Nat
  | 0 => x
  | t + 1 => 5 * go x t + 1
theorem go_add (x a : Nat) : ∀ b, go x (a + b) = go (go x a) b
  | 0 => rfl
  | b + 1 => by
    show 5 * go x (a + b) + 1 = 5 * go (go x a) b + 1
    rw [go_add x a b]
theorem go_is (x : Nat) : ∀ t, 4 * go x t + 1 = 5 ^ t * (4 * x + 1)
  | 0 => by simp [go]
  | t + 1 => by
    have := go_is x t
    have e : 4 * go x (t + 1) + 1 = 5 * (4 * go x t + 1) := by
      show 4 * (5 * go x t + 1) + 1 = _
      omega
    rw [e, this, Nat.pow_succ, Nat.mul_comm (5 ^ t) 5, Nat.mul_assoc]
theorem five_pow : ∀ k : Nat, ∃ u, 5 ^ (2 ^ k) = 1 + 4 * (2 ^ k * (2 * u + 1))
  | 0 => ⟨0, by decide⟩
  | k + 1 => by
    obtain ⟨u, h⟩ := five_pow k
    have e : 5 ^ (2 ^ (k + 1)) = 5 ^ (2 ^ k) * 5 ^ (2 ^ k) := by rw [Nat.pow_succ, Nat.mul_two, Nat.pow_add]
    refine ⟨u + (2 ^ k * (2 * u + 1)) * (2 * u + 1), ?_⟩
    rw [e, h, Nat.pow_succ]
    generalize hm : 2 ^ k = p
    generalize hq : 2 * u + 1 = q
    have e2 : 2 * (u + p * q * q) + 1 = q * (1 + 2 * (p * q)) := by
      rw [Nat.mul_add, ← hq]
      have : q * (1 + 2 * (p * q)) = q + 2 * (p * q * q) := by
        rw [Nat.mul_add, Nat.mul_one]
        congr 1
        rw [← Nat.mul_assoc, Nat.mul_comm q 2, Nat.mul_assoc, Nat.mul_comm q (p * q)]
      rw [hq, this]
      omega
    rw [e2]
    have e3 : (1 + 4 * (p * q)) * (1 + 4 * (p * q)) = 1 + 8 * (p * q) * (1 + 2 * (p * q)) := by
      generalize p * q = m
      rw [Nat.add_mul, Nat.mul_add, Nat.mul_add]
      have : 4 * m * (4 * m) = 16 * (m * m) := by
        rw [Nat.mul_assoc, Nat.mul_comm m (4 * m), Nat.mul_assoc, ← Nat.mul_assoc]
      have h2 : 8 * m * (2 * m) = 16 * (m * m) := by
        rw [Nat.mul_assoc, Nat.mul_comm m (2 * m), Nat.mul_assoc, ← Nat.mul_assoc]
      rw [this, Nat.mul_add (8 * m), h2]
      omega
    rw [e3]
    have e4 : 4 * (p * 2 * (q * (1 + 2 * (p * q)))) = 8 * (p * q) * (1 + 2 * (p * q)) := by
      rw [← Nat.mul_assoc (p * 2) q, Nat.mul_comm p 2, Nat.mul_assoc 2 p q, ← Nat.mul_assoc 4, ← Nat.mul_assoc 4]
    rw [e4]
theorem go_round (x k : Nat) : ∃ v, go x (2 ^ k) = x + 2 ^ k + 2 ^ (k + 1) * v := by
  obtain ⟨u, h⟩ := five_pow k
  have g := go_is x (2 ^ k)
  rw [h] at g
  generalize hp : 2 ^ k = p at *
  refine ⟨u + 2 * x * (2 * u + 1), ?_⟩
  rw [Nat.pow_succ, hp]
  have e : (1 + 4 * (p * (2 * u + 1))) * (4 * x + 1) = 4 * x + 1 + 4 * (p * (2 * u + 1) * (4 * x + 1)) := by
    rw [Nat.add_mul, Nat.one_mul, Nat.mul_assoc]
  rw [e] at g
  have g2 : go x p = x + p * (2 * u + 1) * (4 * x + 1) := by omega
  rw [g2, Nat.mul_assoc p, Nat.mul_assoc p 2, Nat.add_assoc]
  congr 1
  have e5 : (2 * u + 1) * (4 * x + 1) = 1 + 2 * (u + 2 * x * (2 * u + 1)) := by
    rw [Nat.mul_add, Nat.mul_one, Nat.mul_add 2]
    have : (2 * u + 1) * (4 * x) = 2 * (2 * x * (2 * u + 1)) := by
      rw [Nat.mul_comm, ← Nat.mul_assoc 2 (2 * x), ← Nat.mul_assoc 2 2]
    rw [this]
    omega
  rw [e5, Nat.mul_add, Nat.mul_one]
theorem go_hits (x j : Nat) : ∀ k, ∃ t, t < 2 ^ k ∧ go x t % 2 ^ k = j % 2 ^ k
  | 0 => ⟨0, by decide, by simp [Nat.mod_one]⟩
  | k + 1 => by
    obtain ⟨t, ht, e⟩ := go_hits x j k
    have h2 : 2 ^ (k + 1) = 2 * 2 ^ k := by rw [Nat.pow_succ, Nat.mul_comm]
    have hp : 0 < 2 ^ k := Nat.pos_of_ne_zero (by simp)
    have two : ∀ y : Nat, y % 2 ^ (k + 1) = y % 2 ^ k ∨ y % 2 ^ (k + 1) = y % 2 ^ k + 2 ^ k := fun y => by
      have a := Nat.mod_mod_of_dvd y (show 2 ^ k ∣ 2 ^ (k + 1) from ⟨2, by rw [Nat.pow_succ]⟩)
      have b : y % 2 ^ (k + 1) < 2 ^ (k + 1) := Nat.mod_lt _ (by rw [h2]; omega)
      generalize y % 2 ^ (k + 1) = z at *
      rw [← a]
      by_cases c : z < 2 ^ k
      · left; rw [Nat.mod_eq_of_lt c]
      · right
        rw [Nat.mod_eq_sub_mod (by omega), Nat.mod_eq_of_lt (by omega)]
        omega
    by_cases c : go x t % 2 ^ (k + 1) = j % 2 ^ (k + 1)
    · exact ⟨t, by omega, c⟩
    · refine ⟨t + 2 ^ k, by omega, ?_⟩
      obtain ⟨v, hv⟩ := go_round (go x t) k
      rw [go_add, hv, Nat.add_mul_mod_self_left]
      have q : (go x t + 2 ^ k) % 2 ^ (k + 1) = (go x t % 2 ^ (k + 1) + 2 ^ k) % 2 ^ (k + 1) := by rw [Nat.mod_add_mod]
      rw [q]
      have l1 : go x t % 2 ^ k < 2 ^ k := Nat.mod_lt _ hp
      rcases two (go x t) with a | a <;> rcases two j with b | b
      · exact absurd (by rw [a, b, e]) c
      · rw [a, b, e, Nat.mod_eq_of_lt (by omega)]
      · rw [a, b, e, h2]
        have : j % 2 ^ k + 2 ^ k + 2 ^ k = j % 2 ^ k + 2 * 2 ^ k := by omega
        rw [this, Nat.add_mod_right, Nat.mod_eq_of_lt (by omega)]
      · exact absurd (by rw [a, b, e]) c
theorem free_step {mask : Nat} {owner : Array (Option Nat)} (f i p : Nat) : (∃ j, layClean.free mask owner (f + 1) i p = some j ∧ (owner.getD j (some 0)).isNone = true) ∨ (layClean.free mask owner (f + 1) i p = layClean.free mask owner f (leap mask i p).1 (leap mask i p).2 ∧ (owner.getD i (some 0)).isNone = false) := by
  have e : layClean.free mask owner (f + 1) i p = (match (List.range (runEnd mask i + 1 - i)).find? fun k => (owner.getD (i + k) (some 0)).isNone with
      | some k => some (i + k)
      | none => layClean.free mask owner f (leap mask i p).1 (leap mask i p).2) := rfl
  cases q : (List.range (runEnd mask i + 1 - i)).find? fun k => (owner.getD (i + k) (some 0)).isNone with
  | some k =>
    rw [q] at e
    exact .inl ⟨i + k, e, by simpa using List.find?_some q⟩
  | none =>
    rw [q] at e
    refine .inr ⟨e, ?_⟩
    have z := List.find?_eq_none.mp q 0 (by
      rw [List.mem_range]
      unfold runEnd
      split <;> omega)
    have z' : ¬ (owner.getD (i + 0) (some 0)).isNone = true := z
    rw [Nat.add_zero] at z'
    exact Bool.eq_false_iff.mpr z'
theorem free_zero {mask k : Nat} {owner : Array (Option Nat)} (hm : mask + 1 = 2 ^ k) (i : Nat) (hi : i < 2 ^ k) : ∀ (t f : Nat), t < f → (owner.getD (go i t % 2 ^ k) (some 0)).isNone = true →
    ∃ j, layClean.free mask owner f i 0 = some j ∧ (owner.getD j (some 0)).isNone = true := by
  intro t
  induction t generalizing i with
  | zero =>
    intro f hf h
    obtain ⟨f', rfl⟩ : ∃ f', f = f' + 1 := ⟨f - 1, by omega⟩
    rcases free_step (mask := mask) (owner := owner) f' i 0 with q | ⟨_, q⟩
    · exact q
    · rw [show go i 0 = i from rfl, Nat.mod_eq_of_lt hi, q] at h
      cases h
  | succ t ih =>
    intro f hf h
    obtain ⟨f', rfl⟩ : ∃ f', f = f' + 1 := ⟨f - 1, by omega⟩
    rcases free_step (mask := mask) (owner := owner) f' i 0 with q | ⟨e, _⟩
    · exact q
    · have el : leap mask i 0 = ((i * 5 + 1) % 2 ^ k, 0) := by
        unfold leap
        rw [hm]
      rw [el] at e
      rw [e]
      have gm : ∀ (a b t : Nat), a % 2 ^ k = b % 2 ^ k → go a t % 2 ^ k = go b t % 2 ^ k := fun a b t hab => by
        induction t with
        | zero => exact hab
        | succ t ih2 =>
          show (5 * go a t + 1) % 2 ^ k = (5 * go b t + 1) % 2 ^ k
          rw [Nat.add_mod, Nat.mul_mod, ih2, ← Nat.mul_mod, ← Nat.add_mod]
      refine ih ((i * 5 + 1) % 2 ^ k) (Nat.mod_lt _ (by omega)) f' (by omega) ?_
      rw [gm ((i * 5 + 1) % 2 ^ k) (go i 1) t (by
        rw [Nat.mod_mod]
        show _ = (5 * i + 1) % 2 ^ k
        rw [Nat.mul_comm]), ← go_add, Nat.add_comm 1 t]
      exact h
theorem free_some {mask k : Nat} {owner : Array (Option Nat)} (hm : mask + 1 = 2 ^ k) (hf : ∃ j, j < 2 ^ k ∧ (owner.getD j (some 0)).isNone = true) : ∀ (n i p f : Nat), i < 2 ^ k → p < 32 ^ n → n + 2 ^ k ≤ f →
    ∃ j, layClean.free mask owner f i p = some j ∧ (owner.getD j (some 0)).isNone = true := by
  intro n
  induction n with
  | zero =>
    intro i p f hi hp hl
    have : p = 0 := by simpa using hp
    subst this
    obtain ⟨j, hj, h⟩ := hf
    obtain ⟨t, ht, e⟩ := go_hits i j k
    refine free_zero hm i hi t f (by omega) ?_
    rw [e, Nat.mod_eq_of_lt hj]
    exact h
  | succ n ih =>
    intro i p f hi hp hl
    obtain ⟨f', rfl⟩ : ∃ f', f = f' + 1 := ⟨f - 1, by omega⟩
    rcases free_step (mask := mask) (owner := owner) f' i p with q | ⟨e, _⟩
    · exact q
    · rw [e]
      refine ih _ _ f' ?_ ?_ (by omega)
      · unfold leap
        dsimp only
        rw [hm]
        exact Nat.mod_lt _ (by omega)
      · unfold leap
        dsimp only
        rw [Nat.pow_succ] at hp
        exact Nat.div_lt_of_lt_mul (by omega)
theorem bits_lt (h : Int) : bits h < 32 ^ 13 := by
  unfold bits
  have a : 0 ≤ h % (2 ^ 64 : Int) := Int.emod_nonneg _ (by decide)
  have b : h % (2 ^ 64 : Int) < 2 ^ 64 := Int.emod_lt_of_pos _ (by decide)
  have c : (2 ^ 64 : Int) ≤ ((32 ^ 13 : Nat) : Int) := by decide
  omega
def lab (owner : Array (Option Nat)) : List Nat := owner.toList.filterMap id
theorem lab_set {owner : Array (Option Nat)} {j k : Nat} (h : (owner.getD j (some 0)).isNone = true) : (lab (owner.setIfInBounds j (some k))).Perm (lab owner ++ [k]) := by
  have hj : j < owner.size := by
    by_cases c : j < owner.size
    · exact c
    · rw [Array.getD_eq_getD_getElem?, Array.getElem?_eq_none (by omega)] at h
      simp at h
  have hn : owner[j] = none := by
    rw [Array.getD_eq_getD_getElem?, Array.getElem?_eq_getElem hj] at h
    simpa using h
  unfold lab
  rw [Array.toList_setIfInBounds]
  have el : owner.toList[j]? = some none := by
    rw [Array.getElem?_toList, Array.getElem?_eq_getElem hj, hn]
  have hl : j < owner.toList.length := by simpa using hj
  have sp : owner.toList = owner.toList.take j ++ none :: owner.toList.drop (j + 1) := by
    conv => lhs; rw [← List.take_append_drop j owner.toList]
    congr 1
    rw [List.drop_eq_getElem_cons hl]
    congr 1
  rw [List.set_eq_take_append_cons_drop, if_pos hl]
  conv => rhs; rw [sp]
  rw [List.filterMap_append, List.filterMap_append]
  simp only [List.filterMap_cons, id]
  rw [List.append_assoc]
  exact List.Perm.append_left _ (by
    have := List.perm_append_comm (l₁ := [k]) (l₂ := List.filterMap id (List.drop (j + 1) owner.toList))
    simpa using this)
theorem room_of {owner : Array (Option Nat)} {m n : Nat} (hs : owner.size = m) (hp : (lab owner).Perm (List.range n)) (hn : n < m) : ∃ j, j < m ∧ (owner.getD j (some 0)).isNone = true := by
  apply Classical.byContradiction
  intro c
  have all : ∀ x ∈ owner.toList, x.isSome = true := fun x hx => by
    obtain ⟨j, hj⟩ := List.getElem?_of_mem hx
    have hl : j < owner.size := by
      have := (List.getElem?_eq_some_iff.mp hj).1
      simpa using this
    cases x with
    | some y => rfl
    | none =>
      refine absurd ⟨j, by omega, ?_⟩ c
      rw [Array.getElem?_toList] at hj
      rw [Array.getD_eq_getD_getElem?, hj]
      rfl
  have len : (lab owner).length = owner.size := by
    unfold lab
    rw [← Array.length_toList]
    generalize owner.toList = l at all
    induction l with
    | nil => rfl
    | cons x l ih =>
      have hx := all x List.mem_cons_self
      cases x with
      | none => cases hx
      | some y => simp [ih fun z hz => all z (List.mem_cons_of_mem _ hz)]
  have := hp.length_eq
  rw [List.length_range] at this
  omega
theorem fold_ok {mask k : Nat} (hm : mask + 1 = 2 ^ k) : ∀ (hs : List Int) (owner : Array (Option Nat)) (n : Nat), owner.size = mask + 1 → (lab owner).Perm (List.range n) → n + hs.length ≤ mask →
    ∃ o', hs.foldl (fun acc h => do
      let (owner, k) ← acc
      let j ← layClean.free mask owner (turns mask) (bits h % (mask + 1)) (bits h)
      pure (owner.setIfInBounds j (some k), k + 1)) (some (owner, n)) = some (o', n + hs.length) ∧ o'.size = mask + 1 ∧ (lab o').Perm (List.range (n + hs.length))
  | [], owner, n, h1, h2, _ => ⟨owner, rfl, h1, h2⟩
  | h :: hs, owner, n, h1, h2, h3 => by
    rw [List.length_cons] at h3
    obtain ⟨j, e, hj⟩ := free_some (owner := owner) hm (by rw [← hm]; exact room_of h1 h2 (by omega)) 13 (bits h % (mask + 1)) (bits h) (turns mask) (by rw [← hm]; exact Nat.mod_lt _ (by omega)) (bits_lt h) (by unfold turns; omega)
    obtain ⟨o', q1, q2, q3⟩ := fold_ok hm hs (owner.setIfInBounds j (some n)) (n + 1) (by rw [Array.size_setIfInBounds]; exact h1) (by
      rw [List.range_succ]
      exact (lab_set hj).trans (h2.append_right _)) (by omega)
    have en : n + (h :: hs).length = n + 1 + hs.length := by rw [List.length_cons]; omega
    rw [en]
    refine ⟨o', ?_, q2, q3⟩
    rw [List.foldl_cons]
    have st : (do
        let (owner, k) ← some (owner, n)
        let j ← layClean.free mask owner (turns mask) (bits h % (mask + 1)) (bits h)
        pure (owner.setIfInBounds j (some k), k + 1) : Option (Array (Option Nat) × Nat)) = some (owner.setIfInBounds j (some n), n + 1) := by
      show (layClean.free mask owner (turns mask) (bits h % (mask + 1)) (bits h)).bind _ = _
      rw [e]
      rfl
    rw [st]
    exact q1
theorem live_lab {owner : Array (Option Nat)} {m : Nat} (h : owner.size = m) : ((List.range m).filterMap fun j => (owner.getD j none).map (j, ·)).map (·.2) = lab owner := by
  rw [List.map_filterMap]
  unfold lab
  have e : owner.toList = (List.range m).map fun j => owner.getD j none := by
    apply List.ext_getElem?
    intro i
    rw [List.getElem?_map, Array.getElem?_toList]
    by_cases c : i < m
    · rw [List.getElem?_range c, Array.getElem?_eq_getElem (by omega), Option.map_some, Array.getD_eq_getD_getElem?, Array.getElem?_eq_getElem (by omega)]
      rfl
    · rw [Array.getElem?_eq_none (by omega), List.getElem?_eq_none (by simpa using c)]
      rfl
  rw [e, List.filterMap_map]
  congr 1
  funext j
  show Option.map _ (Option.map _ _) = owner.getD j none
  rw [Option.map_map]
  cases owner.getD j none <;> rfl
theorem laid_ok {mask k finger moves : Nat} {led plain : Bool} {hs : Array Int} (hm : mask + 1 = 2 ^ k) (hn : hs.size ≤ mask) :
    ∃ t order, laid mask finger moves led plain hs = some (t, order) ∧ t.mask = mask ∧ t.place.size = hs.size ∧ t.dummies = #[] ∧ t.led = led ∧ t.plain = plain ∧ order.toList.Perm (List.range hs.size) := by
  obtain ⟨o', q1, q2, q3⟩ := fold_ok hm hs.toList (Array.replicate (mask + 1) none) 0 (by simp) (by
    unfold lab
    rw [Array.toList_replicate]
    have : ∀ n, (List.replicate n (none : Option Nat)).filterMap id = [] := fun n => by
      induction n with
      | zero => rfl
      | succ n ih => rw [List.replicate_succ]; simp [ih]
    rw [this]
    exact List.Perm.refl _) (by rw [Array.length_toList]; omega)
  rw [Array.length_toList, Nat.zero_add] at q1 q3
  have lc : layClean mask hs = some o' := by
    unfold layClean
    rw [← Array.foldl_toList]
    have q1' := congrArg (Option.map (·.1)) q1
    exact q1'
  refine ⟨{ mask, place := (((List.range (mask + 1)).filterMap fun j => (o'.getD j none).map (j, ·)).map (·.1)).toArray, dummies := #[], finger, led, moves, plain }, (((List.range (mask + 1)).filterMap fun j => (o'.getD j none).map (j, ·)).map (·.2)).toArray, ?_, rfl, ?_, rfl, rfl, rfl, ?_⟩
  · unfold laid
    rw [lc]
    rfl
  · have l1 := congrArg List.length (live_lab q2)
    have l2 := q3.length_eq
    rw [List.length_range] at l2
    rw [List.length_map] at l1
    show (List.toArray _).size = _
    rw [List.size_toArray, List.length_map]
    omega
  · show ((List.toArray _).toList).Perm _
    rw [live_lab q2]
    exact q3
end SL
end
section
namespace SS
open PySem PySem.Spec PyProof.Rows
def Has (prog : Program) (w : World) (h : Heap) (a : Addr) (p : Str → Prop) (n : Nat) : Prop := ∃ o es ep t, h.get? a = some o ∧ At prog w o es ep t ∧ (∀ y, y ∈ keys es ↔ p y) ∧ es.size ≤ n
def Now (prog : Program) (w : World) (s₀ : Shared) (r : Addr) (p : Str → Prop) (n : Nat) (s : Shared) : Prop := ∃ h', s = { s₀ with heap := h' } ∧ Has prog w h' r p n ∧ ∀ b o, b ≠ r → s₀.heap.get? b = some o → h'.get? b = some o
theorem Has.mono {prog : Program} {w : World} {h : Heap} {a : Addr} {p q : Str → Prop} {n m : Nat} (H : Has prog w h a p n) (e : ∀ y, p y ↔ q y) (l : n ≤ m) : Has prog w h a q m := by
  obtain ⟨o, es, ep, t, ho, S, k, z⟩ := H
  exact ⟨o, es, ep, t, ho, S, fun y => (k y).trans (e y), by omega⟩
theorem Now.mono {prog : Program} {w : World} {s₀ s : Shared} {r : Addr} {p q : Str → Prop} {n m : Nat} (H : Now prog w s₀ r p n s) (e : ∀ y, p y ↔ q y) (l : n ≤ m) : Now prog w s₀ r q m s := by
  obtain ⟨h', e1, h1, k⟩ := H
  exact ⟨h', e1, h1.mono e l, k⟩
theorem Now.trans {prog : Program} {w : World} {s₀ s₁ s₂ : Shared} {r : Addr} {p q : Str → Prop} {n m : Nat} (H : Now prog w s₀ r p n s₁) (H' : Now prog w s₁ r q m s₂) : Now prog w s₀ r q m s₂ := by
  obtain ⟨h1, rfl, _, k1⟩ := H
  obtain ⟨h2, rfl, q2, k2⟩ := H'
  exact ⟨h2, rfl, q2, fun b o hb e => k2 b o hb (k1 b o hb e)⟩
theorem Now.has {prog : Program} {w : World} {s₀ s : Shared} {r : Addr} {p : Str → Prop} {n : Nat} (H : Now prog w s₀ r p n s) : Has prog w s.heap r p n := by
  obtain ⟨h1, rfl, q, _⟩ := H
  exact q
theorem Now.keep {prog : Program} {w : World} {s₀ s : Shared} {r : Addr} {p : Str → Prop} {n : Nat} (H : Now prog w s₀ r p n s) {b : Addr} {o : Obj} (hb : b ≠ r) (e : s₀.heap.get? b = some o) : s.heap.get? b = some o := by
  obtain ⟨h1, rfl, _, k⟩ := H
  exact k b o hb e
theorem Has.now {prog : Program} {w : World} {s : Shared} {r : Addr} {p : Str → Prop} {n : Nat} (H : Has prog w s.heap r p n) : Now prog w s r p n s := ⟨s.heap, rfl, H, fun _ _ _ e => e⟩
theorem erased_list {α : Type} (xs : Array α) (p : Nat) : (SetTable.eraseAt xs p).toList = xs.toList.eraseIdx p := by
  unfold SetTable.eraseAt
  rw [List.eraseIdx_eq_take_drop_succ]
  simp
  rw [List.take_of_length_le (by simp)]
theorem fits_iff {t : SetTable} {n : Nat} : t.fits n = true ↔ t.place.size = n ∧ t.fill ≤ t.mask := by
  unfold SetTable.fits
  simp
theorem drop_fits {t : SetTable} {n j : Nat} (h : t.fits n = true) (hj : j < n) : (t.drop j).fits (n - 1) = true ∧ (t.drop j).led = t.led ∧ (t.drop j).plain = t.plain := by
  obtain ⟨h1, h2⟩ := fits_iff.mp h
  unfold SetTable.drop
  have e : t.place[j]? = some t.place[j] := Array.getElem?_eq_getElem (by omega)
  rw [e]
  refine ⟨fits_iff.mpr ⟨?_, ?_⟩, rfl, rfl⟩
  · show (SetTable.eraseAt t.place j).size = _
    rw [← Array.length_toList, erased_list, List.length_eraseIdx_of_lt (by simpa using (by omega : j < t.place.size)), Array.length_toList, h1]
  · show (SetTable.eraseAt t.place j).size + (SetTable.insertAt t.dummies _ _).size ≤ t.mask
    have a : (SetTable.eraseAt t.place j).size = t.place.size - 1 := by
      rw [← Array.length_toList, erased_list, List.length_eraseIdx_of_lt (by simpa using (by omega : j < t.place.size)), Array.length_toList]
    have b : ∀ q x, (SetTable.insertAt t.dummies q x).size = t.dummies.size + 1 := fun q x => by
      have := (SetTable.insertAt_perm t.dummies q x).length_eq
      simpa using this
    rw [a, b]
    unfold SetTable.fill at h2
    omega
section
variable {prog : Program} {w : World} {A : Around} {E : Value → Shared → Prop} {s : Shared} {a r : Addr} {p : Str → Prop} {n : Nat} {x : Str} {u : Tok}
theorem addN (H : Has prog w s.heap r p n) (hn : n + 1 < scanBound) : wpAny (model prog w) A (setAddHashed r (.str x u) ((PySem.strKind prog w).hash x)) (fun _ s' => Now prog w s r (fun y => p y ∨ y = x) (n + 1) s') E s := by
  obtain ⟨o, es, ep, t, ho, S, m, z⟩ := H
  exact addH ho S (by omega) fun b h' o' es' ep' t' sb g A' m' z' => ⟨h', rfl, ⟨o', es', ep', t', g, A', fun y => by rw [m', m], by omega⟩, fun b ob hb e => (sb.2 b hb).trans e⟩
theorem findN {Q : Option Nat → Shared → Prop} (H : Has prog w s.heap a p n) (h : ∀ ro : Option Nat, (ro.isSome = true ↔ p x) → Q ro s) : wpAny (model prog w) A (setFind a (.str x u) ((PySem.strKind prog w).hash x)) Q E s := by
  obtain ⟨o, es, ep, t, ho, S, m, z⟩ := H
  refine wpAny_setFind_of (knd := PySem.strKind prog w) (S := fun k => decide (k ∈ keys es)) (n := es.size) (is_iff.mpr rfl) rfl ⟨o, es, ep, t, ho, S.exact, S.data, S.els, fun k => by rw [decide_eq_true_iff]; exact mem_keys S.els k, S.room, S.fits, rfl⟩ fun ro hr => h ro ?_
  rw [hr, decide_eq_true_iff, m]
theorem discardN {Q : Bool → Shared → Prop} (H : Has prog w s.heap a p n) (h : ∀ (b : Bool) (s' : Shared), (b = true ↔ p x) → Now prog w s a (fun y => p y ∧ y ≠ x) n s' → Q b s') : wpAny (model prog w) A (setDiscardHashed a (.str x u) ((PySem.strKind prog w).hash x)) Q E s := by
  obtain ⟨o, es, ep, t, ho, S, m, z⟩ := H
  have hkey : (PySem.strKind prog w).is x (.str x u) = true := is_iff.mpr rfl
  unfold setDiscardHashed setFind setFindIn
  refine wpAny_bind (wpAny_bind (setState_at ho S ?_))
  dsimp only
  rw [byScan_of (knd := PySem.strKind prog w) rfl S.room S.els]
  simp only [↓reduceIte]
  refine wpAny_bind (wpAny_rule ?_)
  refine wpAny_bind (wpAny_setScan_of hkey ho S.data S.fits S.els ?_)
  cases hf : List.findIdx? (fun e => (PySem.strKind prog w).is x e.2) es.toList with
  | none =>
    dsimp only
    have hx : ¬ x ∈ keys es := fun z => by
      obtain ⟨e, he, q⟩ := (mem_keys S.els x).mp z
      have := List.findIdx?_eq_none_iff.mp hf e he
      rw [q] at this
      cases this
    refine wpAny_pure (wpAny_pure (h false s ⟨fun q => (by cases q), fun q => absurd ((m x).mpr q) hx⟩ (Has.now ⟨o, es, ep, t, ho, S, fun y => ?_, z⟩)))
    rw [m y]
    exact ⟨fun q => ⟨q, fun e => hx (by rw [← e]; exact (m y).mpr q)⟩, fun q => q.1⟩
  | some j =>
    dsimp only
    obtain ⟨hj, hpj, _⟩ := List.findIdx?_eq_some_iff_getElem.mp hf
    have hjs : j < es.size := by simpa using hj
    have hx : x ∈ keys es := (mem_keys S.els x).mpr ⟨_, List.getElem_mem hj, hpj⟩
    rw [Nat.zero_add]
    refine wpAny_pure ?_
    dsimp only
    refine wpAny_bind (setState_at ho S ?_)
    dsimp only
    obtain ⟨f1, f2, f3⟩ := drop_fits (j := j) S.fits hjs
    have el : (SetTable.eraseAt es j).toList = es.toList.eraseIdx j := erased_list es j
    have sz : (SetTable.eraseAt es j).size = es.size - 1 := by rw [← Array.length_toList, el, List.length_eraseIdx_of_lt hj, Array.length_toList]
    refine wpAny_bind (wpAny_storeSet_of ho S.data ?_ (by have := fits_of_scanBound S.room; omega))
    have g1 := get_put (es' := SetTable.eraseAt es j) (t' := t.drop j) ho S.data
    have pe : (es.toList[j] :: es.toList.eraseIdx j).Perm es.toList := erase_perm hj
    have kx : strOf es.toList[j].2 = x := by
      obtain ⟨y, v, q⟩ := els_str S.els _ (List.getElem_mem hj)
      rw [q] at hpj ⊢
      exact (is_iff.mp hpj).symm
    have pk : (x :: keys (SetTable.eraseAt es j)).Perm (keys es) := by
      have := pe.map fun e => strOf e.2
      rw [List.map_cons, kx] at this
      unfold keys
      rw [el]
      exact this
    have nd := pk.nodup_iff.mpr S.nd
    refine wpAny_bind (wpAny_point (wpAny_pure (h true _ ⟨fun _ => (m x).mp hx, fun _ => rfl⟩ ⟨_, rfl, ⟨_, _, _, _, g1, ⟨S.exact, rfl, ?_, (List.nodup_cons.mp nd).2, by have := S.room; omega, by rw [sz]; exact f1, fun q => f2.trans (S.led q), fun _ => f3.trans (S.plain (by omega))⟩, fun y => ?_, by omega⟩, fun b ob hb e => (Heap.get?_update_other _ _ (Ne.symm hb)).trans e⟩)))
    · intro e he
      rw [el] at he
      exact S.els e (pe.mem_iff.mp (List.mem_cons_of_mem _ he))
    · show _ ↔ p y ∧ y ≠ x
      rw [← m y, ← pk.mem_iff, List.mem_cons]
      constructor
      · intro q
        exact ⟨.inr q, fun e => (List.nodup_cons.mp nd).1 (by rw [← e]; exact q)⟩
      · rintro ⟨q, q2⟩
        exact q.resolve_left q2
theorem above_go (n : Nat) : ∀ (fuel k : Nat), n < 2 ^ (k + fuel) → ∃ m, SetTable.sizeAbove.go n fuel (2 ^ k) = 2 ^ m ∧ n < 2 ^ m ∧ 2 ^ m ≤ max (2 ^ k) (2 * n)
  | 0, k, h => ⟨k, rfl, h, Nat.le_max_left _ _⟩
  | fuel + 1, k, h => by
    by_cases c : 2 ^ k ≤ n
    · obtain ⟨m, e, l1, l2⟩ := above_go n fuel (k + 1) (by rw [Nat.add_assoc, Nat.add_comm 1 fuel]; exact h)
      refine ⟨m, ?_, l1, ?_⟩
      · show (if 2 ^ k ≤ n then SetTable.sizeAbove.go n fuel (2 ^ k * 2) else 2 ^ k) = _
        rw [if_pos c, ← Nat.pow_succ]
        exact e
      · have : 2 ^ (k + 1) ≤ 2 * n := by rw [Nat.pow_succ]; omega
        omega
    · refine ⟨k, ?_, by omega, Nat.le_max_left _ _⟩
      show (if 2 ^ k ≤ n then SetTable.sizeAbove.go n fuel (2 ^ k * 2) else 2 ^ k) = _
      rw [if_neg c]
theorem above {n : Nat} (h : n ≤ 100000) : ∃ m, SetTable.sizeAbove n = 2 ^ m ∧ n < 2 ^ m ∧ 2 ^ m ≤ 200008 := by
  obtain ⟨m, e, l1, l2⟩ := above_go n 64 3 (Nat.lt_of_le_of_lt h (by decide))
  exact ⟨m, e, l1, by omega⟩
theorem order_perm {es : Array (Int × Value)} {order : Array Nat} (h : order.toList.Perm (List.range es.size)) : (order.filterMap (es[·]?)).toList.Perm es.toList := by
  rw [Array.toList_filterMap]
  refine (h.filterMap _).trans (List.Perm.of_eq ?_)
  have := range_at es.toList
  rw [Array.length_toList] at this
  rw [← this]
  congr 1
  funext i
  exact (Array.getElem?_toList).symm
theorem relaid_ok {t : SetTable} {hs : Array Int} {wanted : Nat} (h1 : hs.size ≤ wanted) (h2 : wanted ≤ 100000) : ∃ t' order k, t.relaid hs wanted = some (t', order) ∧ t'.mask + 1 = 2 ^ k ∧ wanted ≤ t'.mask ∧ t'.place.size = hs.size ∧ t'.dummies = #[] ∧ t'.led = t.led ∧ t'.plain = t.plain ∧ order.toList.Perm (List.range hs.size) := by
  obtain ⟨m, e, l1, l2⟩ := above h2
  have hm : SetTable.sizeAbove wanted - 1 + 1 = 2 ^ m := by rw [e]; omega
  obtain ⟨t', order, q1, q2, q3, q4, q5, q6, q7⟩ := SL.laid_ok (mask := SetTable.sizeAbove wanted - 1) (finger := t.finger) (moves := t.movedTo (SetTable.sizeAbove wanted - 1)) (led := t.led) (plain := t.plain) (hs := hs) hm (by omega)
  exact ⟨t', order, m, q1, by rw [q2]; exact hm, by rw [q2]; omega, q3, q4, q5, q6, q7⟩
theorem relayN {wanted : Nat} {Q : Unit → Shared → Prop} (H : Has prog w s.heap a p n) (h1 : n ≤ wanted) (h2 : wanted ≤ 100000) (h : ∀ s', Now prog w s a p n s' → Q () s') : wpAny (model prog w) A (setRelay a wanted) Q E s := by
  obtain ⟨o, es, ep, t, ho, S, m, z⟩ := H
  obtain ⟨t', order, k, q1, q2, q3, q4, q5, q6, q7, q8⟩ := relaid_ok (t := t) (hs := es.map (·.1)) (wanted := wanted) (by rw [Array.size_map]; omega) h2
  rw [Array.size_map] at q4 q8
  have op := order_perm q8
  have sz : (order.filterMap (es[·]?)).size = es.size := by rw [← Array.length_toList, op.length_eq, Array.length_toList]
  unfold setRelay
  refine wpAny_bind (setState_at ho S ?_)
  dsimp only
  obtain ⟨m', e, l1, l2⟩ := above h2
  have hsl : sizeLine = 16777216 := sizeLine_eq
  rw [if_neg (by rw [e]; omega), q1]
  refine wpAny_bind (show wpAny _ _ (if ((order.filterMap (es[·]?)).size != es.size) = true then unsupported "internal:set-table-lost-an-element" else pure (order.filterMap (es[·]?), t')) _ _ _ from ?_)
  rw [if_neg (by rw [sz]; simp)]
  refine wpAny_pure ?_
  dsimp only
  have rm := S.room
  have rb : scanBound = 4096 := rfl
  refine wpAny_storeSet_of ho S.data ?_ (by rw [sz]; exact fits_of_scanBound rm)
  have g1 := get_put (es' := order.filterMap (es[·]?)) (t' := t') ho S.data
  refine h _ ⟨_, rfl, ⟨_, _, _, _, g1, ⟨S.exact, rfl, S.els.perm op, (keys_perm op).nodup_iff.mpr S.nd, by rw [sz]; exact rm, fits_iff.mpr ⟨by rw [q4, sz], ?_⟩, fun q => q6.trans (S.led q), fun q => q7.trans (S.plain (by rw [← sz]; exact q))⟩, fun y => by rw [(keys_perm op).mem_iff]; exact m y, by omega⟩, fun b ob hb e => (Heap.get?_update_other _ _ (Ne.symm hb)).trans e⟩
  unfold SetTable.fill
  rw [q5, q4]
  show es.size + 0 ≤ t'.mask
  omega
theorem quietN (l : List Addr) (h : ∀ b ∈ l, ∃ p n, Has prog w s.heap b p n) {Q : Bool → Shared → Prop} (hQ : Q true s) : wpAny (model prog w) A (setsQuiet l) Q E s := by
  unfold setsQuiet
  refine wpAny_bind (wpAny_forIn_list _ (fun rest b s' => b = ⟨none, PUnit.unit⟩ ∧ s' = s ∧ ∀ c ∈ rest, ∃ p n, Has prog w s.heap c p n) _ ?_ ?_ l _ ⟨rfl, rfl, h⟩)
  · rintro c rest b s' ⟨rfl, rfl, hc⟩
    obtain ⟨p, n, o, es, ep, t, ho, S, m, z⟩ := hc c List.mem_cons_self
    refine wpAny_bind (wpAny_setEntries_of ho S.data S.fits ?_)
    refine wpAny_bind (wpAny_forIn_array' _ (fun rest b s'' => b = ⟨none, PUnit.unit⟩ ∧ s'' = s' ∧ ElemsOf (PySem.strKind prog w) rest) _ ?_ ?_ es _ ⟨rfl, rfl, S.els⟩)
    · rintro ⟨k, v⟩ rest b s'' ⟨rfl, rfl, he⟩
      obtain ⟨y, u, q⟩ := els_str he _ List.mem_cons_self
      dsimp only at q
      subst q
      dsimp only
      refine wpAny_pure ⟨rfl, rfl, he.tail⟩
    · rintro b s'' ⟨rfl, rfl, _⟩
      dsimp only
      exact wpAny_pure ⟨rfl, rfl, fun d hd => hc d (List.mem_cons_of_mem _ hd)⟩
  · rintro b s' ⟨rfl, rfl, _⟩
    dsimp only
    exact wpAny_pure hQ
theorem walk_plain {o : Obj} {es : Array (Int × Value)} {ep : Nat} {t : SetTable} (ho : s.heap.get? a = some o) (S : At prog w o es ep t) (hb : w.params.followText "set-order" = true ∨ es.size ≤ 1)
    {Q : Array (Int × Value) → Shared → Prop} (h : ∀ arr : Array (Int × Value), arr.toList.Perm es.toList → Q arr s) : wpAny (model prog w) A (setWalk a) Q E s := by
  unfold setWalk
  refine wpAny_bind (setState_at ho S ?_)
  dsimp only
  refine wpAny_bind (byText_at ?_)
  cases hx : w.params.followText "set-order" with
  | true =>
    simp only [if_true]
    exact wpAny_bind (wpAny_askSetting (wpAny_pure (h _ (pick_perm _ es))))
  | false =>
    simp only [Bool.false_eq_true, if_false]
    have hn : es.size ≤ 1 := hb.resolve_left (by rw [hx]; exact Bool.false_ne_true)
    refine wpAny_ite ?_
    split
    · rename_i z
      have z' : (!t.plain && decide (es.size > 1)) = true := z
      have : decide (es.size > 1) = false := decide_eq_false (by omega)
      rw [this, Bool.and_false] at z'
      cases z'
    · refine wpAny_bind ?_
      show wpAny _ _ (if (!t.led && decide (es.size > 1)) = true then unsupported "set:maker-not-led" else pure ()) _ _ s
      rw [if_neg (by rw [S.led hx]; simp)]
      exact wpAny_pure (wpAny_pure (h es (List.Perm.refl _)))
theorem walkN {others : List Addr} {o : Obj} {es : Array (Int × Value)} {ep : Nat} {t : SetTable} (ho : s.heap.get? a = some o) (S : At prog w o es ep t) (hoth : ∀ b ∈ others, ∃ p n, Has prog w s.heap b p n)
    {Q : Array (Int × Value) → Shared → Prop} (h : ∀ arr : Array (Int × Value), arr.toList.Perm es.toList → Q arr s) : wpAny (model prog w) A (setWalkUnseen a others none) Q E s := by
  unfold setWalkUnseen
  refine wpAny_bind (setState_at ho S ?_)
  dsimp only
  refine wpAny_bind (byText_at ?_)
  refine wpAny_ite ?_
  split
  · rename_i z
    refine walk_plain ho S ?_ h
    simp only [Bool.or_eq_true, Bool.and_eq_true, decide_eq_true_eq] at z
    rcases z with (z | ⟨_, z⟩) | z
    · exact .inl z
    · refine .inr ?_
      by_cases c : es.size = 0
      · omega
      · rw [S.plain c] at z
        cases z
    · exact .inr z
  · refine wpAny_bind (quietN _ (fun b hb => ?_) ?_)
    · rcases List.mem_cons.mp hb with rfl | hb
      · exact ⟨_, _, o, es, ep, t, ho, S, fun y => Iff.rfl, Nat.le_refl _⟩
      · exact hoth b hb
    · simp only [Bool.not_true, Bool.false_eq_true, if_false]
      refine wpAny_bind (wpAny_rule ?_)
      exact wpAny_pure (h es (List.Perm.refl _))
theorem walkF {others : List Addr} {f : Addr} {o : Obj} {es : Array (Int × Value)} {ep : Nat} {t : SetTable} (ho : s.heap.get? a = some o) (S : At prog w o es ep t) (hoth : ∀ b ∈ others, ∃ p n, Has prog w s.heap b p n) (F : Has prog w s.heap f p n)
    {Q : Array (Int × Value) → Shared → Prop} (h : ∀ (arr : Array (Int × Value)) (s' : Shared), arr.toList.Perm es.toList → Now prog w s f p n s' → Q arr s') : wpAny (model prog w) A (setWalkUnseen a others (some f)) Q E s := by
  unfold setWalkUnseen
  refine wpAny_bind (setState_at ho S ?_)
  dsimp only
  refine wpAny_bind (byText_at ?_)
  refine wpAny_ite ?_
  split
  · rename_i z
    refine walk_plain ho S ?_ fun arr q => h arr s q F.now
    simp only [Bool.or_eq_true, Bool.and_eq_true, decide_eq_true_eq] at z
    rcases z with (z | ⟨_, z⟩) | z
    · exact .inl z
    · refine .inr ?_
      by_cases c : es.size = 0
      · omega
      · rw [S.plain c] at z
        cases z
    · exact .inr z
  · rename_i zz
    simp only [Bool.or_eq_true, Bool.and_eq_true, decide_eq_true_eq] at zz
    have hb : w.params.followText "set-order" = false := by
      cases q : w.params.followText "set-order" with
      | true => exact absurd (.inl (.inl q)) zz
      | false => rfl
    have hn : ¬ es.size ≤ 1 := fun q => zz (.inr q)
    refine wpAny_bind (quietN _ (fun b hb => ?_) ?_)
    · rcases List.mem_cons.mp hb with rfl | hb
      · exact ⟨_, _, o, es, ep, t, ho, S, fun y => Iff.rfl, Nat.le_refl _⟩
      · exact hoth b hb
    · simp only [Bool.not_true, Bool.false_eq_true, if_false]
      refine wpAny_bind (wpAny_rule ?_)
      obtain ⟨of, ef, epf, tf, hof, Sf, mf, zf⟩ := F
      refine wpAny_bind (setState_at hof Sf ?_)
      dsimp only
      refine wpAny_ite ?_
      split
      · refine wpAny_bind (wpAny_storeSet_of hof Sf.data ?_ (fits_of_scanBound Sf.room))
        refine wpAny_pure (h es _ (List.Perm.refl _) ⟨_, rfl, ⟨_, ef, _, _, get_put hof Sf.data, ⟨Sf.exact, rfl, Sf.els, Sf.nd, Sf.room, fits_iff.mpr (fits_iff.mp Sf.fits), fun q => ?_, fun q => ?_⟩, mf, zf⟩, fun b ob hb e => (Heap.get?_update_other _ _ (Ne.symm hb)).trans e⟩)
        · show (tf.led && t.led) = true
          rw [Sf.led q, S.led q]
          rfl
        · show (tf.plain && t.plain) = false
          rw [S.plain (by omega), Bool.and_false]
      · exact wpAny_pure (h es s (List.Perm.refl _) ⟨s.heap, rfl, ⟨of, ef, epf, tf, hof, Sf, mf, zf⟩, fun _ _ _ e => e⟩)
variable {q : Str → Prop}
theorem ent_of {e : Int × Value} {l : List (Int × Value)} (h : ElemsOf (PySem.strKind prog w) (e :: l)) : ∃ x u, e = ((PySem.strKind prog w).hash x, .str x u) := by
  obtain ⟨⟨k, hk, hh⟩, _⟩ := h.head
  obtain ⟨u, hu⟩ := Value.isStrOf_shape (x := k) (v := e.2) hk
  exact ⟨k, u, by rw [← hu, ← hh]⟩
theorem loopN {arr : Array (Int × Value)} {f : Int × Value → PUnit → Sem (ForInStep PUnit)} {Q : PUnit → Shared → Prop} (els : ElemsOf (PySem.strKind prog w) arr.toList) (I : List Str → Shared → Prop)
    (turn : ∀ (done : List Str) (x : Str) (u : Tok) (s : Shared), done.length < arr.size → I done s → wpAny (model prog w) A (f ((PySem.strKind prog w).hash x, .str x u) ⟨⟩) (fun r s' => r = .yield ⟨⟩ ∧ I (done ++ [x]) s') E s)
    (h : I [] s) (fin : ∀ s', I (arr.toList.map fun e => strOf e.2) s' → Q ⟨⟩ s') : wpAny (model prog w) A (forIn arr ⟨⟩ f) Q E s := by
  refine wpAny_forIn_array' f (fun rest b s' => ∃ pre, arr.toList = pre ++ rest ∧ I (pre.map fun e => strOf e.2) s') Q ?_ ?_ arr _ ⟨[], rfl, h⟩
  · rintro e rest b s' ⟨pre, hp, hI⟩
    have els' : ElemsOf (PySem.strKind prog w) (e :: rest) := fun z hz => els z (by rw [hp]; exact List.mem_append_right _ hz)
    obtain ⟨x, u, rfl⟩ := ent_of els'
    refine wpAny_mono (turn (pre.map fun e => strOf e.2) x u s' ?_ hI) (fun r s'' hr => ?_) fun _ _ z => z
    · have := congrArg List.length hp
      rw [List.length_append, List.length_cons, Array.length_toList] at this
      rw [List.length_map]
      omega
    · obtain ⟨rfl, hI'⟩ := hr
      exact ⟨pre ++ [((PySem.strKind prog w).hash x, .str x u)], by rw [hp, List.append_assoc]; rfl, by rw [List.map_append]; exact hI'⟩
  · rintro b s' ⟨pre, hp, hI⟩
    rw [List.append_nil] at hp
    rw [← hp] at hI
    exact fin s' hI
theorem unchangedN {id : String} {o : Obj} {es : Array (Int × Value)} {ep : Nat} {t : SetTable} (ho : s.heap.get? a = some o) (S : At prog w o es ep t) {Q : Unit → Shared → Prop} (h : Q () s) : wpAny (model prog w) A (Builtin.Frozenset.unchanged id a ep) Q E s := by
  unfold Builtin.Frozenset.unchanged
  refine wpAny_bind (wpAny_setEpoch_of ho S.data S.fits ?_)
  rw [if_neg (by simp)]
  exact wpAny_pure h
theorem newN {Q : Value → Shared → Prop} (h : Q (.ref s.heap.objs.size) { s with heap := s.heap.push (fresh w) }) : wpAny (model prog w) A (newSet (.type "set")) Q E s := by
  unfold newSet setsByText
  refine wpAny_bind (wpAny_bind (wpAny_askSetting (wpAny_pure ?_)))
  dsimp only
  simp only [newObj]
  exact wpAny_bind (wpAny_alloc (wpAny_pure h))
theorem baseN {o : Obj} (ho : s.heap.get? a = some o) (hx : o.ExactSet) {Q : Value → Shared → Prop} (h : Q (.type "set") s) : wpAny (model prog w) A (Builtin.Frozenset.baseOf a) Q E s := by
  unfold Builtin.Frozenset.baseOf
  refine wpAny_bind (wpAny_isInstance (T := "set") (b := true) ⟨o, ho, hx.1⟩ sub_set_self ?_)
  exact wpAny_pure h
theorem anyN {o : Obj} (ho : s.heap.get? a = some o) (hx : o.ExactSet) {Q : Bool → Shared → Prop} (h : Q true s) : wpAny (model prog w) A (Builtin.Frozenset.isAnySet (.ref a)) Q E s := by
  unfold Builtin.Frozenset.isAnySet
  show wpAny _ _ (isInstance (.ref a) (.type "set") >>= _) _ _ _
  refine wpAny_bind (wpAny_isInstance (T := "set") (b := true) ⟨o, ho, hx.1⟩ sub_set_self ?_)
  exact wpAny_pure h
structure Empty (prog : Program) (w : World) (o : Obj) (ep : Nat) (t : SetTable) (more : Nat) : Prop where
  exact : o.ExactSet
  data : o.data = .set #[] ep t
  place : t.place.size = 0
  dummies : t.dummies = #[]
  led : w.params.followText "set-order" = false → t.led = true
  room : ∃ k, t.mask + 1 = 2 ^ k
  more : more ≤ t.mask
theorem Empty.fits {o : Obj} {ep : Nat} {t : SetTable} {more : Nat} (e : Empty prog w o ep t more) : t.fits (#[] : Array (Int × Value)).size = true := fits_iff.mpr ⟨e.place, by unfold SetTable.fill; rw [e.place, e.dummies]; exact Nat.zero_le _⟩
theorem roomE {more : Nat} {Q : Unit → Shared → Prop} (hr : s.heap.get? r = some (fresh w)) (hm : more ≤ 4000) (h : ∀ (h' : Heap) (o : Obj) (ep : Nat) (t : SetTable), Heap.SameBut r s.heap h' → h'.get? r = some o → Empty prog w o ep t more → Q () { s with heap := h' }) : wpAny (model prog w) A (setRoomFor r more) Q E s := by
  have S := fresh_at prog w
  have led : w.params.followText "set-order" = false → (SetTable.fresh 0 0 (!w.params.followText "set-order")).led = true := S.led
  unfold setRoomFor
  refine wpAny_bind (setState_at hr S ?_)
  dsimp only
  by_cases c : (0 + more) * 5 ≥ 7 * 3
  · have e : (SetTable.fresh 0 0 (!w.params.followText "set-order")).roomFor more = some ((0 + more) * 2) := if_pos c
    rw [e]
    dsimp only
    rw [Nat.zero_add]
    obtain ⟨t', order, k, q1, q2, q3, q4, q5, q6, q7, q8⟩ := relaid_ok (t := SetTable.fresh 0 0 (!w.params.followText "set-order")) (hs := (#[] : Array (Int × Value)).map (·.1)) (wanted := more * 2) (by simp) (by omega)
    unfold setRelay
    refine wpAny_bind (setState_at hr S ?_)
    dsimp only
    obtain ⟨m', e, l1, l2⟩ := above (n := more * 2) (by omega)
    have hsl : sizeLine = 16777216 := sizeLine_eq
    rw [if_neg (by rw [e]; omega), q1]
    have oe : order = #[] := by
      have := q8.length_eq
      simp at this
      exact this
    subst oe
    refine wpAny_bind (show wpAny _ _ (if (((#[] : Array Nat).filterMap ((#[] : Array (Int × Value))[·]?)).size != (#[] : Array (Int × Value)).size) = true then unsupported "internal:set-table-lost-an-element" else pure ((#[] : Array Nat).filterMap ((#[] : Array (Int × Value))[·]?), t')) _ _ _ from ?_)
    rw [if_neg (by simp)]
    refine wpAny_pure ?_
    refine wpAny_storeSet_of hr rfl ?_ (by simp)
    refine h _ _ (0 + 1) t' (Heap.SameBut.update ..) (get_put hr rfl) ⟨⟨rfl, rfl, rfl⟩, by simp, by simpa using q4, q5, fun q => q6.trans (led q), ⟨k, q2⟩, by omega⟩
  · have e : (SetTable.fresh 0 0 (!w.params.followText "set-order")).roomFor more = none := if_neg c
    rw [e]
    exact wpAny_pure (h s.heap (fresh w) 0 _ (Heap.SameBut.refl ..) hr ⟨S.exact, S.data, rfl, rfl, S.led, ⟨3, rfl⟩, by show more ≤ 7; omega⟩)
theorem mergeFresh {o : Obj} {es : Array (Int × Value)} {ep : Nat} {t : SetTable} {each : Sem Unit} {Q : Unit → Shared → Prop} (hne : r ≠ a) (hr : s.heap.get? r = some (fresh w)) (ho : s.heap.get? a = some o) (S : At prog w o es ep t) (hm : es.size ≤ 4000)
    (h : ∀ s', Now prog w s r (fun y => y ∈ keys es) es.size s' → Q () s') : wpAny (model prog w) A (setMerge r a each) Q E s := by
  unfold setMerge
  rw [if_neg (by simpa using hne)]
  refine wpAny_bind (setState_at ho S ?_)
  dsimp only
  by_cases c : es.isEmpty = true
  · rw [if_pos c]
    have e : es = #[] := by simpa using c
    subst e
    exact wpAny_pure (h s ⟨s.heap, rfl, ⟨_, #[], 0, _, hr, fresh_at prog w, fun y => Iff.rfl, Nat.le_refl _⟩, fun _ _ _ e => e⟩)
  · rw [if_neg c]
    have c' : es.size ≠ 0 := fun q => c (by simpa using q)
    refine wpAny_bind (roomE hr hm fun h' o' ep' t' sb g' X => ?_)
    refine wpAny_bind (wpAny_setState_of (s := { s with heap := h' }) g' X.data X.fits ?_)
    dsimp only
    have hfill : t'.fill = 0 := by unfold SetTable.fill; rw [X.place, X.dummies]; rfl
    unfold SetTable.road
    rw [hfill]
    simp only [bne_self_eq_false, Bool.false_eq_true, if_false]
    have keep : ∀ (es2 : Array (Int × Value)) (t2 : SetTable) (b : Addr) (ob : Obj), b ≠ r → s.heap.get? b = some ob → (h'.update r (Obj.putSet es2 t2)).get? b = some ob := fun es2 t2 b ob hb e => (Heap.get?_update_other _ _ (Ne.symm hb)).trans ((sb.2 b hb).trans e)
    by_cases d : (t'.mask == t.mask && t.dummies.isEmpty) = true
    · rw [if_pos d]
      refine wpAny_storeSet_of (s := { s with heap := h' }) g' X.data ?_ (fits_of_scanBound S.room)
      refine h _ ⟨_, rfl, ⟨_, es, _, _, get_put g' X.data, ⟨X.exact, rfl, S.els, S.nd, S.room, fits_iff.mpr (fits_iff.mp S.fits), fun q => ?_, fun q => ?_⟩, fun y => Iff.rfl, Nat.le_refl _⟩, keep _ _⟩
      · show (t'.led && t.led) = true
        rw [X.led q, S.led q]
        rfl
      · show (t'.plain && t.plain) = false
        rw [S.plain q, Bool.and_false]
    · rw [if_neg d]
      obtain ⟨k, hk⟩ := X.room
      obtain ⟨t2, order, q1, q2, q3, q4, q5, q6, q7⟩ := SL.laid_ok (mask := t'.mask) (finger := t'.finger) (moves := t'.moves) (led := t'.led && t.led) (plain := t'.plain && t.plain) (hs := es.map (·.1)) hk (by rw [Array.size_map]; exact X.more)
      rw [Array.size_map] at q3 q7
      have op := order_perm q7
      have sz : (order.filterMap (es[·]?)).size = es.size := by rw [← Array.length_toList, op.length_eq, Array.length_toList]
      dsimp only
      rw [q1]
      refine wpAny_bind (show wpAny _ _ (if ((order.filterMap (es[·]?)).size != es.size) = true then unsupported "internal:set-table-lost-an-element" else pure (order.filterMap (es[·]?), t2)) _ _ _ from ?_)
      rw [if_neg (by rw [sz]; simp)]
      refine wpAny_pure ?_
      refine wpAny_storeSet_of (s := { s with heap := h' }) g' X.data ?_ (by rw [sz]; exact fits_of_scanBound S.room)
      refine h _ ⟨_, rfl, ⟨_, _, _, _, get_put g' X.data, ⟨X.exact, rfl, S.els.perm op, (keys_perm op).nodup_iff.mpr S.nd, by rw [sz]; exact S.room, fits_iff.mpr ⟨by rw [q3, sz], ?_⟩, fun q => ?_, fun q => ?_⟩, fun y => (keys_perm op).mem_iff, by rw [sz]; exact Nat.le_refl _⟩, keep _ _⟩
      · unfold SetTable.fill
        rw [q4, q3, q2]
        exact X.more
      · rw [q5, X.led q, S.led q]
        rfl
      · rw [q6, S.plain c', Bool.and_false]
theorem mergeOn {o : Obj} {es : Array (Int × Value)} {ep : Nat} {t : SetTable} {each : Sem Unit} {Q : Unit → Shared → Prop} (hne : r ≠ a) (R : Has prog w s.heap r p n) (hp : ∃ y, p y) (ho : s.heap.get? a = some o) (S : At prog w o es ep t) (hm : n + es.size ≤ 4000)
    (he : ∀ (s' : Shared) (Q' : Unit → Shared → Prop), s'.heap.get? a = some o → Q' () s' → wpAny (model prog w) A each Q' E s')
    (h : ∀ s', Now prog w s r (fun y => p y ∨ y ∈ keys es) (n + es.size) s' → Q () s') : wpAny (model prog w) A (setMerge r a each) Q E s := by
  have rb : scanBound = 4096 := rfl
  unfold setMerge
  rw [if_neg (by simpa using hne)]
  refine wpAny_bind (setState_at ho S ?_)
  dsimp only
  by_cases c : es.isEmpty = true
  · rw [if_pos c]
    have e : es = #[] := by simpa using c
    subst e
    refine wpAny_pure (h s (R.mono (fun y => ?_) (Nat.le_add_right _ _)).now)
    exact ⟨.inl, fun z => z.elim id fun q => by simp [keys] at q⟩
  · rw [if_neg c]
    have room : wpAny (model prog w) A (setRoomFor r es.size) (fun _ s' => Now prog w s r p n s') E s := by
      obtain ⟨oR, eR, epR, tR, hoR, SR, mR, zR⟩ := R
      unfold setRoomFor
      refine wpAny_bind (setState_at hoR SR ?_)
      dsimp only
      unfold SetTable.roomFor
      by_cases d : (tR.fill + es.size) * 5 ≥ tR.mask * 3
      · rw [if_pos d]
        dsimp only
        have pz : tR.place.size = eR.size := (fits_iff.mp SR.fits).1
        rw [pz]
        exact relayN (n := eR.size) ⟨oR, eR, epR, tR, hoR, SR, mR, Nat.le_refl _⟩ (by omega) (by omega) fun s' N => N.mono (fun y => Iff.rfl) zR
      · rw [if_neg d]
        exact wpAny_pure (Has.now ⟨oR, eR, epR, tR, hoR, SR, mR, zR⟩)
    refine wpAny_bind (wpAny_mono room (fun _ s1 N1 => ?_) fun _ _ z => z)
    obtain ⟨oR, eR, epR, tR, hoR, SR, mR, zR⟩ := N1.has
    refine wpAny_bind (setState_at hoR SR ?_)
    dsimp only
    have hf : (tR.fill != 0) = true := by
      obtain ⟨y, hy⟩ := hp
      have := (mR y).mpr hy
      have pz : tR.place.size = eR.size := (fits_iff.mp SR.fits).1
      have : eR.size ≠ 0 := fun q => by
        have e : eR = #[] := by simpa using q
        subst e
        simp [keys] at this
      unfold SetTable.fill
      simp
      intro z
      rw [z] at pz
      exact absurd pz.symm this
    unfold SetTable.road
    rw [if_pos hf]
    dsimp only
    have ha1 := N1.keep (Ne.symm hne) ho
    refine wpAny_bind (walkF ha1 S (fun b hb => ?_) N1.has fun arr s2 pa N2 => ?_)
    · rw [List.mem_singleton.mp hb]
      exact ⟨_, _, N1.has⟩
    · have els := S.els.perm pa
      have N12 := N1.trans N2
      refine wpAny_bind (loopN els (fun done s3 => Now prog w s r (fun y => p y ∨ y ∈ done) (n + done.length) s3) (fun done x u s3 hl N3 => ?_) (N12.mono (fun y => ⟨.inl, fun z => z.elim id fun q => by cases q⟩) (Nat.le_refl _)) fun s4 N4 => ?_)
      · dsimp only
        have asz : arr.size = es.size := by rw [← Array.length_toList, pa.length_eq, Array.length_toList]
        refine wpAny_bind (wpAny_holding (wpAny_mono (addN N3.has (by omega)) (fun b s4 N4 => ?_) fun _ _ z => z))
        have N5 := N3.trans N4
        have ha5 := N5.keep (Ne.symm hne) ho
        refine wpAny_bind (he s4 _ ha5 ?_)
        refine wpAny_bind (setState_at ha5 S ?_)
        dsimp only
        rw [if_neg (by simp)]
        refine wpAny_pure ⟨rfl, N5.mono (fun y => ?_) (by rw [List.length_append]; simp; omega)⟩
        rw [List.mem_append, List.mem_singleton, or_assoc]
      · refine wpAny_pure (h s4 (N4.mono (fun y => ?_) ?_))
        · have := ((pa.map fun e => strOf e.2).mem_iff (a := y))
          rw [this]
          exact Iff.rfl
        · rw [List.length_map, Array.length_toList, ← Array.length_toList, pa.length_eq, Array.length_toList]
          exact Nat.le_refl _
end
end SS
end
section
namespace SS
open PySem PySem.Spec PyProof.Rows
section
variable {prog : Program} {w : World} {A : Around} {E : Value → Shared → Prop} {s : Shared} {a b : Addr} {o o2 : Obj} {es fs : Array (Int × Value)} {ep ep2 : Nat} {t t2 : SetTable}
abbrev with1 (w : World) (s : Shared) : Shared := { s with heap := s.heap.push (fresh w) }
theorem new_at : (with1 w s).heap.get? s.heap.objs.size = some (fresh w) := Heap.get?_push_size _ rfl
theorem old_at {c : Addr} {oc : Obj} (h : s.heap.get? c = some oc) : (with1 w s).heap.get? c = some oc := Heap.get?_push_of_some _ h
theorem ne_new {c : Addr} {oc : Obj} (h : s.heap.get? c = some oc) : s.heap.objs.size ≠ c := Nat.ne_of_gt (Heap.lt_size h)
theorem new_now : Now prog w (with1 w s) s.heap.objs.size (fun _ => False) 0 (with1 w s) := ⟨_, rfl, ⟨_, #[], 0, _, new_at, fresh_at prog w, fun y => by simp [keys], Nat.le_refl _⟩, fun _ _ _ e => e⟩
theorem has_of (ho : s.heap.get? a = some o) (S : At prog w o es ep t) : Has prog w s.heap a (fun y => y ∈ keys es) es.size := ⟨o, es, ep, t, ho, S, fun _ => Iff.rfl, Nat.le_refl _⟩
theorem sizeN (ho : s.heap.get? a = some o) (S : At prog w o es ep t) {Q : Nat → Shared → Prop} (h : Q es.size s) : wpAny (model prog w) A (Builtin.Frozenset.sizeOf a) Q E s := by
  unfold Builtin.Frozenset.sizeOf
  exact wpAny_bind (wpAny_setEntries_of ho S.data S.fits (wpAny_pure h))
theorem copyN {Q : Value → Shared → Prop} (ho : s.heap.get? a = some o) (S : At prog w o es ep t) (hm : es.size ≤ 4000) (h : ∀ s', Now prog w (with1 w s) s.heap.objs.size (fun y => y ∈ keys es) es.size s' → Q (.ref s.heap.objs.size) s') : wpAny (model prog w) A (Builtin.Frozenset.copyOf a) Q E s := by
  unfold Builtin.Frozenset.copyOf
  refine wpAny_bind (baseN ho S.exact ?_)
  refine wpAny_bind (newN ?_)
  refine wpAny_bind (m := Builtin.Frozenset.addrOf _) (wpAny_pure ?_)
  exact wpAny_bind (mergeFresh (s := with1 w s) (ne_new ho) new_at (old_at ho) S hm fun s' N => wpAny_pure (h s' N))
theorem copyE {Q : Value → Shared → Prop} (ho : s.heap.get? a = some o) (S : At prog w o es ep t) (he : es = #[]) (h : Q (.ref s.heap.objs.size) (with1 w s)) : wpAny (model prog w) A (Builtin.Frozenset.copyOf a) Q E s := by
  unfold Builtin.Frozenset.copyOf
  refine wpAny_bind (baseN ho S.exact ?_)
  refine wpAny_bind (newN ?_)
  refine wpAny_bind (m := Builtin.Frozenset.addrOf _) (wpAny_pure ?_)
  refine wpAny_bind ?_
  unfold setMerge
  rw [if_neg (by simpa using ne_new ho)]
  refine wpAny_bind (setState_at (s := with1 w s) (old_at ho) S ?_)
  dsimp only
  rw [if_pos (by rw [he]; rfl)]
  exact wpAny_pure (wpAny_pure h)
theorem updateN {id : String} {r : Addr} {Q : Unit → Shared → Prop} (ho : s.heap.get? a = some o) (S : At prog w o es ep t)
    (h : wpAny (model prog w) A (setMerge r a (Builtin.Frozenset.unchanged id a ep)) Q E s) : wpAny (model prog w) A (Builtin.Frozenset.updateFrom id r (.ref a)) Q E s := by
  unfold Builtin.Frozenset.updateFrom
  refine wpAny_bind (anyN ho S.exact ?_)
  rw [if_pos rfl]
  refine wpAny_bind (m := Builtin.Frozenset.addrOf _) (wpAny_pure ?_)
  unfold Builtin.Frozenset.merge
  exact wpAny_bind (wpAny_setEpoch_of ho S.data S.fits h)
theorem entry_or : entryFor table "set.__or__" = some Builtin.«frozenset.__or__» := entryFor_alias (id' := "frozenset.__or__") (by kernel_rfl) rfl (by decide +kernel) (by kernel_rfl)
theorem entry_and : entryFor table "set.__and__" = some Builtin.«frozenset.__and__» := entryFor_alias (id' := "frozenset.__and__") (by kernel_rfl) rfl (by decide +kernel) (by kernel_rfl)
theorem entry_sub : entryFor table "set.__sub__" = some Builtin.«frozenset.__sub__» := entryFor_alias (id' := "frozenset.__sub__") (by kernel_rfl) rfl (by decide +kernel) (by kernel_rfl)
theorem entry_xor : entryFor table "set.__xor__" = some Builtin.«frozenset.__xor__» := entryFor_alias (id' := "frozenset.__xor__") (by kernel_rfl) rfl (by decide +kernel) (by kernel_rfl)
theorem or_sets {Q : Value → Shared → Prop} (hab : a ≠ b) (ho : s.heap.get? a = some o) (S : At prog w o es ep t) (ho2 : s.heap.get? b = some o2) (T : At prog w o2 fs ep2 t2) (hm : es.size + fs.size ≤ 4000)
    (h : ∀ s', Now prog w (with1 w s) s.heap.objs.size (fun y => y ∈ keys es ∨ y ∈ keys fs) (es.size + fs.size) s' → Q (.ref s.heap.objs.size) s') : wpAny (model prog w) A (binaryOp .BitOr (.ref a) (.ref b)) Q E s := by
  have hT : s.TypeIs (.ref a) "set" := ⟨o, ho, S.exact.1⟩
  have hT2 : s.TypeIs (.ref b) "set" := ⟨o2, ho2, T.exact.1⟩
  refine wpAny_binaryOp_same hT hT2 F.fills_set_or F.slot_set_or (wpAny_call_entry F.slot_set_or hT entry_or ?_ (F.args_set_or_2 _ _))
  unfold Builtin.«frozenset.__or__»
  refine wpAny_bind (m := Builtin.Frozenset.slot1 "__or__" ⟨[.ref a, .ref b], []⟩) (wpAny_pure ?_)
  dsimp only
  rw [if_neg Bool.false_ne_true]
  dsimp only
  refine wpAny_bind (m := (Builtin.Frozenset.isAnySet (.ref a) <&&> Builtin.Frozenset.isAnySet (.ref b))) (show wpAny _ _ (Builtin.Frozenset.isAnySet (.ref a) >>= _) _ _ _ from wpAny_bind (anyN ho S.exact (anyN ho2 T.exact ?_)))
  simp only [Bool.not_true, Bool.false_eq_true, if_false]
  refine wpAny_bind (m := Builtin.Frozenset.addrOf _) (wpAny_pure ?_)
  refine wpAny_bind ?_
  have nb : (Value.ref b != Value.ref a) = true := by simpa using fun e => hab e.symm
  by_cases c : es = #[]
  · refine wpAny_bind (copyE ho S c ?_)
    rw [if_pos nb]
    refine wpAny_bind (m := Builtin.Frozenset.addrOf _) (wpAny_pure (wpAny_bind (wpAny_holding (updateN (s := with1 w s) (old_at ho2) T (mergeFresh (s := with1 w s) (ne_new ho2) new_at (old_at ho2) T (by omega) fun s' N => ?_)))))
    refine wpAny_pure (wpAny_pure ⟨_, rfl, nofun, h s' (N.mono (fun y => ⟨.inr, fun z => z.elim (fun q => ?_) id⟩) (by omega))⟩)
    rw [c] at q
    simp [keys] at q
  · refine wpAny_bind (copyN ho S (by omega) fun s1 N1 => ?_)
    rw [if_pos nb]
    have hb1 := N1.keep (Ne.symm (ne_new ho2)) (old_at ho2)
    have hp : ∃ y, y ∈ keys es := by
      cases k : keys es with
      | nil =>
        refine absurd ?_ c
        unfold keys at k
        rw [List.map_eq_nil_iff] at k
        simpa using k
      | cons y r => exact ⟨y, List.mem_cons_self⟩
    refine wpAny_bind (m := Builtin.Frozenset.addrOf _) (wpAny_pure (wpAny_bind (wpAny_holding (updateN hb1 T (mergeOn (ne_new ho2) N1.has hp hb1 T hm (fun s' Q' e hq => unchangedN e T hq) fun s2 N2 => ?_)))))
    exact wpAny_pure (wpAny_pure ⟨_, rfl, nofun, h s2 (N1.trans N2)⟩)
theorem done_perm {arr : Array (Int × Value)} (pa : arr.toList.Perm es.toList) (y : Str) : y ∈ (arr.toList.map fun e => strOf e.2) ↔ y ∈ keys es := (pa.map fun e => strOf e.2).mem_iff
theorem done_len {arr : Array (Int × Value)} (pa : arr.toList.Perm es.toList) : (arr.toList.map fun e => strOf e.2).length = es.size := by rw [List.length_map, pa.length_eq, Array.length_toList]
theorem and_rest {id : String} {r : Addr} {Q : PUnit → Shared → Prop} {s₀ : Shared} (hra : r ≠ a) (hrb : r ≠ b) (ho : s₀.heap.get? a = some o) (S : At prog w o es ep t) (ho2 : s₀.heap.get? b = some o2) (T : At prog w o2 fs ep2 t2) (hm : es.size ≤ 4000) (N : Now prog w s₀ r (fun _ => False) 0 s)
    (h : ∀ s', Now prog w s₀ r (fun y => y ∈ keys es ∧ y ∈ keys fs) es.size s' → Q ⟨⟩ s') :
    wpAny (model prog w) A (do
      let was ← setEpoch a
      for (h, x) in ← setWalkUnseen a [b, r] (some r) do
        holding [x] do
          if (← setFind b x h).isSome then
            let _ ← setAddHashed r x h
        Builtin.Frozenset.unchanged id a was) Q E s := by
  have rb : scanBound = 4096 := rfl
  have ha := N.keep (Ne.symm hra) ho
  refine wpAny_bind (wpAny_setEpoch_of ha S.data S.fits ?_)
  refine wpAny_bind (walkF ha S (fun c hc => ?_) N.has fun arr s2 pa N2 => ?_)
  · rcases List.mem_cons.mp hc with rfl | hc
    · exact ⟨_, _, has_of (N.keep (Ne.symm hrb) ho2) T⟩
    · rw [List.mem_singleton.mp hc]
      exact ⟨_, _, N.has⟩
  have N12 := N.trans N2
  have asz : arr.size = es.size := by rw [← Array.length_toList, pa.length_eq, Array.length_toList]
  refine wpAny_bind (loopN (S.els.perm pa) (fun done s3 => Now prog w s₀ r (fun y => y ∈ done ∧ y ∈ keys fs) done.length s3) (fun done x u s3 hl N3 => ?_) (N12.mono (fun y => ⟨False.elim, fun z => (by cases z.1)⟩) (Nat.le_refl _)) fun s4 N4 => wpAny_pure (h s4 (N4.mono (fun y => by rw [done_perm pa]) (Nat.le_of_eq (done_len pa)))))
  dsimp only
  have hb3 := N3.keep (Ne.symm hrb) ho2
  refine wpAny_bind (wpAny_holding (wpAny_bind (findN (has_of hb3 T) fun ro hro => ?_)))
  by_cases c : ro.isSome = true
  · rw [if_pos c]
    refine wpAny_bind (wpAny_mono (addN N3.has (by omega)) (fun _ s4 N4 => ?_) fun _ _ z => z)
    have N5 := N3.trans N4
    refine wpAny_pure (wpAny_bind (unchangedN (N5.keep (Ne.symm hra) ho) S (wpAny_pure ⟨rfl, N5.mono (fun y => ?_) (by rw [List.length_append]; exact Nat.le_refl _)⟩)))
    rw [List.mem_append, List.mem_singleton]
    constructor
    · rintro (z | rfl)
      · exact ⟨.inl z.1, z.2⟩
      · exact ⟨.inr rfl, hro.mp c⟩
    · rintro ⟨z | z, q⟩
      · exact .inl ⟨z, q⟩
      · exact .inr z
  · rw [if_neg c]
    refine wpAny_pure (wpAny_bind (unchangedN (N3.keep (Ne.symm hra) ho) S (wpAny_pure ⟨rfl, N3.mono (fun y => ?_) (by rw [List.length_append]; exact Nat.le_succ _)⟩)))
    rw [List.mem_append, List.mem_singleton]
    constructor
    · rintro z
      exact ⟨.inl z.1, z.2⟩
    · rintro ⟨z | z, q⟩
      · exact ⟨z, q⟩
      · exact absurd (hro.mpr (z ▸ q)) c
theorem and_sets {Q : Value → Shared → Prop} (hab : a ≠ b) (ho : s.heap.get? a = some o) (S : At prog w o es ep t) (ho2 : s.heap.get? b = some o2) (T : At prog w o2 fs ep2 t2) (hm : es.size + fs.size ≤ 4000)
    (h : ∀ s', Now prog w (with1 w s) s.heap.objs.size (fun y => y ∈ keys es ∧ y ∈ keys fs) (es.size + fs.size) s' → Q (.ref s.heap.objs.size) s') : wpAny (model prog w) A (binaryOp .BitAnd (.ref a) (.ref b)) Q E s := by
  have hT : s.TypeIs (.ref a) "set" := ⟨o, ho, S.exact.1⟩
  have hT2 : s.TypeIs (.ref b) "set" := ⟨o2, ho2, T.exact.1⟩
  refine wpAny_binaryOp_same hT hT2 F.fills_set_and F.slot_set_and (wpAny_call_entry F.slot_set_and hT entry_and ?_ (F.args_set_and_2 _ _))
  unfold Builtin.«frozenset.__and__»
  refine wpAny_bind (m := Builtin.Frozenset.slot1 "__and__" ⟨[.ref a, .ref b], []⟩) (wpAny_pure ?_)
  dsimp only
  rw [if_neg Bool.false_ne_true]
  dsimp only
  refine wpAny_bind (m := (Builtin.Frozenset.isAnySet (.ref a) <&&> Builtin.Frozenset.isAnySet (.ref b))) (show wpAny _ _ (Builtin.Frozenset.isAnySet (.ref a) >>= _) _ _ _ from wpAny_bind (anyN ho S.exact (anyN ho2 T.exact ?_)))
  simp only [Bool.not_true, Bool.false_eq_true, if_false]
  refine wpAny_bind (m := Builtin.Frozenset.addrOf _) (wpAny_pure ?_)
  refine wpAny_bind ?_
  unfold Builtin.Frozenset.intersection
  have nb : ¬ (Value.ref b == Value.ref a) = true := by simpa using fun e => hab e.symm
  rw [if_neg nb]
  refine wpAny_bind (baseN ho S.exact ?_)
  refine wpAny_bind (newN ?_)
  refine wpAny_bind (m := Builtin.Frozenset.addrOf _) (wpAny_pure ?_)
  refine wpAny_bind (wpAny_holding ?_)
  have ha1 : (with1 w s).heap.get? a = some o := old_at ho
  have hb1 : (with1 w s).heap.get? b = some o2 := old_at ho2
  refine wpAny_bind (anyN (s := with1 w s) hb1 T.exact ?_)
  rw [if_pos rfl]
  refine wpAny_bind (m := Builtin.Frozenset.addrOf _) (wpAny_pure ?_)
  refine wpAny_bind (sizeN (s := with1 w s) hb1 T ?_)
  refine wpAny_bind (sizeN (s := with1 w s) ha1 S ?_)
  by_cases c : fs.size > es.size
  · rw [if_pos c]
    dsimp only
    refine and_rest (a := a) (b := b) (ne_new ho) (ne_new ho2) ha1 S hb1 T (by omega) new_now fun s' N => ?_
    exact wpAny_pure (wpAny_pure ⟨_, rfl, nofun, h s' (N.mono (fun y => Iff.rfl) (by omega))⟩)
  · rw [if_neg c]
    dsimp only
    refine and_rest (a := b) (b := a) (ne_new ho2) (ne_new ho) hb1 T ha1 S (by omega) new_now fun s' N => ?_
    exact wpAny_pure (wpAny_pure ⟨_, rfl, nofun, h s' (N.mono (fun y => And.comm) (by omega))⟩)
theorem done_nd {arr : Array (Int × Value)} (pa : arr.toList.Perm es.toList) (S : At prog w o es ep t) : (arr.toList.map fun (e : Int × Value) => strOf e.2).Nodup := (pa.map fun (e : Int × Value) => strOf e.2).nodup_iff.mpr S.nd
theorem loopX {arr : Array (Int × Value)} {f : Int × Value → PUnit → Sem (ForInStep PUnit)} {Q : PUnit → Shared → Prop} (els : ElemsOf (PySem.strKind prog w) arr.toList) (nd : (arr.toList.map fun e => strOf e.2).Nodup) (I : List Str → Shared → Prop)
    (turn : ∀ (done : List Str) (x : Str) (u : Tok) (s : Shared), done.length < arr.size → x ∉ done → I done s → wpAny (model prog w) A (f ((PySem.strKind prog w).hash x, .str x u) ⟨⟩) (fun r s' => r = .yield ⟨⟩ ∧ I (done ++ [x]) s') E s)
    (h : I [] s) (fin : ∀ s', I (arr.toList.map fun e => strOf e.2) s' → Q ⟨⟩ s') : wpAny (model prog w) A (forIn arr ⟨⟩ f) Q E s := by
  refine wpAny_forIn_array' f (fun rest b s' => ∃ pre, arr.toList = pre ++ rest ∧ I (pre.map fun e => strOf e.2) s') Q ?_ ?_ arr _ ⟨[], rfl, h⟩
  · rintro e rest b s' ⟨pre, hp, hI⟩
    have els' : ElemsOf (PySem.strKind prog w) (e :: rest) := fun z hz => els z (by rw [hp]; exact List.mem_append_right _ hz)
    obtain ⟨x, u, rfl⟩ := ent_of els'
    refine wpAny_mono (turn (pre.map fun e => strOf e.2) x u s' ?_ ?_ hI) (fun r s'' hr => ?_) fun _ _ z => z
    · have := congrArg List.length hp
      rw [List.length_append, List.length_cons, Array.length_toList] at this
      rw [List.length_map]
      omega
    · rw [hp, List.map_append, List.map_cons] at nd
      intro hx
      exact (List.nodup_append.mp nd).2.2 x hx x List.mem_cons_self rfl
    · obtain ⟨rfl, hI'⟩ := hr
      exact ⟨pre ++ [((PySem.strKind prog w).hash x, .str x u)], by rw [hp, List.append_assoc]; rfl, by rw [List.map_append]; exact hI'⟩
  · rintro b s' ⟨pre, hp, hI⟩
    rw [List.append_nil] at hp
    rw [← hp] at hI
    exact fin s' hI
theorem xor_sets {Q : Value → Shared → Prop} (hab : a ≠ b) (ho : s.heap.get? a = some o) (S : At prog w o es ep t) (ho2 : s.heap.get? b = some o2) (T : At prog w o2 fs ep2 t2) (hm : es.size + fs.size ≤ 4000)
    (h : ∀ s', Now prog w (with1 w s) s.heap.objs.size (fun y => (y ∈ keys fs ∧ y ∉ keys es) ∨ (y ∉ keys fs ∧ y ∈ keys es)) (es.size + fs.size) s' → Q (.ref s.heap.objs.size) s') : wpAny (model prog w) A (binaryOp .BitXor (.ref a) (.ref b)) Q E s := by
  have rb : scanBound = 4096 := rfl
  have hT : s.TypeIs (.ref a) "set" := ⟨o, ho, S.exact.1⟩
  have hT2 : s.TypeIs (.ref b) "set" := ⟨o2, ho2, T.exact.1⟩
  refine wpAny_binaryOp_same hT hT2 F.fills_set_xor F.slot_set_xor (wpAny_call_entry F.slot_set_xor hT entry_xor ?_ (F.args_set_xor_2 _ _))
  unfold Builtin.«frozenset.__xor__»
  refine wpAny_bind (m := Builtin.Frozenset.slot1 "__xor__" ⟨[.ref a, .ref b], []⟩) (wpAny_pure ?_)
  dsimp only
  rw [if_neg Bool.false_ne_true]
  dsimp only
  refine wpAny_bind (m := (Builtin.Frozenset.isAnySet (.ref a) <&&> Builtin.Frozenset.isAnySet (.ref b))) (show wpAny _ _ (Builtin.Frozenset.isAnySet (.ref a) >>= _) _ _ _ from wpAny_bind (anyN ho S.exact (anyN ho2 T.exact ?_)))
  simp only [Bool.not_true, Bool.false_eq_true, if_false]
  refine wpAny_bind (m := Builtin.Frozenset.addrOf _) (wpAny_pure ?_)
  refine wpAny_bind ?_
  refine wpAny_bind (m := Builtin.Frozenset.baseOf a) (baseN ho S.exact ?_)
  refine wpAny_bind ?_
  unfold Builtin.Frozenset.newFrom
  refine wpAny_bind (newN ?_)
  have ha1 : (with1 w s).heap.get? a = some o := old_at ho
  have hb1 : (with1 w s).heap.get? b = some o2 := old_at ho2
  refine wpAny_bind (m := Builtin.Frozenset.addrOf _) (wpAny_pure (wpAny_bind (wpAny_holding (updateN (s := with1 w s) hb1 T (mergeFresh (s := with1 w s) (ne_new ho2) new_at hb1 T (by omega) fun s1 N1 => wpAny_pure ?_)))))
  refine wpAny_bind (m := Builtin.Frozenset.addrOf _) (wpAny_pure (wpAny_bind (wpAny_holding ?_)))
  unfold Builtin.Frozenset.symmetricDifferenceUpdate
  have nr : ¬ (Value.ref a == Value.ref s.heap.objs.size) = true := by simpa using Nat.ne_of_lt (Heap.lt_size ho)
  rw [if_neg nr]
  have ha2 := N1.keep (Ne.symm (ne_new ho)) ha1
  refine wpAny_bind (wpAny_typeOf (T := "set") ⟨o, ha2, S.exact.1⟩ ?_)
  rw [if_neg (by decide)]
  refine wpAny_bind (anyN ha2 S.exact ?_)
  rw [if_pos rfl]
  refine wpAny_bind (wpAny_pure ?_)
  refine wpAny_bind (m := Builtin.Frozenset.addrOf _) (wpAny_pure ?_)
  refine wpAny_bind (wpAny_setEpoch_of ha2 S.data S.fits ?_)
  refine wpAny_holding ?_
  refine wpAny_bind (walkF ha2 S (fun c hc => ?_) N1.has fun arr s2 pa N2 => ?_)
  · rw [List.mem_singleton.mp hc]
    exact ⟨_, _, N1.has⟩
  have N12 := N1.trans N2
  have asz : arr.size = es.size := by rw [← Array.length_toList, pa.length_eq, Array.length_toList]
  refine wpAny_bind (loopX (S.els.perm pa) (done_nd pa S) (fun done s3 => Now prog w (with1 w s) s.heap.objs.size (fun y => (y ∈ keys fs ∧ y ∉ done) ∨ (y ∉ keys fs ∧ y ∈ done)) (done.length + fs.size) s3) (fun done x u s3 hl hx N3 => ?_) (N12.mono (fun y => ?_) (by simp)) fun s4 N4 => wpAny_pure (wpAny_pure (wpAny_pure ⟨_, rfl, nofun, h s4 (N4.mono (fun y => by rw [done_perm pa]) (by rw [done_len pa]; exact Nat.le_refl _))⟩)))
  · dsimp only
    refine wpAny_bind (wpAny_holding (wpAny_bind (discardN N3.has fun d s4 hd N4 => ?_)))
    have N5 := N3.trans N4
    cases d with
    | true =>
      simp only [Bool.not_true, Bool.false_eq_true, if_false]
      refine wpAny_pure (wpAny_bind (unchangedN (N5.keep (Ne.symm (ne_new ho)) ha1) S (wpAny_pure ⟨rfl, N5.mono (fun y => ?_) (by simp only [List.length_append, List.length_cons, List.length_nil]; omega)⟩)))
      have hpx := hd.mp rfl
      have hf : x ∈ keys fs := by
        rcases hpx with z | z
        · exact z.1
        · exact absurd z.2 hx
      rw [List.mem_append, List.mem_singleton]
      constructor
      · rintro ⟨z, q⟩
        rcases z with z | z
        · exact .inl ⟨z.1, fun k => k.elim z.2 q⟩
        · exact .inr ⟨z.1, .inl z.2⟩
      · rintro (z | z)
        · exact ⟨.inl ⟨z.1, fun k => z.2 (.inl k)⟩, fun k => z.2 (.inr k)⟩
        · rcases z.2 with k | k
          · exact ⟨.inr ⟨z.1, k⟩, fun e => hx (e ▸ k)⟩
          · exact absurd (k ▸ hf) z.1
    | false =>
      simp only [Bool.not_false, if_true]
      refine wpAny_bind (wpAny_mono (addN N5.has (by omega)) (fun _ s5 N6 => ?_) fun _ _ z => z)
      have N7 := N5.trans N6
      refine wpAny_pure (wpAny_bind (unchangedN (N7.keep (Ne.symm (ne_new ho)) ha1) S (wpAny_pure ⟨rfl, N7.mono (fun y => ?_) (by simp only [List.length_append, List.length_cons, List.length_nil]; omega)⟩)))
      have hpx : ¬ ((x ∈ keys fs ∧ x ∉ done) ∨ (x ∉ keys fs ∧ x ∈ done)) := fun z => by cases hd.mpr z
      have hf : x ∉ keys fs := fun z => hpx (.inl ⟨z, hx⟩)
      rw [List.mem_append, List.mem_singleton]
      constructor
      · rintro (⟨z, q⟩ | z)
        · rcases z with z | z
          · exact .inl ⟨z.1, fun k => k.elim z.2 q⟩
          · exact .inr ⟨z.1, .inl z.2⟩
        · exact .inr ⟨z ▸ hf, .inr z⟩
      · rintro (z | z)
        · exact .inl ⟨.inl ⟨z.1, fun k => z.2 (.inl k)⟩, fun k => z.2 (.inr k)⟩
        · rcases z.2 with k | k
          · exact .inl ⟨.inr ⟨z.1, k⟩, fun e => hx (e ▸ k)⟩
          · exact .inr k
  · constructor
    · exact fun z => .inl ⟨z, by simp⟩
    · rintro (z | z)
      · exact z.1
      · cases z.2
theorem same_size {o3 : Obj} {gs : Array (Int × Value)} {ep3 : Nat} {t3 : SetTable} (S : At prog w o es ep t) (S' : At prog w o3 gs ep3 t3) (m : ∀ y, y ∈ keys gs ↔ y ∈ keys es) : gs.size = es.size := by
  have l1 : (keys gs).length = (keys es).length := (List.perm_ext_iff_of_nodup S'.nd S.nd |>.mpr m).length_eq
  unfold keys at l1
  rw [List.length_map, List.length_map, Array.length_toList, Array.length_toList] at l1
  exact l1
theorem tidyN {p : Str → Prop} {n : Nat} {Q : Unit → Shared → Prop} (H : Has prog w s.heap a p n) (h : ∀ s', Now prog w s a p n s' → Q () s') : wpAny (model prog w) A (setTidy a) Q E s := by
  have rb : scanBound = 4096 := rfl
  obtain ⟨oR, eR, epR, tR, hoR, SR, mR, zR⟩ := H
  have rm := SR.room
  unfold setTidy
  refine wpAny_bind (setState_at hoR SR ?_)
  dsimp only
  by_cases d : tR.tooManyDummies = true
  · rw [if_pos d]
    refine relayN (n := eR.size) ⟨oR, eR, epR, tR, hoR, SR, mR, Nat.le_refl _⟩ ?_ ?_ fun s' N => h s' (N.mono (fun y => Iff.rfl) zR)
    · unfold SetTable.grown
      split <;> omega
    · unfold SetTable.grown
      split <;> omega
  · rw [if_neg d]
    exact wpAny_pure (h s (Has.now ⟨oR, eR, epR, tR, hoR, SR, mR, zR⟩))
theorem sub_sets {Q : Value → Shared → Prop} (hab : a ≠ b) (ho : s.heap.get? a = some o) (S : At prog w o es ep t) (ho2 : s.heap.get? b = some o2) (T : At prog w o2 fs ep2 t2) (hm : es.size + fs.size ≤ 4000)
    (h : ∀ s', Now prog w (with1 w s) s.heap.objs.size (fun y => y ∈ keys es ∧ y ∉ keys fs) (es.size + fs.size) s' → Q (.ref s.heap.objs.size) s') : wpAny (model prog w) A (binaryOp .Sub (.ref a) (.ref b)) Q E s := by
  have rb : scanBound = 4096 := rfl
  have hT : s.TypeIs (.ref a) "set" := ⟨o, ho, S.exact.1⟩
  have hT2 : s.TypeIs (.ref b) "set" := ⟨o2, ho2, T.exact.1⟩
  refine wpAny_binaryOp_same hT hT2 F.fills_set_sub F.slot_set_sub (wpAny_call_entry F.slot_set_sub hT entry_sub ?_ (F.args_set_sub_2 _ _))
  unfold Builtin.«frozenset.__sub__»
  refine wpAny_bind (m := Builtin.Frozenset.slot1 "__sub__" ⟨[.ref a, .ref b], []⟩) (wpAny_pure ?_)
  dsimp only
  rw [if_neg Bool.false_ne_true]
  dsimp only
  refine wpAny_bind (m := (Builtin.Frozenset.isAnySet (.ref a) <&&> Builtin.Frozenset.isAnySet (.ref b))) (show wpAny _ _ (Builtin.Frozenset.isAnySet (.ref a) >>= _) _ _ _ from wpAny_bind (anyN ho S.exact (anyN ho2 T.exact ?_)))
  simp only [Bool.not_true, Bool.false_eq_true, if_false]
  refine wpAny_bind (m := Builtin.Frozenset.addrOf _) (wpAny_pure ?_)
  refine wpAny_bind ?_
  unfold Builtin.Frozenset.difference
  have ha1 : (with1 w s).heap.get? a = some o := old_at ho
  have hb1 : (with1 w s).heap.get? b = some o2 := old_at ho2
  refine wpAny_bind (anyN ho2 T.exact ?_)
  simp only [Bool.not_true, Bool.false_eq_true, if_false, Bool.false_and, if_true]
  refine wpAny_bind (m := Builtin.Frozenset.addrOf _) (wpAny_pure ?_)
  refine wpAny_bind (sizeN ho2 T ?_)
  refine wpAny_bind (sizeN ho S ?_)
  by_cases c : es.size / 4 > fs.size
  · rw [if_pos c]
    refine wpAny_bind (wpAny_rule ?_)
    refine wpAny_bind (copyN ho S (by omega) fun s1 N1 => ?_)
    refine wpAny_bind (m := Builtin.Frozenset.addrOf _) (wpAny_pure (wpAny_bind (wpAny_holding ?_)))
    have hb2 := N1.keep (Ne.symm (ne_new ho2)) hb1
    unfold Builtin.Frozenset.differenceUpdate
    have nr : ¬ (Value.ref b == Value.ref s.heap.objs.size) = true := by simpa using Nat.ne_of_lt (Heap.lt_size ho2)
    rw [if_neg nr]
    refine wpAny_bind (anyN hb2 T.exact ?_)
    simp only [if_true]
    refine wpAny_bind (m := Builtin.Frozenset.addrOf _) (wpAny_pure ?_)
    refine wpAny_bind (sizeN hb2 T ?_)
    obtain ⟨oR, eR, epR, tR, hoR, SR, mR, zR⟩ := N1.has
    refine wpAny_bind (sizeN hoR SR ?_)
    rw [same_size S SR mR]
    rw [if_neg (by omega)]
    refine wpAny_bind (wpAny_setEpoch_of hb2 T.data T.fits ?_)
    refine wpAny_bind (wpAny_holding ?_)
    refine wpAny_bind (walkN hb2 T (fun c hc => ?_) fun arr pa => ?_)
    · rw [List.mem_singleton.mp hc]
      exact ⟨_, _, N1.has⟩
    refine wpAny_bind (loopN (T.els.perm pa) (fun done s3 => Now prog w (with1 w s) s.heap.objs.size (fun y => y ∈ keys es ∧ y ∉ done) es.size s3) (fun done x u s3 hl N3 => ?_) (N1.mono (fun y => ⟨fun z => ⟨z, by simp⟩, fun z => z.1⟩) (Nat.le_refl _)) fun s4 N4 => wpAny_pure ?_)
    · dsimp only
      refine wpAny_bind (wpAny_holding (discardN N3.has fun d s4 hd N4 => ?_))
      have N5 := N3.trans N4
      refine wpAny_bind (unchangedN (N5.keep (Ne.symm (ne_new ho2)) hb1) T (wpAny_pure ⟨rfl, N5.mono (fun y => ?_) (Nat.le_refl _)⟩))
      rw [List.mem_append, List.mem_singleton, not_or, and_assoc]
    · refine tidyN N4.has fun s5 N5 => wpAny_pure (wpAny_pure ⟨_, rfl, nofun, h s5 ((N4.trans N5).mono (fun y => by rw [done_perm pa]) (by omega))⟩)
  · rw [if_neg c]
    refine wpAny_bind (baseN ho S.exact ?_)
    refine wpAny_bind (newN ?_)
    refine wpAny_bind (m := Builtin.Frozenset.addrOf _) (wpAny_pure ?_)
    refine wpAny_bind (wpAny_setEpoch_of (s := with1 w s) ha1 S.data S.fits ?_)
    refine wpAny_bind (wpAny_holding ?_)
    refine wpAny_bind (walkF (s := with1 w s) ha1 S (fun c hc => ?_) new_now.has fun arr s2 pa N2 => ?_)
    · rcases List.mem_cons.mp hc with rfl | hc
      · exact ⟨_, _, has_of hb1 T⟩
      · rw [List.mem_singleton.mp hc]
        exact ⟨_, _, new_now.has⟩
    have asz : arr.size = es.size := by rw [← Array.length_toList, pa.length_eq, Array.length_toList]
    refine wpAny_bind (loopN (S.els.perm pa) (fun done s3 => Now prog w (with1 w s) s.heap.objs.size (fun y => y ∈ done ∧ y ∉ keys fs) done.length s3) (fun done x u s3 hl N3 => ?_) (N2.mono (fun y => ⟨False.elim, fun z => (by cases z.1)⟩) (Nat.le_refl _)) fun s4 N4 => wpAny_pure (wpAny_pure (wpAny_pure ⟨_, rfl, nofun, h s4 (N4.mono (fun y => by rw [done_perm pa]) (by rw [done_len pa]; omega))⟩)))
    dsimp only
    have hb3 := N3.keep (Ne.symm (ne_new ho2)) hb1
    refine wpAny_bind (wpAny_holding (wpAny_bind (findN (has_of hb3 T) fun ro hro => ?_)))
    refine wpAny_bind (wpAny_pure ?_)
    by_cases d : ro.isSome = true
    · rw [d]
      simp only [Bool.not_true, Bool.false_eq_true, if_false]
      refine wpAny_pure (wpAny_bind (unchangedN (N3.keep (Ne.symm (ne_new ho)) ha1) S (wpAny_pure ⟨rfl, N3.mono (fun y => ?_) (by rw [List.length_append]; exact Nat.le_succ _)⟩)))
      rw [List.mem_append, List.mem_singleton]
      constructor
      · rintro z
        exact ⟨.inl z.1, z.2⟩
      · rintro ⟨z | z, q⟩
        · exact ⟨z, q⟩
        · exact absurd (z ▸ hro.mp d) q
    · rw [Bool.eq_false_iff.mpr d]
      simp only [Bool.not_false, if_true]
      refine wpAny_bind (wpAny_mono (addN N3.has (by omega)) (fun _ s4 N4 => ?_) fun _ _ z => z)
      have N5 := N3.trans N4
      refine wpAny_pure (wpAny_bind (unchangedN (N5.keep (Ne.symm (ne_new ho)) ha1) S (wpAny_pure ⟨rfl, N5.mono (fun y => ?_) (by rw [List.length_append]; exact Nat.le_refl _)⟩)))
      rw [List.mem_append, List.mem_singleton]
      constructor
      · rintro (z | z)
        · exact ⟨.inl z.1, z.2⟩
        · exact ⟨.inr z, fun q => d (hro.mpr (z ▸ q))⟩
      · rintro ⟨z | z, q⟩
        · exact .inl ⟨z, q⟩
        · exact .inr z
end
end SS
end
section
namespace L2
open PySem PySem.Spec PyProof.Rows
def rSets (X : Cx) (p : Str → List Str → List Str → Prop) : R2 := fun x y H Q => ∃ (a b : Addr) (ks ls : List Str), x = .ref a ∧ y = .ref b ∧ a ≠ b ∧ H a = some (.ext (setφ X.prog X.w a ks)) ∧ H b = some (.ext (setφ X.prog X.w b ls)) ∧ ks.length + ls.length ≤ 4000 ∧
  ∀ (zs : List Str) (l : Addr), zs.Nodup → (∀ y, y ∈ zs ↔ p y ks ls) → H l = none → Q (.ref l) (upd H l (.ext (setφ X.prog X.w l zs)))
section
variable {X : Cx}
theorem fin_set {pins : List (Addr × Obj)} {σ : St} {H : Hp} {s s' : Shared} {p : Str → Prop} {n : Nat} {Q : V → Hp → Prop} (I : Inv X pins σ H s) (N : SS.Now X.prog X.w (SS.with1 X.w s) s.heap.objs.size p n s')
    (q : ∀ (zs : List Str) (l : Addr), zs.Nodup → (∀ y, y ∈ zs ↔ p y) → H l = none → Q (.ref l) (upd H l (.ext (setφ X.prog X.w l zs)))) : EP X pins σ Q (.ref s.heap.objs.size) s' := by
  obtain ⟨h', rfl, ⟨o, es, ep, t, g, A, m, z⟩, k⟩ := N
  have hs : H s.heap.objs.size = none := I.hok.fresh (Nat.le_refl _)
  refine ⟨.ref s.heap.objs.size, _, I.laid (t' := s.toks) (o := .ext (setφ X.prog X.w s.heap.objs.size (SS.keys es))) (fun b o e => k b o (Nat.ne_of_lt (Heap.lt_size e)) (Heap.get?_push_of_some _ e)) (Nat.le_refl _) ?_, rfl, q (SS.keys es) _ A.nd m hs⟩
  exact ⟨⟨o, es, ep, t, g, A, rfl⟩, ⟨o, g⟩, fun h1 h2 ⟨o1, es1, ep1, t1, g1, A1, k1⟩ st => ⟨o1, es1, ep1, t1, st _ g1, A1, k1⟩⟩
theorem op_orS : OpR X (binaryOp .BitOr) (rSets X fun y ks ls => y ∈ ks ∨ y ∈ ls) := by
  intro pins s σ H x y v u Q I rx ry h
  obtain ⟨a, b, ks, ls, rfl, rfl, ab, ha, hb, hz, q⟩ := h
  cases rx
  cases ry
  obtain ⟨⟨o, es, ep, t, g, A, e⟩, _, _⟩ := I.hok a _ ha
  obtain ⟨⟨o2, fs, ep2, t2, g2, A2, e2⟩, _, _⟩ := I.hok b _ hb
  have z1 : es.size = ks.length := by rw [← e]; simp [SS.keys]
  have z2 : fs.size = ls.length := by rw [← e2]; simp [SS.keys]
  refine SS.or_sets ab g A g2 A2 (by omega) fun s' N => fin_set I N fun zs l n m hl => q zs l n (fun y => ?_) hl
  rw [m y, e, e2]
theorem op_andS : OpR X (binaryOp .BitAnd) (rSets X fun y ks ls => y ∈ ks ∧ y ∈ ls) := by
  intro pins s σ H x y v u Q I rx ry h
  obtain ⟨a, b, ks, ls, rfl, rfl, ab, ha, hb, hz, q⟩ := h
  cases rx
  cases ry
  obtain ⟨⟨o, es, ep, t, g, A, e⟩, _, _⟩ := I.hok a _ ha
  obtain ⟨⟨o2, fs, ep2, t2, g2, A2, e2⟩, _, _⟩ := I.hok b _ hb
  have z1 : es.size = ks.length := by rw [← e]; simp [SS.keys]
  have z2 : fs.size = ls.length := by rw [← e2]; simp [SS.keys]
  refine SS.and_sets ab g A g2 A2 (by omega) fun s' N => fin_set I N fun zs l n m hl => q zs l n (fun y => ?_) hl
  rw [m y, e, e2]
theorem op_subS : OpR X (binaryOp .Sub) (rSets X fun y ks ls => y ∈ ks ∧ y ∉ ls) := by
  intro pins s σ H x y v u Q I rx ry h
  obtain ⟨a, b, ks, ls, rfl, rfl, ab, ha, hb, hz, q⟩ := h
  cases rx
  cases ry
  obtain ⟨⟨o, es, ep, t, g, A, e⟩, _, _⟩ := I.hok a _ ha
  obtain ⟨⟨o2, fs, ep2, t2, g2, A2, e2⟩, _, _⟩ := I.hok b _ hb
  have z1 : es.size = ks.length := by rw [← e]; simp [SS.keys]
  have z2 : fs.size = ls.length := by rw [← e2]; simp [SS.keys]
  refine SS.sub_sets ab g A g2 A2 (by omega) fun s' N => fin_set I N fun zs l n m hl => q zs l n (fun y => ?_) hl
  rw [m y, e, e2]
theorem op_xorS : OpR X (binaryOp .BitXor) (rSets X fun y ks ls => (y ∈ ls ∧ y ∉ ks) ∨ (y ∉ ls ∧ y ∈ ks)) := by
  intro pins s σ H x y v u Q I rx ry h
  obtain ⟨a, b, ks, ls, rfl, rfl, ab, ha, hb, hz, q⟩ := h
  cases rx
  cases ry
  obtain ⟨⟨o, es, ep, t, g, A, e⟩, _, _⟩ := I.hok a _ ha
  obtain ⟨⟨o2, fs, ep2, t2, g2, A2, e2⟩, _, _⟩ := I.hok b _ hb
  have z1 : es.size = ks.length := by rw [← e]; simp [SS.keys]
  have z2 : fs.size = ls.length := by rw [← e2]; simp [SS.keys]
  refine SS.xor_sets ab g A g2 A2 (by omega) fun s' N => fin_set I N fun zs l n m hl => q zs l n (fun y => ?_) hl
  rw [m y, e, e2]
end
end L2
end
section
namespace DD
open PySem PySem.Spec PyProof.Rows
section
variable {prog : Program} {w : World} {A : Around} {E : Value → Shared → Prop} {s : Shared} {it d : Addr} {i ep : Nat} {od : Obj} {es : Array DictEntry}
theorem iter_raw {Q : Value → Shared → Prop} (hne : (d == sysModules) = false) (g : s.heap.get? d = some od) (gx : od.ExactDict) (gd : od.data = .dict es ep)
    (hQ : Q (.ref s.heap.objs.size) { s with heap := s.heap.push { cls := .type "dict_keyiterator", data := .fields #[.ref d, .int 0 0, .int es.size 0, .int ep 0] } }) : wpAny (model prog w) A (pyIter (.ref d)) Q E s := by
  have ty : s.TypeIs (.ref d) "dict" := ⟨od, g, gx.1⟩
  refine wpAny_pyIter_slot ty F.slot_dict_iter (wpAny_call_entry F.slot_dict_iter ty F.entry_dict_iter ?_ (F.args_dict_iter_1 _))
  unfold Builtin.«dict.__iter__» Builtin.Dict.dictSlotNone
  refine wpAny_bind (wpAny_bind (wpAny_notOrdered_dict ty (show wpAny _ _ (pure (Value.ref d)) _ _ s from wpAny_pure ?_)))
  show wpAny _ _ (Builtin.Dict.showsAll d >>= _) _ _ s
  unfold Builtin.Dict.showsAll
  rw [if_neg (by rw [hne]; exact Bool.false_ne_true)]
  refine wpAny_bind (wpAny_pure (wpAny_bind (wpAny_dictEntries g gd (wpAny_bind (wpAny_dictEpoch g gd ?_)))))
  refine wpAny_bind (wpAny_newObj_type (wpAny_pure ⟨_, rfl, "dict_keyiterator", _, ⟨_, Heap.get?_push_size _ rfl, rfl⟩, F.slot_dict_keyiterator_next.lookup, ?_⟩))
  simpa [rawInt] using hQ
theorem next_raw {Q : Option Value → Shared → Prop} (st : s.heap.IsKeyIter it d i es.size ep) (g : s.heap.get? d = some od) (gd : od.data = .dict es ep) (lt : i < es.size)
    (hQ : ∀ h', h'.IsKeyIter it d (i + 1) es.size ep → Heap.SameBut it s.heap h' → Q (some es[i].key) { s with heap := h' }) : wpAny (model prog w) A (pyNext (.ref it)) Q E s := by
  obtain ⟨oi, gi, ci, fi⟩ := id st
  have ow : Builtin.Dict_items.ownsTuple "dict_keyiterator" = false := by decide
  unfold pyNext
  refine wpAny_bind (wpAny_attempt (wpAny_callSpecial?_slot (name := Str.ofString "__next__") st.typeIs F.slot_dict_keyiterator_next (wpAny_call_entry F.slot_dict_keyiterator_next st.typeIs F.entry_dict_keyiterator_next (wpAny_bind (wpAny_pure (wpAny_bind (wpAny_bind ?_)))) (F.args_dict_keyiterator_next_1 _))))
  first | refine wpAny_bind (wpAny_typeNameOfWhole_keyiter st.typeIs (wpAny_pure (wpAny_bind (wpAny_fieldsOf gi fi ?_)))) | refine wpAny_bind (wpAny_typeNameOf_keyiter st.typeIs (wpAny_pure (wpAny_bind (wpAny_fieldsOf gi fi ?_))))
  simp only [ow, Bool.false_eq_true, if_false]
  show wpAny _ _ (if (Value.ref d == Value.none) = true then _ else _) _ _ s
  rw [if_neg (show ¬ ((Value.ref d == Value.none) = true) from Bool.false_ne_true)]
  refine wpAny_bind (wpAny_pure (wpAny_bind (wpAny_dictEntries g gd ?_)))
  rw [if_neg (by simp)]
  refine wpAny_bind (wpAny_pure (wpAny_bind (wpAny_dictEpoch g gd ?_)))
  rw [if_neg (by simp)]
  refine wpAny_pure ?_
  simp only [show ¬ ((i : Int) < 0) from by omega, if_false, Int.toNat_natCast, Array.getElem?_eq_getElem lt]
  refine wpAny_bind ?_
  first | refine wpAny_bind (wpAny_typeNameOfWhole_keyiter st.typeIs (wpAny_pure (wpAny_bind (wpAny_isOneOf_keyiter st.typeIs ?_)))) | refine wpAny_bind (wpAny_typeNameOf_keyiter st.typeIs (wpAny_pure (wpAny_bind (wpAny_isOneOf_keyiter st.typeIs ?_))))
  show wpAny _ _ (setField (.ref it) 1 (rawInt ((i : Int) + 1)) >>= _) _ _ s
  refine wpAny_bind (wpAny_setField gi fi (by simp) ?_)
  have st' : (s.heap.update it (Obj.mapFields (·.setIfInBounds 1 (rawInt ((i : Int) + 1))))).IsKeyIter it d (i + 1) es.size ep :=
    ⟨_, Heap.get?_update_self _ gi (Obj.isFreed_of_fields (Obj.data_mapFields fi _)), (Obj.cls_mapFields ..).trans ci, by rw [Obj.data_mapFields fi]; simp [rawInt]⟩
  refine wpAny_bind (wpAny_holding (wpAny_bind (wpAny_isOneOf_keyiter (s := { s with heap := s.heap.update it (Obj.mapFields (·.setIfInBounds 1 (rawInt ((i : Int) + 1)))) }) st'.typeIs ?_)))
  show wpAny _ _ (pure es[i].key) _ _ _
  exact wpAny_pure (wpAny_pure ⟨_, rfl, wpAny_pure (hQ _ st' (Heap.SameBut.update ..))⟩)
theorem end_raw {Q : Option Value → Shared → Prop} (hh : A.handled = none) (st : s.heap.IsKeyIter it d i es.size ep) (g : s.heap.get? d = some od) (gd : od.data = .dict es ep) (ge : es.size ≤ i)
    (hQ : ∀ h', Heap.ExtBut it s.heap h' → Q none { s with heap := h' }) : wpAny (model prog w) A (pyNext (.ref it)) Q E s := by
  obtain ⟨oi, gi, ci, fi⟩ := id st
  have ow : Builtin.Dict_items.ownsTuple "dict_keyiterator" = false := by decide
  unfold pyNext
  refine wpAny_bind (wpAny_attempt (wpAny_callSpecial?_slot (name := Str.ofString "__next__") st.typeIs F.slot_dict_keyiterator_next (wpAny_call_entry F.slot_dict_keyiterator_next st.typeIs F.entry_dict_keyiterator_next (wpAny_bind (wpAny_pure (wpAny_bind (wpAny_bind ?_)))) (F.args_dict_keyiterator_next_1 _))))
  first | refine wpAny_bind (wpAny_typeNameOfWhole_keyiter st.typeIs (wpAny_pure (wpAny_bind (wpAny_fieldsOf gi fi ?_)))) | refine wpAny_bind (wpAny_typeNameOf_keyiter st.typeIs (wpAny_pure (wpAny_bind (wpAny_fieldsOf gi fi ?_))))
  simp only [ow, Bool.false_eq_true, if_false]
  show wpAny _ _ (if (Value.ref d == Value.none) = true then _ else _) _ _ s
  rw [if_neg (show ¬ ((Value.ref d == Value.none) = true) from Bool.false_ne_true)]
  refine wpAny_bind (wpAny_pure (wpAny_bind (wpAny_dictEntries g gd ?_)))
  rw [if_neg (by simp)]
  refine wpAny_bind (wpAny_pure (wpAny_bind (wpAny_dictEpoch g gd ?_)))
  rw [if_neg (by simp)]
  refine wpAny_pure ?_
  simp only [show ¬ ((i : Int) < 0) from by omega, if_false, Int.toNat_natCast, Array.getElem?_eq_none ge]
  refine wpAny_bind ?_
  first | refine wpAny_bind (wpAny_typeNameOfWhole_keyiter st.typeIs (wpAny_pure ?_)) | refine wpAny_bind (wpAny_typeNameOf_keyiter st.typeIs (wpAny_pure ?_))
  show wpAny _ _ (setField (.ref it) 0 .none >>= _) _ _ s
  refine wpAny_bind (wpAny_setField gi fi (by simp) ?_)
  show wpAny _ _ (newExc (.type "StopIteration") [] >>= _) _ _ _
  refine wpAny_bind ?_
  simp only [newExc, newTuple]
  refine wpAny_bind (wpAny_newObj_type (wpAny_bind (m := firstArgMember _ _) (wpAny_of_eq (a := Value.none) (by first | rfl | (simp only [firstArgMember]; rfl)) (wpAny_newObj_type ?_ (by size_fits)))) (by size_fits))
  simp only [raiseNew]
  refine wpAny_bind (wpAny_handled ?_)
  rw [show A.in1.handled = none from hh]
  refine wpAny_bind (wpAny_pure (wpAny_throw ?_))
  refine wpAny_bind (wpAny_isInstance (T := "StopIteration") (b := true) ⟨_, Heap.get?_push_size _ rfl, rfl⟩ isSubtype_stop (wpAny_pure ?_))
  exact hQ _ (((Heap.SameBut.update ..).extBut.push _).push _)
end
end DD
namespace L2
open PySem PySem.Spec PyProof.Rows
def Itd (a : Addr) (o : Obj) (kvs : List (List Key × V)) : It :=
  ⟨fun i H => i < kvs.length ∧ H a = some (.frz o (.dT kvs)), fun i H x H' => H' = H ∧ ∃ k v b, kvs[i]? = some (k, v) ∧ x = .ref b ∧ H b = some (.tup (k.map kV)), fun i H => kvs.length ≤ i ∧ H a = some (.frz o (.dT kvs))⟩
theorem paired_get {α β : Type} {F : α → β → Prop} {xs : List α} {ys : List β} (p : Paired F xs ys) : ∀ {i : Nat} {x : α}, xs[i]? = some x → ∃ y, ys[i]? = some y ∧ F x y := by
  induction p with
  | nil => intro i x h; simp at h
  | cons r t ih =>
    intro i x h
    cases i with
    | zero => cases h; exact ⟨_, rfl, r⟩
    | succ i => exact ih (by simpa using h)
theorem turn_dict {P : Program} {w : World} {K : PySem.W.Frag} {tg : Expr} (a it : Addr) (o : Obj) (kvs : List (List Key × V)) (es : Array DictEntry) (ep : Nat) (hd : o.data = .dict es ep) (hl : es.size = kvs.length) :
    Turn P w K tg (Itd a o kvs) [it] it (fun i h => h.IsKeyIter it a i es.size ep) where
  mem := by simp
  obj := fun i h st b hb => by
    have e : b = it := by simpa using hb
    subst e
    obtain ⟨o, e, c, d⟩ := st
    exact ⟨o, e, fun v z => by rw [d] at z; cases z⟩
  keep := fun i h h' st k => st.at fun o e => k it (by simp) o e
  item := by
    intro X hP hw hK hc i pins s σ H E I hf st hg
    subst hP hw hK
    obtain ⟨lt, ha⟩ := hg
    obtain ⟨go, gz, gn, xs, pr, o', es', ep', g', gx, gd, ge, gnd⟩ := (show ObjOk X.prog X.w H s.heap a (.frz o (.dT kvs)) from I.hok a _ ha)
    rw [go] at g'
    cases g'
    rw [hd] at gd
    cases gd
    obtain ⟨f0, f1, f2, f3, f4, f5⟩ := hf it (by simp)
    have ek : kvs[i]? = some kvs[i] := List.getElem?_eq_getElem lt
    obtain ⟨q, eq, r1, r2, r3⟩ := paired_get pr ek
    have eK : es[i].key = .ref q.2.1 := by
      have : es.toList[i]? = some (entryOfKey (tupleKind (mixKind X.prog X.w)) q) := by rw [ge, List.getElem?_map, eq]; rfl
      rw [Array.getElem?_toList, Array.getElem?_eq_getElem (by omega)] at this
      rw [Option.some.inj this]
      rfl
    refine DD.next_raw st go hd (by omega) fun h' st' sb => ?_
    rw [eK]
    have I1 : Inv X pins σ H { s with heap := h' } := I.turned (t' := s.toks) (fun b o hb e => (sb.2 b hb).trans e) f0 f1 f3 f4 f5
    obtain ⟨oi, e, c, d⟩ := id st'
    exact ⟨_, rfl, go_of (s := { s with heap := h' }) e c d (by decide) ⟨.ref q.2.1, H, I1, rfl, ⟨rfl, _, _, _, ek, rfl, r2⟩, st', fun b hb => (hf b hb).1⟩⟩
  done := by
    intro X hP hw hK hc i pins s σ H E I hf st hg
    subst hP hw hK
    obtain ⟨ge, ha⟩ := hg
    obtain ⟨go, _⟩ := (show ObjOk X.prog X.w H s.heap a (.frz o (.dT kvs)) from I.hok a _ ha)
    obtain ⟨f0, f1, f2, f3, f4, f5⟩ := hf it (by simp)
    exact DD.end_raw (I.ok.hd hc) st go hd (by omega) fun h' eb => ⟨rfl, I.turned (t' := s.toks) (fun b o hb e => eb b o hb e) f0 f1 f3 f4 f5⟩
  self := fun _ _ _ _ _ st h => wpAny_pyIter_keyiter st h
section
variable {X : Cx} {tg : Expr}
def iDict (tl : TE) : TI := fun σ H R => tl σ H fun x H1 => ∃ a kvs, x = .ref a ∧ H1 a = some (.dT kvs) ∧ ∀ o, R (Itd a o kvs) (upd H1 a (.frz o (.dT kvs)))
theorem pi_dict {l : Expr} {tl : TE} (hl : PE X l tl) : PI X tg l (iDict tl) := by
  intro pins s σ H R I h
  refine thn (hl pins s σ H _ I h) fun v s1 ⟨x, H1, I1, r1, q1⟩ => ?_
  obtain ⟨a, kvs, rfl, ha, q⟩ := q1
  cases r1
  obtain ⟨gz, gn, xs, pr, o, es, ep, g, gx, gd, ge, gnd⟩ := (show ObjOk X.prog X.w H1 s1.heap a (.dT kvs) from I1.hok a _ ha)
  have sz : es.size = kvs.length := by
    have := congrArg List.length ge
    rw [List.length_map, Array.length_toList] at this
    rw [this, pr.length]
  refine DD.iter_raw gn g gx gd ?_
  have ok : ObjOk X.prog X.w (upd H1 a (.frz o (.dT kvs))) s1.heap a (.frz o (.dT kvs)) := by
    refine ⟨g, ?_⟩
    refine ⟨gz, gn, xs, Paired.mapP pr (fun p q z => ⟨z.1, by rw [upd_ne (ne_of z.2.1 ha (by intro z; cases z))]; exact z.2.1, z.2.2⟩), o, es, ep, g, gx, gd, ge, gnd⟩
  have I2 : Inv X pins σ (upd H1 a (.frz o (.dT kvs))) { s1 with heap := s1.heap, toks := s1.toks } := I1.write (x := a) (e := a) (by rw [ha]; exact trivial) (.inl rfl) (fun b u _ e => e) ⟨o, g⟩ ok
  refine ⟨s1.heap.objs.size, [s1.heap.objs.size], _, Itd a o kvs, upd H1 a (.frz o (.dT kvs)), rfl, I2.kept (t' := s1.toks) fun b o e => Heap.get?_push_of_some _ e, turn_dict a _ o kvs es ep gd sz, ⟨_, Heap.get?_push_size _ rfl, rfl, rfl⟩, fun b hb => ?_, q o⟩
  have e : b = s1.heap.objs.size := by simpa using hb
  subst e
  exact I2.fpOk (Nat.le_refl _) (I2.hok.fresh (Nat.le_refl _))
end
theorem comp_dict {a D : Addr} {o : Obj} {kvs : List (List Key × V)} {j : Nat} {emb : List (Option Nat)} {tt : TT} {te : TE} {σ : St} {H : Hp} {Q : VK} (Pv : Nat → List V → Hp → Prop) (h0 : Pv 0 [] (upd H D (.lst []))) (hl : ∀ i ys H', i ≤ kvs.length → Pv i ys H' → H' a = some (.frz o (.dT kvs)))
    (hs : ∀ i k v b ys H', kvs[i]? = some (k, v) → H' b = some (.tup (k.map kV)) → Pv i ys H' → tt ((embσ emb σ).set j (some (.ref b))) H' fun c H3 => if c = true then te ((embσ emb σ).set j (some (.ref b))) H3 fun y H4 => H4 D = some (.lst ys) ∧ ys.length < sizeLine ∧ Pv (i + 1) (ys ++ [y]) (upd H4 D (.lst (ys ++ [y]))) else Pv (i + 1) ys H3)
    (hd : ∀ ys H', Pv kvs.length ys H' → Q (.ref D) H') :
    ∃ W : Nat → Nat → List V → Hp → Prop, (∃ m, W 0 m [] (upd H D (.lst []))) ∧
      ∀ i m ys H', W i m ys H' → ((Itd a o kvs).stop i H' ∧ Q (.ref D) H') ∨ ((Itd a o kvs).go i H' ∧ ∃ N : List V → Hp → Prop, (∀ ys' H'', N ys' H'' → ∃ m', m' < m ∧ W (i + 1) m' ys' H'') ∧ ∀ x H2, (Itd a o kvs).yld i H' x H2 → tt ((embσ emb σ).set j (some x)) H2 fun c H3 =>
        if c = true then te ((embσ emb σ).set j (some x)) H3 fun y H4 => H4 D = some (.lst ys) ∧ ys.length < sizeLine ∧ N (ys ++ [y]) (upd H4 D (.lst (ys ++ [y])))
        else N ys H3) := by
  refine ⟨fun i m ys H' => m = kvs.length - i ∧ i ≤ kvs.length ∧ Pv i ys H', ⟨kvs.length, by simp, Nat.zero_le _, h0⟩, ?_⟩
  rintro i m ys H' ⟨rfl, hi, p⟩
  by_cases c : i < kvs.length
  · refine .inr ⟨⟨c, hl i ys H' hi p⟩, fun ys' H'' => Pv (i + 1) ys' H'', fun ys' H'' q => ⟨kvs.length - (i + 1), by omega, rfl, c, q⟩, ?_⟩
    rintro x H2 ⟨rfl, k, v, b, e, rfl, hb⟩
    exact hs i k v b ys H2 e hb p
  · have e : i = kvs.length := by omega
    subst e
    exact .inl ⟨⟨Nat.le_refl _, hl _ ys H' hi p⟩, hd ys H' p⟩
end L2
end
section
namespace Rev
open PySem PyProof.Rows
section
variable {prog : Program} {w : World} {A : Around} {E : Value → Shared → Prop} {s : Shared} {it l : Addr} {items : Array Value}
end
end Rev
namespace L2
open PySem PySem.Spec PyProof.Rows
section
variable {X : Cx}
end
end L2
end
section
namespace L2
open PySem PySem.Spec PyProof.Rows
def eqI (xs ys : List V) (j : Nat) : Bool := match xs[j]?, ys[j]? with
  | some a, some b => eqV a b
  | _, _ => false
def eqL (xs ys : List V) : Bool := xs.length == ys.length && (List.range xs.length).all (eqI xs ys)
theorem eqL_nil (xs : List V) : eqL xs [] = xs.isEmpty := by
  cases xs with
  | nil => rfl
  | cons x r => rfl
theorem flat_at {xs : List V} (h : xs.all flatV = true) {j : Nat} {x : V} (e : xs[j]? = some x) : flatV x = true := List.all_eq_true.mp h x (List.mem_of_getElem? e)
theorem eqAt_lists {A : Around} {s : Shared} {xs ys : List V} {us vs : List Value} (rx : Vals xs us) (ry : Vals ys vs) (fx : xs.all flatV = true) (fy : ys.all flatV = true) :
    ∀ j (h1 : j < us.toArray.size) (h2 : j < vs.toArray.size), SeqAt.EqAt A s us.toArray[j] vs.toArray[j] (eqI xs ys j) := fun j h1 h2 => by
  have l1 := rx.length
  have l2 := ry.length
  have h1' : j < us.length := by simpa using h1
  have h2' : j < vs.length := by simpa using h2
  have ex : xs[j]? = some (xs[j]'(by omega)) := List.getElem?_eq_getElem (by omega)
  have ey : ys[j]? = some (ys[j]'(by omega)) := List.getElem?_eq_getElem (by omega)
  obtain ⟨u, eu, ru⟩ := rx.get ex
  obtain ⟨v, ev, rv⟩ := ry.get ey
  rw [List.getElem?_eq_getElem h1'] at eu
  rw [List.getElem?_eq_getElem h2'] at ev
  unfold eqI
  rw [ex, ey]
  have e1 : us.toArray[j] = u := by simpa using eu
  have e2 : vs.toArray[j] = v := by simpa using ev
  rw [e1, e2]
  exact eqAt_V ru rv (flat_at fx ex) (flat_at fy ey)
def rEqL (K : PySem.W.Frag) (neg : Bool) : R2 := fun x y H Q => ∃ p q xs ys, x = .ref p ∧ y = .ref q ∧ SqL K H p xs ∧ SqL K H q ys ∧ (xs.length = ys.length → xs.all flatV = true ∧ ys.all flatV = true) ∧ Q (.bl (if neg then !eqL xs ys else eqL xs ys)) H
section
variable {X : Cx}
theorem op_eqL (hu : X.A.units < cLine) : OpR X (compareOp .Eq) (rEqL X.K false) := by
  intro pins s σ H x y v u Q I rx ry h
  obtain ⟨p, q, xs, ys, rfl, rfl, hp, hq, fl, k⟩ := h
  cases rx
  cases ry
  obtain ⟨its, r1, p1, _⟩ := I.list hp
  obtain ⟨its2, r2, p2, _⟩ := I.list hq
  have l1 := r1.length
  have l2 := r2.length
  by_cases c : xs.length = ys.length
  · refine SeqAt.eq_listAt (e := eqI xs ys) p1.isList p2.isList (by simp; omega) hu (eqAt_lists r1 r2 (fl c).1 (fl c).2) ⟨.bl _, H, I, rfl, ?_⟩
    have e : (List.range its.toArray.size).all (eqI xs ys) = eqL xs ys := by
      unfold eqL
      rw [show (xs.length == ys.length) = true by simpa using c, Bool.true_and, List.size_toArray, l1]
    rw [e]
    exact k
  · refine SeqAt.eq_list_lengthsAt p1.isList p2.isList (by simp; omega) hu ⟨.bl false, H, I, rfl, ?_⟩
    have e : eqL xs ys = false := by
      unfold eqL
      rw [show (xs.length == ys.length) = false by simpa using c, Bool.false_and]
    rw [e] at k
    exact k
theorem op_neL (hu : X.A.units < cLine) : OpR X (compareOp .NotEq) (rEqL X.K true) := by
  intro pins s σ H x y v u Q I rx ry h
  obtain ⟨p, q, xs, ys, rfl, rfl, hp, hq, fl, k⟩ := h
  cases rx
  cases ry
  obtain ⟨its, r1, p1, _⟩ := I.list hp
  obtain ⟨its2, r2, p2, _⟩ := I.list hq
  have l1 := r1.length
  have l2 := r2.length
  by_cases c : xs.length = ys.length
  · refine SeqAt.RcNeAt.lists (e := eqI xs ys) p1.isList p2.isList (by simp; omega) hu (eqAt_lists r1 r2 (fl c).1 (fl c).2) X.prog X.w _ _ ⟨.bl _, H, I, rfl, ?_⟩
    have e : (List.range its.toArray.size).all (eqI xs ys) = eqL xs ys := by
      unfold eqL
      rw [show (xs.length == ys.length) = true by simpa using c, Bool.true_and, List.size_toArray, l1]
    rw [e]
    exact k
  · refine SeqAt.RcNeAt.lists_lengths p1.isList p2.isList (by simp; omega) hu X.prog X.w _ _ ⟨.bl true, H, I, rfl, ?_⟩
    have e : eqL xs ys = false := by
      unfold eqL
      rw [show (xs.length == ys.length) = false by simpa using c, Bool.false_and]
    rw [e] at k
    exact k
end
end L2
end
section
namespace L2
open PySem PySem.Spec PyProof.Rows
theorem tys_vals : ∀ {ns : List String} {us : List Value}, Vals (ns.map V.ty) us → us = ns.map Value.type
  | [], us, r => by rw [List.map_nil] at r; cases r; rfl
  | n :: ns, us, r => by
    rw [List.map_cons] at r
    cases r with
    | cons r1 r2 =>
      cases r1
      rw [tys_vals r2]
      rfl
inductive TyS (H : Hp) : V → String → Prop where
  | int (i : Int) : TyS H (.int i) "int"
  | str (x : Str) : TyS H (.str x) "str"
  | lst {a : Addr} {xs : List V} (e : H a = some (.lst xs)) : TyS H (.ref a) "list"
  | tup {a : Addr} {xs : List V} (e : H a = some (.tup xs)) : TyS H (.ref a) "tuple"
section
variable {X : Cx}
theorem call_isinstT {ns : List String} : CallR X (.builtin "isinstance") (fun xs H Q => ∃ x n tp b, xs = [x, .ref tp] ∧ TyS H x n ∧ H tp = some (.tup (ns.map V.ty)) ∧ PySem.W.kitAny X.K (.type n) (ns.map Value.type) = some b ∧ Q (.bl b) H) := by
  intro pins s σ H xs us Q I r h
  obtain ⟨x, n, tp, b, rfl, ty, ht, e, q⟩ := h
  obtain ⟨u, w', rfl, ru, rw'⟩ := vals2 r
  cases rw'
  obtain ⟨_, its, rv, ot, g, gc, gd⟩ := (show ObjOk X.prog X.w H s.heap tp (.tup (ns.map V.ty)) from I.hok tp _ ht)
  have ei := tys_vals rv
  subst ei
  obtain ⟨cls, dd, data, sl⟩ := ot
  obtain ⟨m, gd⟩ := gd
  simp only at gc gd
  subst gc
  subst gd
  have fin : ∀ tk, EP X pins σ Q (.bool b) { s with toks := tk } := fun tk => ⟨.bl b, H, I.tok tk, rfl, q⟩
  cases ty with
  | int i => obtain ⟨t, rfl⟩ := ru; exact PySem.W.kia_tup PySem.W.kitx_int I.kIn True.intro g e (fun z => nomatch z) fin
  | str y => obtain ⟨t, rfl⟩ := ru; exact PySem.W.kia_tup PySem.W.kitx_str I.kIn True.intro g e (fun z => nomatch z) fin
  | @lst a xs ea =>
    cases ru
    obtain ⟨_, _, n, _, h1⟩ := (show ObjOk X.prog X.w H s.heap a (.lst xs) from I.hok a _ ea)
    exact PySem.W.kia_tup PySem.W.kitx_list I.kIn ⟨_, h1, rfl⟩ g e (fun z => nomatch z) fin
  | @tup a xs ea =>
    cases ru
    obtain ⟨_, _, _, o, h1, h2, _⟩ := (show ObjOk X.prog X.w H s.heap a (.tup xs) from I.hok a _ ea)
    exact PySem.W.kia_tup PySem.W.kitx_tuple I.kIn ⟨o, h1, h2⟩ g e (fun z => nomatch z) fin
end
end L2
end
section
namespace LB
open PySem L2 CM
def cnt (LL : List (List Str)) (y : Str) : Nat := LL.countP fun xs => decide (y ∈ xs)
theorem cnt_snoc (LL : List (List Str)) (xs : List Str) (y : Str) : cnt (LL ++ [xs]) y = cnt LL y + (if y ∈ xs then 1 else 0) := by
  unfold cnt
  rw [List.countP_append, List.countP_singleton]
  by_cases h : y ∈ xs <;> simp [h]
theorem cnt_take {LL : List (List Str)} {i : Nat} {xs : List Str} (h : LL[i]? = some xs) (y : Str) : cnt (LL.take (i + 1)) y = cnt (LL.take i) y + (if y ∈ xs then 1 else 0) := by
  rw [List.take_add_one, h]
  exact cnt_snoc _ _ _
theorem cnt_pos {LL : List (List Str)} {y : Str} : 0 < cnt LL y ↔ ∃ xs ∈ LL, y ∈ xs := by
  unfold cnt
  rw [List.countP_pos_iff]
  constructor
  · rintro ⟨xs, h, e⟩
    exact ⟨xs, h, of_decide_eq_true e⟩
  · rintro ⟨xs, h, e⟩
    exact ⟨xs, h, decide_eq_true e⟩
theorem cnt_le (LL : List (List Str)) (y : Str) : cnt LL y ≤ LL.length := List.countP_le_length
structure Rolls (H : Hp) (a : Addr) (rs : List Addr) (LL : List (List Str)) : Prop where
  tab : Tab H a rs (fun p => (LL.getD p []).map V.str)
  len : rs.length = LL.length
theorem Rolls.same {H H' : Hp} {a : Addr} {rs : List Addr} {LL : List (List Str)} (r : Rolls H a rs LL) (s : Same H H') : Rolls H' a rs LL := ⟨r.tab.same s, r.len⟩
def Fit (LL : List (List Str)) : Prop := (LL.length ≤ 1000 ∧ ∃ W : List Str, W.length < 32 ∧ ∀ y, 0 < cnt LL y → y ∈ W) ∧ ∀ xs ∈ LL, xs.length ≤ 1000 ∧ Rising xs
theorem getD_at {LL : List (List Str)} {i : Nat} {xs : List Str} (h : LL[i]? = some xs) : LL.getD i [] = xs := by rw [List.getD_eq_getElem?_getD, h]; rfl
theorem Rolls.at {H : Hp} {a : Addr} {rs : List Addr} {LL : List (List Str)} (r : Rolls H a rs LL) {i : Nat} {x : Addr} (h : rs[i]? = some x) : ∃ xs, LL[i]? = some xs ∧ H x = some (.lst (xs.map V.str)) := by
  have il := (List.getElem?_eq_some_iff.mp h).1
  obtain ⟨xs, e⟩ := at_len (show i < LL.length by rw [← r.len]; exact il)
  refine ⟨xs, e, ?_⟩
  have := r.tab.row i x h
  rw [getD_at e] at this
  exact this
def optc (n : Nat) : Option V := if n = 0 then none else some (.int n)
theorem optc_get (n : Nat) : (optc n).getD (.int 0) = .int n := by
  unfold optc
  by_cases h : n = 0
  · subst h
    rfl
  · rw [if_neg h]
    rfl
theorem optc_some (n : Nat) : (optc n).isSome = true ↔ 0 < n := by
  unfold optc
  by_cases h : n = 0
  · subst h
    simp
  · rw [if_neg h]
    simp
    omega
def Counts (kvs : List (Key × V)) (f : Str → Nat) : Prop := (∀ i : Int, valV kvs (Sum.inl i) = none) ∧ ∀ y, valV kvs (Sum.inr y) = optc (f y)
theorem Counts.put {kvs : List (Key × V)} {f g : Str → Nat} {x : Str} (h : Counts kvs f) (e : ∀ y, g y = if y = x then f x + 1 else f y) : Counts (putK kvs (Sum.inr x) (.int ((f x : Int) + 1))) g := by
  refine ⟨fun i => ?_, fun y => ?_⟩
  · rw [valV_put, if_neg (by intro z; cases z)]
    exact h.1 i
  · rw [valV_put, e y]
    by_cases c : y = x
    · subst c
      rw [if_pos rfl, if_pos rfl]
      unfold optc
      rw [if_neg (by omega)]
      congr 2
    · rw [if_neg (fun z => c (Sum.inr.inj z)), if_neg c]
      exact h.2 y
theorem putK_len (kvs : List (Key × V)) (k : Key) (v : V) : (putK kvs k v).length ≤ kvs.length + 1 := by
  unfold putK
  split
  · rw [List.length_map]
    omega
  · rw [List.length_append]
    exact Nat.le_refl _
def spCounts : Sp := fun vs H Q _ => ∃ (a : Addr) (rs : List Addr) (LL : List (List Str)), vs = [.ref a] ∧ Rolls H a rs LL ∧ Fit LL ∧
  ∀ (d : Addr) (kvs : List (Key × V)) (H' : Hp), H d = none → H' d = some (.dK kvs) → kvs.length ≤ 1000000 → Counts kvs (cnt LL) → Same H H' → Q (.ref d) H'
def spInAny : Sp := fun vs H Q _ => ∃ (a : Addr) (rs : List Addr) (LL : List (List Str)), vs = [.ref a] ∧ Rolls H a rs LL ∧ Fit LL ∧
  ∀ (l : Addr) (zs : List Str) (H' : Hp), Rising zs → (∀ y, y ∈ zs ↔ 0 < cnt LL y) → H l = none → H' l = some (.lst (zs.map V.str)) → Same H H' → Q (.ref l) H'
def spInJust : Sp := fun vs H Q _ => ∃ (a : Addr) (rs : List Addr) (LL : List (List Str)) (k : Int), vs = [.ref a, .int k] ∧ Rolls H a rs LL ∧ Fit LL ∧
  ∀ (l : Addr) (zs : List Str) (H' : Hp), Rising zs → (∀ y, y ∈ zs ↔ 0 < cnt LL y ∧ (cnt LL y : Int) = k) → H l = none → H' l = some (.lst (zs.map V.str)) → Same H H' → Q (.ref l) H'
def spInAll : Sp := fun vs H Q _ => ∃ (a : Addr) (rs : List Addr) (LL : List (List Str)), vs = [.ref a] ∧ Rolls H a rs LL ∧ Fit LL ∧
  ∀ (l : Addr) (zs : List Str) (H' : Hp), Rising zs → (∀ y, y ∈ zs ↔ 0 < cnt LL y ∧ (cnt LL y : Int) = LL.length) → H l = none → H' l = some (.lst (zs.map V.str)) → Same H H' → Q (.ref l) H'
theorem Fit.few {LL : List (List Str)} (F : Fit LL) {zs : List Str} (nd : zs.Nodup) (h : ∀ y ∈ zs, 0 < cnt LL y) : zs.length < 64 := by
  obtain ⟨W, l, s⟩ := F.1.2
  have := nodup_len nd (ws := W) fun y hy => s y (h y hy)
  omega
theorem Fit.fewD {LL : List (List Str)} (F : Fit LL) {kvs : List (Key × V)} (h : ∀ y, (valV kvs (Sum.inr y)).isSome = true → 0 < cnt LL y) : ∃ W : List Str, W.length < 64 ∧ ∀ y, (valV kvs (Sum.inr y)).isSome = true → y ∈ W := by
  obtain ⟨W, l, s⟩ := F.1.2
  exact ⟨W, by omega, fun y z => s y (h y z)⟩
theorem Rolls.of {H : Hp} {a : Addr} {rs : List Addr} {f : Nat → List Str} (h : Tab H a rs (fun p => (f p).map V.str)) : Rolls H a rs ((List.range rs.length).map f) := by
  refine ⟨⟨h.head, fun p r e => ?_⟩, by rw [List.length_map, List.length_range]⟩
  have il := (List.getElem?_eq_some_iff.mp e).1
  rw [getD_at (xs := f p) (by rw [List.getElem?_map, List.getElem?_range il]; rfl)]
  exact h.row p r e
theorem cut_from (xs : List V) {t : Nat} (h : t ≤ xs.length) : cutV xs (some (t : Int)) none = xs.drop t := by
  unfold cutV
  rw [HT.sIx_nat, HT.sIx_none, Nat.min_eq_left h, List.take_of_length_le (by rw [List.length_drop]; exact Nat.le_refl _)]
theorem cut_to (xs : List V) {t : Nat} (h : t ≤ xs.length) : cutV xs none (some (t : Int)) = xs.take t := by
  unfold cutV
  rw [HT.sIx_nat, HT.sIx_none, Nat.min_eq_left h, List.drop_zero, Nat.sub_zero]
end LB
end
section
namespace LB
open PySem L2 CM
def posN (LL : List (List Str)) (i : Nat) (y : Str) : List Nat := (List.range i).filter fun p => decide (y ∈ LL.getD p [])
def pos (LL : List (List Str)) (y : Str) : List Nat := posN LL LL.length y
theorem posN_succ {LL : List (List Str)} {i : Nat} {xs : List Str} (h : LL[i]? = some xs) (y : Str) : posN LL (i + 1) y = posN LL i y ++ (if y ∈ xs then [i] else []) := by
  unfold posN
  rw [List.range_succ, List.filter_append]
  congr 1
  have e : LL.getD i [] = xs := getD_at h
  by_cases c : y ∈ xs
  · rw [if_pos c]
    simp [e, c, -List.getD_eq_getElem?_getD]
  · rw [if_neg c]
    simp [e, c, -List.getD_eq_getElem?_getD]
theorem posN_len (LL : List (List Str)) (i : Nat) (y : Str) : (posN LL i y).length ≤ i := by
  have := List.length_filter_le (fun p => decide (y ∈ LL.getD p [])) (List.range i)
  rw [List.length_range] at this
  exact this
theorem pos_nil {LL : List (List Str)} {y : Str} : pos LL y ≠ [] ↔ ∃ xs ∈ LL, y ∈ xs := by
  unfold pos posN
  constructor
  · intro h
    cases e : (List.range LL.length).filter (fun p => decide (y ∈ LL.getD p [])) with
    | nil => exact absurd e h
    | cons p r =>
      have m : p ∈ (List.range LL.length).filter (fun p => decide (y ∈ LL.getD p [])) := by rw [e]; exact List.mem_cons_self
      obtain ⟨h1, h2⟩ := List.mem_filter.mp m
      obtain ⟨xs, ex⟩ := at_len (List.mem_range.mp h1)
      rw [decide_eq_true_iff, getD_at ex] at h2
      exact ⟨xs, List.mem_of_getElem? ex, h2⟩
  · rintro ⟨xs, hx, hy⟩ e
    obtain ⟨p, hp⟩ := List.getElem?_of_mem hx
    have m : p ∈ (List.range LL.length).filter (fun p => decide (y ∈ LL.getD p [])) := List.mem_filter.mpr ⟨List.mem_range.mpr (List.getElem?_eq_some_iff.mp hp).1, by rw [decide_eq_true_iff, getD_at hp]; exact hy⟩
    rw [e] at m
    cases m
def valI (ps : List Nat) : List V := ps.map fun (p : Nat) => V.int (p : Int)
def keyOf (ps : List Nat) : List Key := ps.map fun (p : Nat) => (Sum.inl (p : Int) : Key)
theorem keyOf_kV (ps : List Nat) : (keyOf ps).map kV = valI ps := by
  unfold keyOf valI
  rw [List.map_map]
  rfl
theorem keyOf_inj {ps qs : List Nat} (h : keyOf ps = keyOf qs) : ps = qs := by
  unfold keyOf at h
  exact (List.map_inj_right (f := fun (p : Nat) => (Sum.inl (p : Int) : Key)) (fun a b e => by
    have := Sum.inl.inj e
    omega)).mp h
abbrev Grp := List (List Nat × List Str)
def addG (G : Grp) (k : List Nat) (y : Str) : Grp := if (G.any fun p => decide (p.1 = k)) = true then G.map (fun p => if p.1 = k then (p.1, p.2 ++ [y]) else p) else G ++ [(k, [y])]
def grp (f : Str → List Nat) (zs : List Str) : Grp := zs.foldl (fun G y => addG G (f y) y) []
theorem grp_snoc (f : Str → List Nat) (zs : List Str) (y : Str) : grp f (zs ++ [y]) = addG (grp f zs) (f y) y := by
  unfold grp
  rw [List.foldl_append]
  rfl
structure GOk (f : Str → List Nat) (zs : List Str) (G : Grp) : Prop where
  nd : (G.map (·.1)).Nodup
  names : ∀ p ∈ G, p.2 ≠ [] ∧ p.2 = zs.filter fun y => decide (f y = p.1)
  all : ∀ y ∈ zs, ∃ p ∈ G, p.1 = f y
  first : G.Pairwise fun p q => ∀ a b, p.2.head? = some a → q.2.head? = some b → slt a b
theorem any_key {G : Grp} {k : List Nat} : (G.any fun p => decide (p.1 = k)) = true ↔ ∃ p ∈ G, p.1 = k := by
  rw [List.any_eq_true]
  constructor
  · rintro ⟨p, h, e⟩
    exact ⟨p, h, of_decide_eq_true e⟩
  · rintro ⟨p, h, e⟩
    exact ⟨p, h, decide_eq_true e⟩
theorem GOk.mem {f : Str → List Nat} {zs : List Str} {G : Grp} (g : GOk f zs G) {p : List Nat × List Str} (h : p ∈ G) {y : Str} (hy : y ∈ p.2) : y ∈ zs ∧ f y = p.1 := by
  rw [(g.names p h).2] at hy
  obtain ⟨h1, h2⟩ := List.mem_filter.mp hy
  exact ⟨h1, of_decide_eq_true h2⟩
theorem addG_ok {f : Str → List Nat} {zs : List Str} {G : Grp} {y : Str} (g : GOk f zs G) (hy : ∀ z ∈ zs, slt z y) : GOk f (zs ++ [y]) (addG G (f y) y) := by
  have key : ∀ (l : List Nat × List Str), l.1 = (if l.1 = f y then (l.1, l.2 ++ [y]) else l).1 := fun l => by split <;> rfl
  by_cases c : ∃ p ∈ G, p.1 = f y
  · have ca := any_key.mpr c
    unfold addG
    rw [if_pos ca]
    refine ⟨?_, fun p hp => ?_, fun z hz => ?_, ?_⟩
    · rw [List.map_map]
      have e : ((fun p : List Nat × List Str => p.1) ∘ fun p => if p.1 = f y then (p.1, p.2 ++ [y]) else p) = fun p => p.1 := funext fun p => (key p).symm
      rw [e]
      exact g.nd
    · obtain ⟨q, hq, rfl⟩ := List.mem_map.mp hp
      obtain ⟨n1, n2⟩ := g.names q hq
      by_cases e : q.1 = f y
      · rw [if_pos e]
        refine ⟨by simp, ?_⟩
        show q.2 ++ [y] = _
        rw [List.filter_append, ← n2]
        simp [e]
      · rw [if_neg e]
        refine ⟨n1, ?_⟩
        rw [List.filter_append, ← n2]
        simp [Ne.symm e]
    · rcases List.mem_append.mp hz with hz | hz
      · obtain ⟨p, hp, e⟩ := g.all z hz
        exact ⟨_, List.mem_map.mpr ⟨p, hp, rfl⟩, by rw [← key]; exact e⟩
      · rw [List.mem_singleton.mp hz]
        obtain ⟨p, hp, e⟩ := c
        exact ⟨_, List.mem_map.mpr ⟨p, hp, rfl⟩, by rw [← key]; exact e⟩
    · have hd : ∀ q ∈ G, (if q.1 = f y then (q.1, q.2 ++ [y]) else q).2.head? = q.2.head? := fun q hq => by
        by_cases e : q.1 = f y
        · rw [if_pos e]
          show (q.2 ++ [y]).head? = q.2.head?
          cases q2 : q.2 with
          | nil => exact absurd q2 (g.names q hq).1
          | cons a r => rfl
        · rw [if_neg e]
      refine List.pairwise_map.mpr (g.first.imp_of_mem fun hp hq h a b ea eb => h a b ?_ ?_)
      · rw [← hd _ hp]
        exact ea
      · rw [← hd _ hq]
        exact eb
  · have ca : ¬ (G.any fun p => decide (p.1 = f y)) = true := fun z => c (any_key.mp z)
    unfold addG
    rw [if_neg ca]
    have no : ∀ z ∈ zs, f z ≠ f y := fun z hz e => by
      obtain ⟨p, hp, q⟩ := g.all z hz
      exact c ⟨p, hp, q.trans e⟩
    refine ⟨?_, fun p hp => ?_, fun z hz => ?_, ?_⟩
    · rw [List.map_append]
      refine nd_snoc g.nd fun m => ?_
      obtain ⟨p, hp, e⟩ := List.mem_map.mp m
      exact c ⟨p, hp, e⟩
    · rcases List.mem_append.mp hp with hp | hp
      · obtain ⟨n1, n2⟩ := g.names p hp
        refine ⟨n1, ?_⟩
        have e : ¬ f y = p.1 := fun e => c ⟨p, hp, e.symm⟩
        rw [List.filter_append, ← n2]
        simp [e]
      · rw [List.mem_singleton.mp hp]
        refine ⟨by simp, ?_⟩
        show [y] = _
        rw [List.filter_append, List.filter_eq_nil_iff.mpr fun z hz q => no z hz (of_decide_eq_true q)]
        simp
    · rcases List.mem_append.mp hz with hz | hz
      · obtain ⟨p, hp, e⟩ := g.all z hz
        exact ⟨p, List.mem_append_left _ hp, e⟩
      · rw [List.mem_singleton.mp hz]
        exact ⟨_, List.mem_append_right _ (List.mem_singleton.mpr rfl), rfl⟩
    · refine List.pairwise_append.mpr ⟨g.first, List.pairwise_singleton _ _, fun p hp q hq a b ea eb => ?_⟩
      rw [List.mem_singleton.mp hq] at eb
      cases eb
      exact hy a (g.mem hp (List.mem_of_mem_head? ea)).1
theorem grp_take {f : Str → List Nat} {zs : List Str} (hz : Rising zs) : ∀ i, i ≤ zs.length → GOk f (zs.take i) (grp f (zs.take i))
  | 0, _ => ⟨List.nodup_nil, fun p hp => (by cases hp), fun y hy => (by cases hy), List.Pairwise.nil⟩
  | i + 1, h => by
    have e : zs[i]? = some zs[i] := List.getElem?_eq_getElem h
    rw [List.take_add_one, e]
    show GOk f (zs.take i ++ [zs[i]]) (grp f (zs.take i ++ [zs[i]]))
    rw [grp_snoc]
    refine addG_ok (grp_take hz i (by omega)) fun z m => ?_
    obtain ⟨j, hj⟩ := List.getElem?_of_mem m
    have ji : j < i := by
      have := (List.getElem?_eq_some_iff.mp hj).1
      rw [List.length_take] at this
      omega
    rw [List.getElem?_take_of_lt ji] at hj
    obtain ⟨hl, e2⟩ := List.getElem?_eq_some_iff.mp hj
    rw [← e2]
    exact List.pairwise_iff_getElem.mp hz.pw j i hl h ji
theorem grp_ok {f : Str → List Nat} {zs : List Str} (hz : Rising zs) : GOk f zs (grp f zs) := by
  have := grp_take (f := f) hz zs.length (Nat.le_refl _)
  rw [List.take_length] at this
  exact this
theorem addG_len (G : Grp) (k : List Nat) (y : Str) : (addG G k y).length ≤ G.length + 1 := by
  unfold addG
  split
  · rw [List.length_map]
    omega
  · rw [List.length_append]
    exact Nat.le_refl _
theorem grp_len (f : Str → List Nat) : ∀ (zs : List Str) (i : Nat), (grp f (zs.take i)).length ≤ i
  | zs, 0 => Nat.le_refl _
  | zs, i + 1 => by
    cases e : zs[i]? with
    | none =>
      rw [List.take_add_one, e]
      show (grp f (zs.take i ++ [])).length ≤ _
      rw [List.append_nil]
      exact Nat.le_succ_of_le (grp_len f zs i)
    | some y =>
      rw [List.take_add_one, e]
      show (grp f (zs.take i ++ [y])).length ≤ _
      rw [grp_snoc]
      exact Nat.le_trans (addG_len _ _ _) (Nat.succ_le_succ (grp_len f zs i))
abbrev GR (H : Hp) (p : List Key × V) (q : List Nat × List Str) : Prop := p.1 = keyOf q.1 ∧ ∃ b, p.2 = .ref b ∧ H b = some (.lst (q.2.map V.str))
abbrev GAt (H : Hp) (kvs : List (List Key × V)) (G : Grp) : Prop := Paired (GR H) kvs G
theorem gat_get {H : Hp} {kvs : List (List Key × V)} {G : Grp} (g : GAt H kvs G) (k : List Nat) : (valV kvs (keyOf k) = none ∧ ∀ q ∈ G, q.1 ≠ k) ∨ ∃ q b, q ∈ G ∧ q.1 = k ∧ valV kvs (keyOf k) = some (.ref b) ∧ H b = some (.lst (q.2.map V.str)) := by
  induction g with
  | nil => exact .inl ⟨valV_nil, fun q h => by cases h⟩
  | @cons p q ps qs r t ih =>
    obtain ⟨r1, b, r2, r3⟩ := r
    by_cases c : q.1 = k
    · refine .inr ⟨q, b, List.mem_cons_self, c, ?_, r3⟩
      unfold valV
      rw [List.find?_cons_of_pos (by rw [r1, c]; exact decide_eq_true rfl)]
      show some p.2 = _
      rw [r2]
    · have e : valV (p :: ps) (keyOf k) = valV ps (keyOf k) := by
        unfold valV
        rw [List.find?_cons_of_neg (by rw [r1]; intro z; exact c (keyOf_inj (of_decide_eq_true z)))]
      rw [e]
      rcases ih with ⟨h1, h2⟩ | ⟨q', b', h1, h2, h3, h4⟩
      · exact .inl ⟨h1, fun q' hq' => by
          rcases List.mem_cons.mp hq' with rfl | hq'
          · exact c
          · exact h2 q' hq'⟩
      · exact .inr ⟨q', b', List.mem_cons_of_mem _ h1, h2, h3, h4⟩
theorem gat_any {H : Hp} {kvs : List (List Key × V)} {G : Grp} (g : GAt H kvs G) (k : List Nat) : (kvs.any fun kv => decide (kv.1 = keyOf k)) = G.any fun p => decide (p.1 = k) := by
  induction g with
  | nil => rfl
  | @cons p q ps qs r t ih =>
    rw [List.any_cons, List.any_cons, ih, r.1]
    congr 1
    rw [Bool.eq_iff_iff, decide_eq_true_iff, decide_eq_true_iff]
    exact ⟨keyOf_inj, fun e => by rw [e]⟩
def SameL (H H' : Hp) : Prop := ∀ b xs, H b = some (.lst xs) → H' b = some (.lst xs)
theorem Same.toL {H H' : Hp} (s : Same H H') : SameL H H' := fun b xs e => s b _ e
theorem SameL.trans {H H' H'' : Hp} (a : SameL H H') (b : SameL H' H'') : SameL H H'' := fun c xs e => b c xs (a c xs e)
theorem sameL_upd {H : Hp} {p : Addr} {o : HO} (h : ∀ xs, H p ≠ some (.lst xs)) : SameL H (upd H p o) := fun b xs e => by
  rw [upd_ne (fun z => h xs (by rw [← z]; exact e))]
  exact e
theorem GAt.mono {H H' : Hp} {kvs : List (List Key × V)} {G : Grp} (g : GAt H kvs G) (s : SameL H H') : GAt H' kvs G := Paired.mapP g fun p q ⟨r1, b, r2, r3⟩ => ⟨r1, b, r2, s _ _ r3⟩
theorem gat_put {H : Hp} {kvs : List (List Key × V)} {G : Grp} {k : List Nat} {y : Str} {c : Addr} {old : List Str} (g : GAt H kvs G) (ho : ∀ q ∈ G, q.1 = k → q.2 = old) (hn : (∀ q ∈ G, q.1 ≠ k) → old = []) (hc : H c = some (.lst ((old ++ [y]).map V.str))) : GAt H (putK kvs (keyOf k) (.ref c)) (addG G k y) := by
  unfold putK addG
  rw [gat_any g k]
  by_cases a : (G.any fun p => decide (p.1 = k)) = true
  · rw [if_pos a, if_pos a]
    clear a hn
    induction g with
    | nil => exact .nil
    | @cons p q ps qs r t ih =>
      rw [List.map_cons, List.map_cons]
      refine .cons ?_ (ih fun q' hq' => ho q' (List.mem_cons_of_mem _ hq'))
      by_cases e : q.1 = k
      · rw [if_pos (by rw [r.1, e]), if_pos e]
        refine ⟨r.1, c, rfl, ?_⟩
        show H c = some (.lst ((q.2 ++ [y]).map V.str))
        rw [ho q List.mem_cons_self e]
        exact hc
      · rw [if_neg (by rw [r.1]; exact fun z => e (keyOf_inj z)), if_neg e]
        exact r
  · rw [if_neg a, if_neg a]
    have no : ∀ q ∈ G, q.1 ≠ k := fun q hq e => a (any_key.mpr ⟨q, hq, e⟩)
    rw [hn no] at hc
    clear a ho hn no
    induction g with
    | nil => exact .cons ⟨rfl, c, rfl, hc⟩ .nil
    | cons r t ih => exact .cons r ih
structure SharesAt (H : Hp) (ts : List Addr) (G : Grp) : Prop where
  len : ts.length = G.length
  at_ : ∀ (i : Nat) (t : Addr) (p : List Nat × List Str), ts[i]? = some t → G[i]? = some p → ∃ a b : Addr, H t = some (.tup [V.ref a, V.ref b]) ∧ H a = some (.lst (valI p.1)) ∧ H b = some (.lst (p.2.map V.str))
def PlaceAt (H : Hp) (o : Option V) (ps : List Nat) : Prop := (o = none ∧ ps = []) ∨ ∃ b, o = some (.ref b) ∧ H b = some (.lst (valI ps)) ∧ ps ≠ []
theorem PlaceAt.mono {H H' : Hp} {o : Option V} {ps : List Nat} (h : PlaceAt H o ps) (s : SameL H H') : PlaceAt H' o ps := by
  rcases h with h | ⟨b, h1, h2, h3⟩
  · exact .inl h
  · exact .inr ⟨b, h1, s _ _ h2, h3⟩
def spPlaces : Sp := fun vs H Q _ => ∃ (a : Addr) (rs : List Addr) (LL : List (List Str)), vs = [.ref a] ∧ Rolls H a rs LL ∧ Fit LL ∧
  ∀ (d : Addr) (kvs : List (Key × V)) (H' : Hp), H d = none → H' d = some (.dK kvs) → kvs.length ≤ 1000000 → (∀ i : Int, valV kvs (Sum.inl i) = none) → (∀ y, PlaceAt H' (valV kvs (Sum.inr y)) (pos LL y)) → Same H H' → Q (.ref d) H'
def spShares : Sp := fun vs H Q _ => ∃ (a : Addr) (rs : List Addr) (LL : List (List Str)), vs = [.ref a] ∧ Rolls H a rs LL ∧ Fit LL ∧
  ∀ (l : Addr) (ts : List Addr) (zs : List Str) (H' : Hp), Rising zs → (∀ y, y ∈ zs ↔ ∃ xs ∈ LL, y ∈ xs) → H l = none → H' l = some (.lst (ts.map V.ref)) → SharesAt H' ts (grp (pos LL) zs) → Same H H' → Q (.ref l) H'
theorem key_inj {G : Grp} (nd : (G.map (·.1)).Nodup) {p q : List Nat × List Str} (hp : p ∈ G) (hq : q ∈ G) (e : p.1 = q.1) : p = q := by
  obtain ⟨i, hi⟩ := List.getElem?_of_mem hp
  obtain ⟨j, hj⟩ := List.getElem?_of_mem hq
  have il := (List.getElem?_eq_some_iff.mp hi).1
  have a : (G.map (·.1))[i]? = some p.1 := by rw [List.getElem?_map, hi]; rfl
  have b : (G.map (·.1))[j]? = some p.1 := by rw [List.getElem?_map, hj, e]; rfl
  have ij := (List.getElem?_inj (i := i) (by rw [List.length_map]; exact il) nd).mp (a.trans b.symm)
  rw [ij, hj] at hi
  exact (Option.some.inj hi).symm
theorem SharesAt.mono {H H' : Hp} {ts : List Addr} {G : Grp} (h : SharesAt H ts G) (s : Same H H') : SharesAt H' ts G := ⟨h.len, fun i t p e1 e2 => by
  obtain ⟨a, b, h1, h2, h3⟩ := h.at_ i t p e1 e2
  exact ⟨a, b, s _ _ h1, s _ _ h2, s _ _ h3⟩⟩
theorem SharesAt.snoc {H : Hp} {ts : List Addr} {G : Grp} {t a b : Addr} {p : List Nat × List Str} (h : SharesAt H ts G) (h1 : H t = some (.tup [V.ref a, V.ref b])) (h2 : H a = some (.lst (valI p.1))) (h3 : H b = some (.lst (p.2.map V.str))) : SharesAt H (ts ++ [t]) (G ++ [p]) := by
  refine ⟨by rw [List.length_append, List.length_append, h.len]; rfl, fun i t' p' e1 e2 => ?_⟩
  by_cases hi : i < ts.length
  · rw [List.getElem?_append_left hi] at e1
    rw [List.getElem?_append_left (by rw [← h.len]; exact hi)] at e2
    exact h.at_ i t' p' e1 e2
  · rw [List.getElem?_append_right (by omega)] at e1
    rw [List.getElem?_append_right (by rw [← h.len]; omega), ← h.len] at e2
    have z : i - ts.length = 0 := by
      have := (List.getElem?_eq_some_iff.mp e1).1
      simp at this
      omega
    rw [z] at e1 e2
    cases e1
    cases e2
    exact ⟨a, b, h1, h2, h3⟩
abbrev rListOf (K : PySem.W.Frag) : List V → Hp → VK → Prop := fun xs H Q => ∃ p ys, xs = [.ref p] ∧ (SqL K H p ys ∨ SqT K H p ys) ∧ ∀ l, H l = none → Q (.ref l) (upd H l (.lst ys))
def hide (H : Hp) (e : Addr) : Hp := fun x => if x = e then none else H x
theorem hide_ne {H : Hp} {e x : Addr} (h : x ≠ e) : hide H e x = H x := if_neg h
theorem hide_same (H : Hp) (e : Addr) : Same (hide H e) H := fun b o h => by
  unfold hide at h
  by_cases c : b = e
  · rw [if_pos c] at h
    cases h
  · rw [if_neg c] at h
    exact h
theorem hide_mono {H H' : Hp} (s : Same H H') (e : Addr) : Same (hide H e) (hide H' e) := fun b o h => by
  unfold hide at h ⊢
  by_cases c : b = e
  · rw [if_pos c] at h
    cases h
  · rw [if_neg c] at h ⊢
    exact s b o h
theorem hide_upd (H : Hp) (e : Addr) (o : HO) : hide (upd H e o) e = hide H e := by
  funext x
  unfold hide
  by_cases c : x = e
  · rw [if_pos c, if_pos c]
  · rw [if_neg c, if_neg c, upd_ne c]
end LB
end
section
namespace LB
open PySem L2 CM
inductive Nd where
  | s (y : Str) | i (k : Nat) | ints (ps : List Nat) | strs (ns : List Str) | part (p : List Nat × List Str) | top (G : Grp) | two (p : Str × Str) | twos (L : List (Str × Str))
def Nd.kids : Nd → List Nd
  | .ints ps => ps.map .i
  | .strs ns => ns.map .s
  | .part p => [.ints p.1, .strs p.2]
  | .top G => G.map .part
  | .two p => [.s p.1, .s p.2]
  | .twos L => L.map .two
  | _ => []
def Nd.kind : Nd → Nat
  | .s _ => 0 | .i _ => 1 | .ints _ => 2 | .strs _ => 2 | .part _ => 3 | .top _ => 2 | .two _ => 3 | .twos _ => 2
def Nd.size : Nd → Nat
  | .s _ => 1 | .i _ => 1 | .ints ps => 1 + ps.length | .strs ns => 1 + ns.length | .part p => 3 + p.1.length + p.2.length
  | .top G => 1 + (G.map fun p => 3 + p.1.length + p.2.length).sum | .two _ => 3 | .twos L => 1 + (L.map fun _ => 3).sum
def sizes (ms : List Nd) : Nat := (ms.map Nd.size).sum
theorem sum_ones {α : Type} (f : α → Nd) (h : ∀ a, (f a).size = 1) : ∀ xs : List α, sizes (xs.map f) = xs.length
  | [] => rfl
  | x :: r => by
    show (f x).size + sizes (r.map f) = _
    rw [h x, sum_ones f h r, List.length_cons]
    omega
theorem size_kids : ∀ n : Nd, 2 ≤ n.kind → sizes n.kids + 1 = n.size
  | .s _, h => absurd h (by simp [Nd.kind])
  | .i _, h => absurd h (by simp [Nd.kind])
  | .ints ps, _ => by
    show sizes (ps.map .i) + 1 = 1 + ps.length
    rw [sum_ones _ (fun _ => rfl)]
    omega
  | .strs ns, _ => by
    show sizes (ns.map .s) + 1 = 1 + ns.length
    rw [sum_ones _ (fun _ => rfl)]
    omega
  | .part p, _ => by
    show ((1 + p.1.length) + ((1 + p.2.length) + 0)) + 1 = 3 + p.1.length + p.2.length
    omega
  | .top G, _ => by
    show ((G.map Nd.part).map Nd.size).sum + 1 = 1 + _
    rw [List.map_map]
    show (G.map fun p => 3 + p.1.length + p.2.length).sum + 1 = _
    omega
  | .two p, _ => rfl
  | .twos L, _ => by
    show ((L.map Nd.two).map Nd.size).sum + 1 = 1 + _
    rw [List.map_map]
    show (L.map fun _ => 3).sum + 1 = _
    omega
def IsN (H : Hp) : Nd → V → Prop
  | .s y, v => v = .str y
  | .i k, v => v = .int (k : Int)
  | .ints ps, v => ∃ a, v = .ref a ∧ H a = some (.lst (valI ps))
  | .strs ns, v => ∃ a, v = .ref a ∧ H a = some (.lst (ns.map V.str))
  | .part p, v => ∃ t a b, v = .ref t ∧ H t = some (.tup [V.ref a, V.ref b]) ∧ H a = some (.lst (valI p.1)) ∧ H b = some (.lst (p.2.map V.str))
  | .top G, v => ∃ a ts, v = .ref a ∧ H a = some (.lst (ts.map V.ref)) ∧ SharesAt H ts G
  | .two p, v => ∃ t, v = .ref t ∧ H t = some (.tup [V.str p.1, V.str p.2])
  | .twos L, v => ∃ a ts, v = .ref a ∧ H a = some (.lst (ts.map V.ref)) ∧ PairsAt H ts L
def Opens (H : Hp) (n : Nd) (vs : List V) : Prop := vs.length = n.kids.length ∧ ∀ (k : Nat) (m : Nd), n.kids[k]? = some m → ∃ u, vs[k]? = some u ∧ IsN H m u
theorem map_at {α β : Type} {f : α → β} {xs : List α} {k : Nat} {m : β} (h : (xs.map f)[k]? = some m) : ∃ x, xs[k]? = some x ∧ m = f x := by
  rw [List.getElem?_map] at h
  cases e : xs[k]? with
  | none => rw [e] at h; cases h
  | some x => rw [e] at h; exact ⟨x, rfl, (Option.some.inj h).symm⟩
theorem two_at {α : Type} {a b m : α} {k : Nat} (h : [a, b][k]? = some m) : (k = 0 ∧ m = a) ∨ (k = 1 ∧ m = b) := by
  match k, h with
  | 0, h => exact .inl ⟨rfl, by simpa using h.symm⟩
  | 1, h => exact .inr ⟨rfl, by simpa using h.symm⟩
  | k + 2, h => simp at h
theorem open_list {H : Hp} : ∀ {n : Nd} {v : V}, n.kind = 2 → IsN H n v → ∃ a vs, v = .ref a ∧ H a = some (.lst vs) ∧ Opens H n vs
  | .s _, _, h, _ => absurd h (by simp [Nd.kind])
  | .i _, _, h, _ => absurd h (by simp [Nd.kind])
  | .part _, _, h, _ => absurd h (by simp [Nd.kind])
  | .two _, _, h, _ => absurd h (by simp [Nd.kind])
  | .ints ps, v, _, h => by
    obtain ⟨a, rfl, ha⟩ := h
    refine ⟨a, _, rfl, ha, by show (valI ps).length = (ps.map Nd.i).length; unfold valI; rw [List.length_map, List.length_map], fun k m e => ?_⟩
    obtain ⟨p, ep, rfl⟩ := map_at (show (ps.map Nd.i)[k]? = some m from e)
    exact ⟨_, by unfold valI; rw [List.getElem?_map, ep]; rfl, rfl⟩
  | .strs ns, v, _, h => by
    obtain ⟨a, rfl, ha⟩ := h
    refine ⟨a, _, rfl, ha, by show (ns.map V.str).length = (ns.map Nd.s).length; rw [List.length_map, List.length_map], fun k m e => ?_⟩
    obtain ⟨p, ep, rfl⟩ := map_at (show (ns.map Nd.s)[k]? = some m from e)
    exact ⟨_, by rw [List.getElem?_map, ep]; rfl, rfl⟩
  | .top G, v, _, h => by
    obtain ⟨a, ts, rfl, ha, sh⟩ := h
    refine ⟨a, _, rfl, ha, by show (ts.map V.ref).length = (G.map Nd.part).length; rw [List.length_map, List.length_map, sh.len], fun k m e => ?_⟩
    obtain ⟨p, ep, rfl⟩ := map_at (show (G.map Nd.part)[k]? = some m from e)
    obtain ⟨t, et⟩ := at_len (show k < ts.length by rw [sh.len]; exact (List.getElem?_eq_some_iff.mp ep).1)
    obtain ⟨x, y, h1, h2, h3⟩ := sh.at_ k t p et ep
    exact ⟨.ref t, by rw [List.getElem?_map, et]; rfl, t, x, y, rfl, h1, h2, h3⟩
  | .twos L, v, _, h => by
    obtain ⟨a, ts, rfl, ha, sh⟩ := h
    refine ⟨a, _, rfl, ha, by show (ts.map V.ref).length = (L.map Nd.two).length; rw [List.length_map, List.length_map, sh.len], fun k m e => ?_⟩
    obtain ⟨p, ep, rfl⟩ := map_at (show (L.map Nd.two)[k]? = some m from e)
    obtain ⟨t, et⟩ := at_len (show k < ts.length by rw [sh.len]; exact (List.getElem?_eq_some_iff.mp ep).1)
    exact ⟨.ref t, by rw [List.getElem?_map, et]; rfl, t, rfl, sh.at_ k t p et ep⟩
theorem open_tup {H : Hp} : ∀ {n : Nd} {v : V}, n.kind = 3 → IsN H n v → ∃ a vs, v = .ref a ∧ H a = some (.tup vs) ∧ Opens H n vs
  | .s _, _, h, _ => absurd h (by simp [Nd.kind])
  | .i _, _, h, _ => absurd h (by simp [Nd.kind])
  | .ints _, _, h, _ => absurd h (by simp [Nd.kind])
  | .strs _, _, h, _ => absurd h (by simp [Nd.kind])
  | .top _, _, h, _ => absurd h (by simp [Nd.kind])
  | .twos _, _, h, _ => absurd h (by simp [Nd.kind])
  | .part p, v, _, h => by
    obtain ⟨t, a, b, rfl, ht, ha, hb⟩ := h
    refine ⟨t, _, rfl, ht, rfl, fun k m e => ?_⟩
    rcases two_at (show [Nd.ints p.1, Nd.strs p.2][k]? = some m from e) with ⟨rfl, rfl⟩ | ⟨rfl, rfl⟩
    · exact ⟨.ref a, rfl, a, rfl, ha⟩
    · exact ⟨.ref b, rfl, b, rfl, hb⟩
  | .two p, v, _, h => by
    obtain ⟨t, rfl, ht⟩ := h
    refine ⟨t, _, rfl, ht, rfl, fun k m e => ?_⟩
    rcases two_at (show [Nd.s p.1, Nd.s p.2][k]? = some m from e) with ⟨rfl, rfl⟩ | ⟨rfl, rfl⟩
    · exact ⟨_, rfl, rfl⟩
    · exact ⟨_, rfl, rfl⟩
theorem leaf_s {H : Hp} : ∀ {n : Nd} {v : V}, n.kind = 0 → IsN H n v → ∃ y, n = .s y ∧ v = .str y
  | .s y, _, _, h => ⟨y, rfl, h⟩
  | .i _, _, h, _ => absurd h (by simp [Nd.kind])
  | .ints _, _, h, _ => absurd h (by simp [Nd.kind])
  | .strs _, _, h, _ => absurd h (by simp [Nd.kind])
  | .part _, _, h, _ => absurd h (by simp [Nd.kind])
  | .top _, _, h, _ => absurd h (by simp [Nd.kind])
  | .two _, _, h, _ => absurd h (by simp [Nd.kind])
  | .twos _, _, h, _ => absurd h (by simp [Nd.kind])
theorem leaf_i {H : Hp} : ∀ {n : Nd} {v : V}, n.kind = 1 → IsN H n v → ∃ k : Nat, n = .i k ∧ v = .int (k : Int)
  | .i k, _, _, h => ⟨k, rfl, h⟩
  | .s _, _, h, _ => absurd h (by simp [Nd.kind])
  | .ints _, _, h, _ => absurd h (by simp [Nd.kind])
  | .strs _, _, h, _ => absurd h (by simp [Nd.kind])
  | .part _, _, h, _ => absurd h (by simp [Nd.kind])
  | .top _, _, h, _ => absurd h (by simp [Nd.kind])
  | .two _, _, h, _ => absurd h (by simp [Nd.kind])
  | .twos _, _, h, _ => absurd h (by simp [Nd.kind])
theorem kinds (n : Nd) : n.kind = 0 ∨ n.kind = 1 ∨ n.kind = 2 ∨ n.kind = 3 := by
  cases n <;> simp [Nd.kind]
theorem size_pos (n : Nd) : 1 ≤ n.size := by
  cases n <;> simp [Nd.size] <;> omega
structure TodoAt (H H' : Hp) (ws : List Addr) (ms : List Nd) : Prop where
  len : ws.length = ms.length
  at_ : ∀ (k : Nat) (w : Addr) (m : Nd), ws[k]? = some w → ms[k]? = some m → ∃ u v, H' w = some (.tup [u, v]) ∧ IsN H m u ∧ IsN H m v
theorem TodoAt.tups {H H' H'' : Hp} {ws : List Addr} {ms : List Nd} (h : TodoAt H H' ws ms) (s : ∀ b xs, H' b = some (.tup xs) → H'' b = some (.tup xs)) : TodoAt H H'' ws ms := ⟨h.len, fun k w m e1 e2 => by
  obtain ⟨u, v, h1, h2, h3⟩ := h.at_ k w m e1 e2
  exact ⟨u, v, s _ _ h1, h2, h3⟩⟩
theorem TodoAt.snoc {H H' : Hp} {ws : List Addr} {ms : List Nd} {w : Addr} {m : Nd} {u v : V} (h : TodoAt H H' ws ms) (h1 : H' w = some (.tup [u, v])) (h2 : IsN H m u) (h3 : IsN H m v) : TodoAt H H' (ws ++ [w]) (ms ++ [m]) := by
  refine ⟨by rw [List.length_append, List.length_append, h.len]; rfl, fun k w' m' e1 e2 => ?_⟩
  by_cases hk : k < ws.length
  · rw [List.getElem?_append_left hk] at e1
    rw [List.getElem?_append_left (by rw [← h.len]; exact hk)] at e2
    exact h.at_ k w' m' e1 e2
  · rw [List.getElem?_append_right (by omega)] at e1
    rw [List.getElem?_append_right (by rw [← h.len]; omega), ← h.len] at e2
    have z : k - ws.length = 0 := by
      have := (List.getElem?_eq_some_iff.mp e1).1
      simp at this
      omega
    rw [z] at e1 e2
    cases e1
    cases e2
    exact ⟨u, v, h1, h2, h3⟩
theorem sizes_snoc (ms : List Nd) (m : Nd) : sizes (ms ++ [m]) = sizes ms + m.size := by
  unfold sizes
  rw [List.map_append, List.sum_append]
  simp
theorem sizes_app (ms ns : List Nd) : sizes (ms ++ ns) = sizes ms + sizes ns := by
  unfold sizes
  rw [List.map_append, List.sum_append]
theorem sizes_len : ∀ ms : List Nd, ms.length ≤ sizes ms
  | [] => Nat.le_refl _
  | m :: r => by
    show r.length + 1 ≤ m.size + sizes r
    have := sizes_len r
    have := size_pos m
    omega
def spSo : Sp := fun vs H Q _ => ∃ (u v : V) (n : Nd), vs = [u, v] ∧ IsN H n u ∧ IsN H n v ∧ n.size ≤ 1000000 ∧ ∀ H', Same H H' → Q (.bl true) H'
end LB
end
section
namespace L2
open PySem PySem.Spec PyProof.Rows
structure Fly (P : Program) (w : World) (C : Addr) (outer : List Env) (H H' : Hp) (s s' : Shared) (B : Heap) (ea : Addr) (a0 : Value) : Prop where
  os : s'.os = s.os
  bare : AllBare s'.gens
  hok : HOk P w H' B
  fly : Heap.FlyingW B outer ea (.ref C) a0 s'.heap
  keep : ∀ b o, s.heap.get? b = some o → H b = none → b ∉ frs outer → B.get? b = some o
  slot : ∀ b o, s.heap.get? b = some o → H b = none → b ∈ frs outer → ∃ sl, s'.heap.get? b = some { o with slots := sl }
  there : ∀ b o, s.heap.get? b = some o → b ∉ frs outer → ∃ o', B.get? b = some o'
  free : ∀ b o, s.heap.get? b = some o → H b = none → H' b = none
  tups : ∀ b xs, H b = some (.tup xs) → H' b = some (.tup xs)
  frzs : ∀ b o u, H b = some (.frz o u) → H' b = some (.frz o u)
  tbls : ∀ b ps, H b = some (.tbl ps) → ∃ more, H' b = some (.tbl (ps ++ more))
def CX1 (P : Program) (w : World) (C : Addr) : CXT := fun outer H s E e s' => ∃ (ea : Addr) (a0 : Value) (B : Heap) (H' : Hp), e = .ref ea ∧ Fly P w C outer H H' s s' B ea a0 ∧ E (.ref C) none H'
theorem Fly.un {P : Program} {w : World} {C : Addr} {outer : List Env} {H H' : Hp} {s s' : Shared} {B : Heap} {ea : Addr} {a0 : Value} (F : Fly P w C outer H H' s s' B ea a0) (frf : ∀ b ∈ frs outer, H b = none) : Un (frs outer) [] H H' s.heap s'.heap where
  keep := fun b o e n hb _ => F.fly.1 b o (F.keep b o e n hb)
  slot := fun b o e n hb _ => F.slot b o e n hb
  free := fun b o e n _ => F.free b o e n
  there := fun b o e _ => by
    by_cases hb : b ∈ frs outer
    · obtain ⟨sl, q⟩ := F.slot b o e (frf b hb) hb
      exact ⟨_, q⟩
    · obtain ⟨o', q⟩ := F.there b o e hb
      exact ⟨o', F.fly.1 b o' q⟩
  tups := F.tups
  frzs := F.frzs
  tbls := F.tbls
theorem Fly.on {P : Program} {w : World} {C : Addr} {outer : List Env} {H H' : Hp} {s s' : Shared} {B h'' : Heap} {ea : Addr} {a0 : Value} (F : Fly P w C outer H H' s s' B ea a0) (fr : ∀ b ∈ frs outer, ∃ o, s.heap.get? b = some o ∧ ∀ vs, o.data ≠ .fields vs) (fl : Heap.FlyingW B outer ea (.ref C) a0 h'') (up : s'.heap.UpToSlots h'') : Fly P w C outer H H' s { s' with heap := h'' } B ea a0 :=
  ⟨F.os, F.bare, F.hok, fl, F.keep, fun b o e n hb => by
    obtain ⟨sl, q⟩ := F.slot b o e n hb
    obtain ⟨o', e', nf⟩ := fr b hb
    rw [e] at e'
    cases e'
    obtain ⟨sl', q'⟩ := up b _ q nf
    exact ⟨sl', q'⟩, F.there, F.free, F.tups, F.frzs, F.tbls⟩
section
variable {P : Program} {w : World} {C : Addr} {K : PySem.W.Frag} {mg : Str → Option Value} {base : Heap} {N : List Str} {qual : Str} {scope : Scope} {f : Addr} {cd : Value} {A : Around} {outer : List Env} {s : Shared} {H : Hp} {E : XK}
theorem notStack {X : Cx} {pins : List (Addr × Obj)} {σ : St} {H1 : Hp} {s1 : Shared} (I : Inv X pins σ H1 s1) {b : Addr} {o : Obj} (e : X.s₀.heap.get? b = some o) (hb : b ∉ X.fs) : b ∉ frs X.stack := fun m => by
  rcases List.mem_cons.mp (I.stkSub b m) with z | z
  · have := Heap.lt_size e
    rw [z] at this
    exact absurd (Nat.lt_of_lt_of_le this I.ok.above) (Nat.lt_irrefl _)
  · exact hb z
theorem pass1 : Passes (CX1 P w C) (cxOf (CX1 P w C) P w K mg base N qual scope f cd A outer s H E) E := by
  intro pins σ H1 s1 e s2 I h
  obtain ⟨ea, a0, B, H', rfl, F, hE⟩ := h
  refine wpAny_leaves_onW I.ok.frames rfl F.fly fun h' fl up => ?_
  have ib : Un (frs outer) [] H H1 s.heap s1.heap := I.base
  refine ⟨ea, a0, B, H', rfl, ⟨F.os.trans I.os, F.bare, F.hok, fl, fun b o q n hb => ?_, fun b o q n hb => ?_, fun b o q hb => ?_, fun b o q n => ?_, fun b xs q => F.tups b xs (ib.tups b xs q), fun b o u q => F.frzs b o u (ib.frzs b o u q), fun b ps q => ?_⟩, hE⟩
  · exact F.keep b o (ib.keep b o q n hb (by simp)) (ib.free b o q n (by simp)) (notStack I q hb)
  · obtain ⟨sl, e1⟩ := ib.slot b o q n hb (by simp)
    obtain ⟨_, o', e', nf⟩ := I.ok.funs.mem hb
    have e' : s.heap.get? b = some o' := e'
    rw [q] at e'
    cases e'
    have ms : b ∈ frs (envOfC qual scope s.heap.objs.size f cd :: outer) := List.mem_cons_of_mem _ hb
    obtain ⟨sl2, e2⟩ := F.slot b _ e1 (ib.free b o q n (by simp)) ms
    obtain ⟨sl3, e3⟩ := up b _ e2 nf
    exact ⟨sl3, e3⟩
  · obtain ⟨o1, e1⟩ := ib.there b o q (by simp)
    exact F.there b o1 e1 (notStack I q hb)
  · obtain ⟨o1, e1⟩ := ib.there b o q (by simp)
    exact F.free b o1 e1 (ib.free b o q n (by simp))
  · obtain ⟨m1, e1⟩ := ib.tbls b ps q
    obtain ⟨m2, e2⟩ := F.tbls b _ e1
    exact ⟨m1 ++ m2, by rw [e2, Array.append_assoc]⟩
theorem leave1 {pins : List (Addr × Obj)} {σ : St} {H1 : Hp} {s1 : Shared} {h' : Heap} {ea : Addr} {args : List Value} (I : Inv (cxOf (CX1 P w C) P w K mg base N qual scope f cd A outer s H E) pins σ H1 s1) (hx : Heap.MadeExcOf s1.heap h' ea (.ref C) args) (hE : E (.ref C) none H1) :
    (cxOf (CX1 P w C) P w K mg base N qual scope f cd A outer s H E).xe (.ref ea) { s1 with heap := h' } := by
  have ib : Un (frs outer) [] H H1 s.heap s1.heap := I.base
  have sf := I.stkFree
  have hfr := PySem.W.funFrames_hide (as := frs (envOfC qual scope s.heap.objs.size f cd :: outer)) I.stack fun env he b hb => List.mem_filterMap.mpr ⟨env, he, hb⟩
  refine wpAny_leaves_madeW (s := { s1 with heap := h' }) I.ok.frames rfl (fun b o q => PySem.W.of_hideAll _ q) hfr hx fun h'' t fl tup tn up => ?_
  refine ⟨ea, .ref t, _, H1, rfl, ⟨I.os, I.bare, ?_, fl, fun b o q n hb => ?_, fun b o q n hb => ?_, fun b o q hb => ?_, fun b o q n => ib.free b o q n (by simp), ib.tups, ib.frzs, ib.tbls⟩, hE⟩
  · intro a o e
    refine (I.hok a o e).stay (fun b u hb q => PySem.W.hideAll_get _ q fun m => ?_) (fun _ z => z) (fun _ _ z => z)
    have := sf b m
    rcases hb with rfl | hb
    · rw [e] at this
      cases this
    · rw [hb] at this
      cases this
  · exact PySem.W.hideAll_get _ (ib.keep b o q n hb (by simp)) (notStack I q hb)
  · obtain ⟨sl, e1⟩ := ib.slot b o q n hb (by simp)
    obtain ⟨_, o', e', nf⟩ := I.ok.funs.mem hb
    have e' : s.heap.get? b = some o' := e'
    rw [q] at e'
    cases e'
    obtain ⟨sl3, e3⟩ := up b _ (hx.keeps _ _ e1) nf
    exact ⟨sl3, e3⟩
  · obtain ⟨o1, e1⟩ := ib.there b o q (by simp)
    exact ⟨o1, PySem.W.hideAll_get _ e1 (notStack I q hb)⟩
end
theorem FnOk.calm {P : Program} {w : World} {K : PySem.W.Frag} {mg : Str → Option Value} {base : Heap} {CX : CXT} {k : Nat} {f : Addr} {fd : FuncData} {ps : List Str} {sp : Sp} (F : FnOk P w K mg base CX0 k f fd ps sp) : FnOk P w K mg base CX k f fd ps sp :=
  ⟨F.len, fun A outer s H args us vs Q E hr he hb hv hs => codeAny_mono (F.run A outer s H args us vs Q E hr he hb hv hs) fun r s' h => by
    cases r with
    | ok fl => cases fl <;> exact h
    | error e => exact False.elim h⟩
theorem FnOk.both {P : Program} {w : World} {K : PySem.W.Frag} {mg : Str → Option Value} {base : Heap} {CX : CXT} {k : Nat} {f : Addr} {fd : FuncData} {ps : List Str} {sp sp' : Sp} (F : FnOk P w K mg base CX k f fd ps sp) (G : FnOk P w K mg base CX k f fd ps sp') : FnOk P w K mg base CX k f fd ps (fun vs H Q E => sp vs H Q E ∨ sp' vs H Q E) :=
  ⟨fun vs H Q E h => h.elim (F.len vs H Q E) (G.len vs H Q E), fun A outer s H args us vs Q E hr he hb hv hs => hs.elim (F.run A outer s H args us vs Q E hr he hb hv) (G.run A outer s H args us vs Q E hr he hb hv)⟩
theorem Fun.ok1 {P : Program} {w : World} {C : Addr} {K : PySem.W.Frag} {mg : Str → Option Value} {base : Heap} {x qual : Str} {st : Stmt} {f : Addr} {fd : FuncData} {N ps : List Str} {k : Nat} {sp : Sp} (F : Fun K x qual st f fd) (S : FnScope N ps (defScope st)) (len : ∀ vs H Q E, sp vs H Q E → vs.length = ps.length)
    (hbody : ∀ (cdv : Value) (A : Around) (outer : List Env) (s : Shared) (H : Hp) (vs : List V) (Q : VK) (E : XK), Room k (A.deeper (envOfC qual (defScope st) s.heap.objs.size f cdv)) → sp vs H Q E →
      ∃ t, PSs (cxOf (CX1 P w C) P w K mg base N qual (defScope st) f cdv A outer s H E) (defBody st) t ∧ t { nx := fun _ H' => Q .non H', rt := Q } (start N vs) H) : FnOk P w K mg base (CX1 P w C) (k + 1) f fd ps sp := by
  obtain ⟨oc, od, kV, doc, pm, an, cdv, ct, osl, rfl, lk, hcd⟩ := F.ex
  exact fn_of lk hcd S len fun A outer s H vs Q E hr hsp => hbody cdv A outer s H vs Q E hr hsp
def tJoin (t : TS) : TS := fun D σ H => ∃ J : St → Hp → Prop, t { D with nx := J } σ H ∧ ∀ σ' H', J σ' H' → D.nx σ' H'
theorem ps_join {X : Cx} {st : Stmt} {t : TS} (h : PS X st t) : PS X st (tJoin t) := by
  intro pins s σ H D I hq
  obtain ⟨J, h1, h2⟩ := hq
  refine thn (h pins s σ H _ I h1) fun fl s' q => ?_
  cases fl with
  | next => obtain ⟨σ', H', I', q⟩ := q; exact ⟨σ', H', I', h2 _ _ q⟩
  | brk => exact q
  | cont => exact q
  | ret u => exact q
end L2
end
section
namespace L2
open PySem PySem.Spec PyProof.Rows
def Short (x : Str) : Prop := (reprText x).length ≤ 3000
theorem list_text_len : ∀ (ts : List Str) (c : Nat), (∀ t ∈ ts, t.length ≤ c) → (listText ts).length ≤ ts.length * (c + 2) + 2
  | [], c, _ => by
    show (listText []).length ≤ _
    have : (listText []).length = 2 := by decide +kernel
    rw [this]
    omega
  | t :: r, c, h => by
    have hp : ∀ us : List Str, (∀ u ∈ us, u.length ≤ c) → piled us ≤ us.length * (c + 2) := by
      intro us
      induction us with
      | nil => intro _; exact Nat.zero_le _
      | cons u us ih =>
        intro hu
        have h1 := ih fun v hv => hu v (List.mem_cons_of_mem _ hv)
        have h2 := hu u List.mem_cons_self
        rw [piled_cons, List.length_cons, Nat.succ_mul]
        omega
    have e1 := textFrom_length_pos r 1 (("[" : Str) ++ (if (0 : Nat) > 0 then ", " else "" : String) ++ t) (Nat.succ_pos 0)
    have e2 : (("[" : Str) ++ (if (0 : Nat) > 0 then ", " else "" : String) ++ t).length = 1 + t.length := by rw [strLen_append, strLen_append]; rfl
    have e3 : (listText (t :: r)).length = (textFrom 1 (("[" : Str) ++ (if (0 : Nat) > 0 then ", " else "" : String) ++ t) r).length + 1 := by
      show (textFrom 0 "[" (t :: r) ++ "]").length = _
      rw [strLen_append]
      rfl
    have h1 := hp r fun v hv => h v (List.mem_cons_of_mem _ hv)
    have h2 := h t List.mem_cons_self
    rw [e3, e1, e2, List.length_cons, Nat.succ_mul]
    omega
section
variable {M : Model} {prog : Program} {w : World} {A : Around} {E : Value → Shared → Prop} {s : Shared}
theorem repr_head_any {Q : Fin → Shared → Prop} {a : Addr} {o : Obj} {x : Value} {l : List Value} {n : Nat} {b : Nat} (hget : s.heap.get? a = some o) (hd : o.data = .seq (x :: l).toArray n)
    (h1 : ∀ u tk, Q (.done (.ret (.str "[...]" u))) { s with toks := tk }) (h2 : wpAny M A (do again (.builtin "list.__repr__.loop" ⟨[.ref a, rawInt 0, ← newList [], rawInt b], []⟩)) Q E s) : wpAny M A (Builtin.listReprAt b ⟨[.ref a], []⟩) Q E s := by
  have k1 : wpAny M A (do rule "list.__repr__.in-itself"; retStr "[...]") Q E s := wpAny_bind (wpAny_rule (wpAny_bind (wpAny_mkStr (wpAny_pure (h1 _ _)) (by decide))))
  intro Γ p hΓ
  have q1 := k1 Γ p hΓ
  have q2 := h2 Γ p hΓ
  unfold Builtin.listReprAt
  simp [slotArgs, Builtin.List.listItems, seqItems?, Sem.wp_load_of (h := hget), hd, stack]
  show Sem.wp M Γ (if (Γ.below.any _) = true then _ else _) _ _ p s
  split
  · exact q1
  · exact q2
theorem repr_strs {a : Addr} {oa : Obj} {x : Value} {l : List Value} {n : Nat} {Q : Value → Shared → Prop} (ha : s.heap.get? a = some oa) (hc : oa.cls = .type "list") (hd : oa.data = .seq (x :: l).toArray n) (hs : ∀ v ∈ x :: l, ∃ y t, v = .str y t ∧ Short y) (hl : l.length ≤ 1000) (hu : A.units < cLine)
    (hQ : ∀ h' t u tk, (∀ b o, s.heap.get? b = some o → h'.get? b = some o) → t.length ≤ 4000000 → Q (.str t u) { s with heap := h', toks := tk }) : wpAny (model prog w) A (pyReprObj (.ref a)) Q E s := by
  have hTy : s.TypeIs (.ref a) "list" := ⟨oa, ha, hc⟩
  obtain ⟨ys, hy⟩ : ∃ ys : List Str, ys.length = (x :: l).length ∧ ∀ (i : Nat) (v : Value), (x :: l)[i]? = some v → ∃ y t, ys[i]? = some y ∧ v = .str y t ∧ Short y := by
    have : ∀ us : List Value, (∀ v ∈ us, ∃ y t, v = .str y t ∧ Short y) → ∃ ys : List Str, ys.length = us.length ∧ ∀ (i : Nat) (v : Value), us[i]? = some v → ∃ y t, ys[i]? = some y ∧ v = .str y t ∧ Short y := by
      intro us
      induction us with
      | nil => intro _; exact ⟨[], rfl, fun i v e => by simp at e⟩
      | cons u us ih =>
        intro h
        obtain ⟨ys, e1, e2⟩ := ih fun v hv => h v (List.mem_cons_of_mem _ hv)
        obtain ⟨y, t, r1, r2⟩ := h u List.mem_cons_self
        refine ⟨y :: ys, by simp [e1], fun i v e => ?_⟩
        cases i with
        | zero => simp at e; exact ⟨y, t, rfl, e ▸ r1, r2⟩
        | succ i => simp at e; obtain ⟨y', t', z1, z2, z3⟩ := e2 i v e; exact ⟨y', t', by simpa using z1, z2, z3⟩
    exact this _ hs
  have hall : ∀ t ∈ ys.map reprText, t.length ≤ 3000 := fun t ht => by
    obtain ⟨y, hy1, rfl⟩ := List.mem_map.mp ht
    obtain ⟨i, ei⟩ := List.getElem?_of_mem hy1
    have il := (List.getElem?_eq_some_iff.mp ei).1
    rw [hy.1] at il
    obtain ⟨y', t', z1, z2, z3⟩ := hy.2 i _ (List.getElem?_eq_getElem il)
    rw [ei] at z1
    cases z1
    exact z3
  have hlt := list_text_len (ys.map reprText) 3000 hall
  have hyl := hy.1
  have hsl : sizeLine = 16777216 := sizeLine_eq
  rw [List.length_map, hyl, List.length_cons] at hlt
  have hm : (l.length + 1) * (3000 + 2) ≤ 1001 * 3002 := Nat.mul_le_mul (by omega) (Nat.le_refl _)
  unfold pyReprObj
  refine wpAny_bind (wpAny_cRoomFor hu ?_)
  refine wpAny_bind (wpAny_specialOf hTy (name := Str.ofString "__repr__") F.slot_list_repr.lookup ?_)
  refine wpAny_bind (m := callSpecialIfBound? (.ref a) (Str.ofString "__repr__")) (wpAny_callSpecialIfBound?_slot hTy (name := Str.ofString "__repr__") F.slot_list_repr ?_)
  refine wpAny_call (codeAny_call_builtin F.slot_list_repr.plain F.entry_list_repr (F.slot_list_repr.check _ _ _ _ _ _ _ _ hTy (F.args_list_repr_1 _) ?_))
  refine repr_head_any (A := A.in1) ha hd (fun u tk => ?_) ?_
  · exact wpAny_bind (wpAny_isInstance (T := "str") (b := true) rfl isSubtype_str_str (wpAny_pure (hQ s.heap _ u tk (fun _ _ z => z) (by decide))))
  · refine wpAny_bind (m := newList []) (wpAny_newObj_type (wpAny_pure ⟨F.quiet_list_repr_loop _, ?_⟩))
    refine codeAny_list_repr_start (P := s.heap.objs.size) (ts := ys.map reprText) (b := 0) (Nat.ne_of_lt (Heap.lt_size ha)) (by rw [List.length_map, hyl]; simp) (fun i v e => ?_) (Heap.get?_push_of_some _ ha) hd (Heap.get?_push_size _ rfl) (fun h' u tk k => ?_) (by omega)
    · obtain ⟨y, t, z1, rfl, z3⟩ := hy.2 i v (by simpa using e)
      have z3' : (reprText y).length ≤ 3000 := z3
      exact ⟨reprText y, by rw [List.getElem?_map, z1]; rfl, ReprIs.str y t (by omega)⟩
    · exact wpAny_bind (wpAny_isInstance (T := "str") (b := true) rfl isSubtype_str_str (wpAny_pure (hQ h' _ u tk (fun b o z => k b o (Nat.ne_of_lt (Heap.lt_size z)) (Heap.get?_push_of_some _ z)) (by omega))))
end
def tFs (te : TE) : TE := fun σ H Q => te σ H fun v H1 => ∃ (a : Addr) (xs : List Str), v = .ref a ∧ H1 a = some (.lst (xs.map V.str)) ∧ xs ≠ [] ∧ xs.length ≤ 1000 ∧ (∀ y ∈ xs, Short y) ∧ ∀ t : Str, Q (.str t) H1
theorem strs_vals : ∀ {xs : List Str} {us : List Value}, Vals (xs.map V.str) us → (∀ y ∈ xs, Short y) → ∀ v ∈ us, ∃ y t, v = .str y t ∧ Short y
  | [], us, r, _, v, hv => by
    rw [List.map_nil] at r
    cases r
    cases hv
  | x :: xs, us, r, h, v, hv => by
    rw [List.map_cons] at r
    cases r with
    | cons r1 r2 =>
      rcases List.mem_cons.mp hv with e | hv
      · obtain ⟨t, e2⟩ := r1
        exact ⟨x, t, e.trans e2, h x List.mem_cons_self⟩
      · exact strs_vals r2 (fun y hy => h y (List.mem_cons_of_mem _ hy)) v hv
section
variable {X : Cx} {e : Expr} {te : TE} {pos p1 p2 : Pos}
theorem pe_fstr {x : Str} {j : Nat} (he : PE X e te) (hu : X.A.units < cLine) (hx : x.length ≤ 1000) : PE X (.JoinedStr [.Constant (.str x) j p1, .FormattedValue e 114 none p2] pos) (tFs te) := by
  intro pins s σ H Q I h
  have hsl : sizeLine = 16777216 := sizeLine_eq
  have h0 : (Str.empty : Str).length = 0 := rfl
  refine wpAny_JoinedStr ?_
  show wpAny _ _ (eval (.Constant (.str x) j p1) X.env) _ _ s
  refine thn (pe_str pins s σ H (fun v H1 => v = .str x ∧ H1 = H) I ⟨rfl, rfl⟩) fun u s1 ⟨v, H1, I1, r1, q1, q2⟩ => ?_
  subst q1
  subst q2
  obtain ⟨t1, rfl⟩ := r1
  refine ⟨x, t1, rfl, by rw [strLen_append]; omega, ?_⟩
  show wpAny _ _ (eval (.FormattedValue e 114 none p2) X.env) _ _ s1
  refine wpAny_FormattedValue_repr (thn (he pins s1 σ H1 _ I1 h) fun u s2 ⟨v, H2, I2, r2, a, xs, ev, ea, nn, ln, sh, q⟩ => ?_)
  subst ev
  obtain rfl : u = .ref a := r2
  obtain ⟨_, us, n, rv, g⟩ := (show ObjOk X.prog X.w H2 s2.heap a (.lst (xs.map V.str)) from I2.hok a _ ea)
  have lu := rv.length
  rw [List.length_map] at lu
  cases us with
  | nil => exact absurd (List.length_eq_zero_iff.mp (by simpa using lu)) nn
  | cons u0 ur =>
    rw [List.length_cons] at lu
    refine repr_strs g rfl rfl (strs_vals rv sh) (by omega) hu fun h' t u tk k z => ?_
    have I3 := fun tk => I2.kept (t' := tk) k
    refine wpAny_formatField_str ?_ ?_ (by omega)
    · exact ⟨t, u, rfl, by rw [strLen_append, strLen_append]; omega, by rw [strLen_append, strLen_append]; omega, .str _, H2, I3 _, ⟨_, rfl⟩, q _⟩
    · exact ⟨t, _, rfl, by rw [strLen_append, strLen_append]; omega, by rw [strLen_append, strLen_append]; omega, .str _, H2, I3 _, ⟨_, rfl⟩, q _⟩
end
abbrev veBases : List Value := [.type "ValueError", .type "Exception", .type "BaseException", .type "object"]
structure Own (K : PySem.W.Frag) (mg : Str → Option Value) (x : Str) (C : Addr) : Prop where
  m : mg x = some (.ref C)
  q : PySem.W.excIn K C veBases "ValueError.__new__" = true
theorem Own.cls {K : PySem.W.Frag} {mg : Str → Option Value} {x : Str} {C : Addr} {h : Heap} (O : Own K mg x C) (KX : K.In h) : OwnCls x C veBases "ValueError.__new__" mg h := by
  obtain ⟨m, q⟩ := O
  refine ⟨m, ?_⟩
  unfold PySem.W.excIn at q
  split at q
  case h_2 => cases q
  rename_i od c sl lk
  split at q
  case h_2 => cases q
  rename_i C' tl a0 a1 a2 a3 nw a5 em es
  simp only [Bool.and_eq_true, beq_iff_eq, Bool.not_eq_true'] at q
  obtain ⟨⟨⟨⟨⟨q1, q2⟩, q3⟩, q4⟩, q5⟩, q6⟩ := q
  subst q1
  obtain ⟨c1, c2, c3, c4, c5, c6, c7, c8, c9, c10, c11⟩ := c
  dsimp only at em q3 q5 q6
  subst em
  subst q3
  have e2 : sl = #[a0, a1, a2, a3, some (.builtin nw), a5] := by
    cases sl with
    | mk ll =>
      simp only at es
      rw [es]
  subst e2
  have g := KX _ _ lk
  rw [q2] at g
  exact ⟨tl, c4, c1, c5, c2, c6, c7, c8, c9, c10, od, a0, a1, a2, a3, a5, _, g, .of_isNs (PySem.W.isNs_of_in KX q5), PySem.W.nsMap_none_of_in KX q5 q6, PySem.W.tail_of_in KX q4⟩
section
variable {P : Program} {w : World} {C : Addr} {K : PySem.W.Frag} {mg : Str → Option Value} {base : Heap} {N : List Str} {qual : Str} {scope : Scope} {f : Addr} {cd : Value} {A : Around} {outer : List Env} {s : Shared} {H : Hp} {E : XK}
def tRaise (C : Addr) (E : XK) (te : TE) : TS := fun _ σ H => te σ H fun _ H1 => E (.ref C) none H1
theorem ps_raise1 {x : Str} {e : Expr} {te : TE} {np cpos pos : Pos} (O : Own K mg x C) (he : PE (cxOf (CX1 P w C) P w K mg base N qual scope f cd A outer s H E) e te) (hg : Gl (cxOf (CX1 P w C) P w K mg base N qual scope f cd A outer s H E) x)
    (hs : starEach [e] (cxOf (CX1 P w C) P w K mg base N qual scope f cd A outer s H E).env = [(false, eval e (cxOf (CX1 P w C) P w K mg base N qual scope f cd A outer s H E).env)] := by rfl) (hdb : (x == ("__debug__" : Str)) = false := by decide) :
    PS (cxOf (CX1 P w C) P w K mg base N qual scope f cd A outer s H E) (.Raise (some (.Call (.Name x np) [e] [] cpos)) none pos) (tRaise C E te) := by
  intro pins s1 σ H1 D I h
  have hsl : sizeLine = 16777216 := sizeLine_eq
  obtain ⟨tl, NS, nm, qn, bs, hdct, sn, sub, ab, col, dd, k0, k1, k2, k3, k5, mN, hC, hN, hni, TL⟩ := (O.cls I.mod.kin).obj
  have FB := PySem.F.excBase_ValueError
  refine wpAny_Raise_call_subT FB (C := C) (nm := nm) (q := qn) (N := NS) (bs := bs) (bm := tl) (hdct := hdct) (sn := sn) (sub := sub) (ab := ab) (col := col) (dd := dd) (k0 := k0) (k1 := k1) (k2 := k2) (k3 := k3) (k5 := k5) (mN := mN) (TL.hasType FB.hasBase) (I.ok.hd rfl) (by rw [hs]; rfl) hni (ld_glob I hg O.m ⟨rfl, ?_⟩ hdb)
  rw [hs]
  refine Calls.evalArgs_plain (Calls.spliced_cons (thn (he pins s1 σ H1 _ I h) fun u s2 ⟨v, H2, I2, r2, q2⟩ => Calls.spliced_nil ?_))
  have kb := I2.bk
  exact ⟨rfl, by show 1 ≤ sizeLine; omega, kb _ _ hC, hN.keeps kb, TL.keeps kb, fun h' ea hx => leave1 I2 hx q2⟩
end
end L2
end
section
namespace L2
open PySem PySem.Spec PyProof.Rows
abbrev Cx.inExc (X : Cx) (ea : Addr) : Cx := { X with A := X.A.mark (some (.ref ea)), calm := false, xe := fun _ _ => False }
section
variable {X : Cx} {pins : List (Addr × Obj)} {σ : St} {H : Hp} {s : Shared} {ea : Addr}
theorem Inv.inExc (I : Inv X pins σ H s) (ea : Addr) : Inv (X.inExc ea) pins σ H s :=
  ⟨⟨I.ok.mod, I.ok.kind, I.ok.glob, I.ok.blt, I.ok.above, I.ok.inj, I.ok.has, I.ok.cab, (fun h => by cases h), I.ok.frames, I.ok.stk, I.ok.exf, I.ok.bs, I.ok.bsz, I.ok.noex, I.ok.exfs, I.ok.funs, I.ok.frf⟩, I.os, I.bare, I.base, I.loc, I.cell, I.free, I.freeC, I.pin, I.hok, I.len⟩
theorem Inv.outExc (I : Inv (X.inExc ea) pins σ H s) (ok : X.Ok) : Inv X pins σ H s := ⟨ok, I.os, I.bare, I.base, I.loc, I.cell, I.free, I.freeC, I.pin, I.hok, I.len⟩
theorem SP.outExc {D : Ends} {f : Flow} (h : SP (X.inExc ea) pins D f s) (ok : X.Ok) : SP X pins D f s := by
  cases f with
  | next => obtain ⟨σ', H', I, q⟩ := h; exact ⟨σ', H', I.outExc ok, q⟩
  | brk => obtain ⟨σ', H', I, q⟩ := h; exact ⟨σ', H', I.outExc ok, q⟩
  | cont => obtain ⟨σ', H', I, q⟩ := h; exact ⟨σ', H', I.outExc ok, q⟩
  | ret u => obtain ⟨v, σ', H', I, r, q⟩ := h; exact ⟨v, σ', H', I.outExc ok, r, q⟩
theorem Inv.gone {h' : Heap} {m' : Str → Option Value} {tk : Nat} (I : Inv X pins σ H s) (hn' : h'.Ns X.env.locals m') (hs : Heap.SameBut X.env.locals s.heap h') : Inv X pins (σ.map fun _ => none) H { s with heap := h', toks := tk } := by
  have ne : ∀ b o, X.s₀.heap.get? b = some o → b ≠ X.env.locals := fun b o e => Nat.ne_of_lt (Nat.lt_of_lt_of_le (Heap.lt_size e) I.ok.above)
  refine ⟨I.ok, I.os, I.bare, ⟨fun b o e n hb hx => (hs.2 b (ne b o e)).trans (I.base.keep b o e n hb hx), fun b o e n hb hx => ?_, I.base.free, fun b o e hx => ?_, I.base.tups, I.base.frzs, I.base.tbls⟩, ⟨m', hn', fun j y v e1 e2 _ => ?_⟩, fun y c e => ?_, I.free, I.freeC, fun p hp => ?_, fun b ob e => ?_, by simpa using I.len⟩
  · obtain ⟨sl, q⟩ := I.base.slot b o e n hb hx
    exact ⟨sl, (hs.2 b (ne b o e)).trans q⟩
  · obtain ⟨o', q⟩ := I.base.there b o e hx
    exact ⟨o', (hs.2 b (ne b o e)).trans q⟩
  · rw [List.getElem?_map] at e2
    cases e3 : σ[j]? with
    | none => rw [e3] at e2; cases e2
    | some z => rw [e3] at e2; cases e2
  · obtain ⟨v, z⟩ := I.cell y c e
    exact ⟨v, z.sameBut hs (I.cne y c e)⟩
  · obtain ⟨e, n, nl, nf, d⟩ := I.pin p hp
    exact ⟨(hs.2 p.1 nl).trans e, n, nl, nf, d⟩
  · refine (I.hok b ob e).stay (fun c u hc q => (hs.2 c ?_).trans q) (fun _ q => q) fun _ _ q => q
    rintro rfl
    have fr := I.free
    rcases hc with rfl | hc
    · rw [fr] at e; cases e
    · rw [fr] at hc; cases hc
theorem run_raw {CX : CXT} {k : Nat} {f : Addr} {fd : FuncData} {ps : List Str} {sp : Sp} {E : XK} {Q : VK} {us : List Value} {vs : List V} (F : FnOk X.prog X.w X.K X.mg X.base CX k f fd ps sp) (hr : Room k X.A) (hb : Binds X.K fd ps []) (I : Inv X pins σ H s) (r : Vals vs us) (h : sp vs H Q E) :
    wpAny (model X.prog X.w) X.A (call (.ref f) us) (EP X pins σ Q) (fun e s' => CX X.stack H s E e s') s := by
  have hl : us.length = ps.length := by rw [← r.length]; exact F.len _ _ _ _ h
  have hb2 := hb s us I.kIn (by rw [List.append_nil]; exact hl)
  rw [List.append_nil] at hb2
  refine wpAny_call (codeAny_mono (F.run X.A X.stack s H ⟨us, []⟩ us vs Q E hr I.env0 hb2 r h) fun res s' hq => ?_)
  cases res with
  | error e => exact hq
  | ok fl =>
    cases fl with
    | ret u => exact I.after hq
    | next => exact False.elim hq
    | brk => exact False.elim hq
    | cont => exact False.elim hq
theorem call_raw {CX : CXT} {k : Nat} {f : Addr} {fd : FuncData} {ps : List Str} {sp : Sp} {E : XK} {Q : VK} {x : Str} {p pos : Pos} {e : Expr} {es : List Expr} {t : TA} (F : FnOk X.prog X.w X.K X.mg X.base CX k f fd ps sp) (hr : Room k X.A) (hg : Gl X x) (hm : X.mg x = some (.ref f)) (hk : PySem.W.keepIn X.K (.ref f) = true) (hb : Binds X.K fd ps []) (ha : PA X (e :: es) t) (hno : ∀ e s, X.xe e s → False)
    (hdb : (x == ("__debug__" : Str)) = false) (he : starEach (e :: es) X.env = (false, eval e X.env) :: starEach es X.env) (hpl : (backTo pos (starEach es X.env)).any (·.1) = false) (I : Inv X pins σ H s) (h : t σ H fun vs H1 => sp vs H1 Q E) :
    wpAny (model X.prog X.w) X.A (eval (.Call (.Name x p) (e :: es) [] pos) X.env) (EP X pins σ Q) (fun e s' => ∃ H1 s1, Inv X pins σ H1 s1 ∧ CX X.stack H1 s1 E e s') s := by
  refine wpAny_Call_Name_kw (ld_glob I hg hm ?_ hdb)
  refine PySem.W.callWith_K (h₀ := X.base) I.ok.mod.kin hk (wpAny_mono (ha pos pins s σ H _ I h) (fun us s1 ⟨vs, H1, I1, r, q⟩ => ⟨I1.kIn, ?_⟩) fun e s' z => (hno e s' z).elim) he hpl
  exact wpAny_mono (run_raw F hr hb I1 r q) (fun _ _ z => z) fun e s' z => ⟨H1, s1, I1, z⟩
end
structure Catch (K : PySem.W.Frag) (mg : Str → Option Value) (C : Addr) (y : Str) (CR : Addr) : Prop where
  m : mg y = some (.ref CR)
  e1 : PySem.W.subIn K (.ref CR) (.type "BaseException") = some true
  e2 : PySem.W.isClsIn K CR = true
  e3 : PySem.W.typeIn K (.ref CR) = some (.type "type")
  e4 : PySem.W.subIn K (.ref C) (.ref CR) = some true
theorem Catch.one {K : PySem.W.Frag} {mg : Str → Option Value} {C : Addr} {y : Str} {CR : Addr} (c : Catch K mg C y CR) : PySem.W.exmOne K (.ref C) (.ref CR) = some true := by
  have e2 : (PySem.W.clsIn K CR).isSome = true := c.e2
  unfold PySem.W.exmOne
  rw [c.e1, if_pos (by decide)]
  unfold PySem.W.kitCls
  simp only [e2, c.e3, Bool.true_and]
  rw [if_pos (by decide)]
  exact c.e4
section
variable {X : Cx} {pins : List (Addr × Obj)} {σ : St} {H : Hp} {s : Shared}
theorem exc_type {M : Model} {h : Heap} {ea : Addr} {ob : Obj} {c : Value} (e : h.get? ea = some ob) (hc : ob.cls = c) : PySem.W.Looks M h (typeOf (.ref ea)) c := hc ▸ (PySem.W.Looks.ld e).andThen .now
theorem Inv.caught {C : Addr} {H' : Hp} {s2 : Shared} {B h5 : Heap} {ea : Addr} {a0 : Value} (I : Inv X pins σ H s) (F : Fly X.prog X.w C X.stack H H' s s2 B ea a0) (fl : Heap.FlyingW B X.stack ea (.ref C) a0 h5) (up : s2.heap.UpToSlots h5) : Inv X pins σ H' { s2 with heap := h5 } ∧ Fly X.prog X.w C X.stack H H' s { s2 with heap := h5 } B ea a0 := by
  have F5 := F.on (fun b hb => (I.stack.mem hb).2) fl up
  exact ⟨I.call' (ch := []) F5.os (F5.un I.stkFree) (F5.hok.kept fl.1) F5.bare fun b hb => absurd hb (by simp), F5⟩
def tTry1 (i : Nat) (sp : Sp) (ta : TA) (ts : TS) : TS := fun D σ H => ta σ H fun vs H1 => sp vs H1 (fun v H2 => D.nx (σ.set i (some v)) H2) (fun _ _ H2 => ts D σ H2)
theorem ps_try1 {C CR : Addr} {k : Nat} {f : Addr} {fd : FuncData} {ps : List Str} {sp : Sp} {i : Nat} {x y c : Str} {py p pos cpos apos hpos np : Pos} {e : Expr} {es : List Expr} {b₀ : Stmt} {suite : List Stmt} {t : TA} {ts : TS}
    (F : FnOk X.prog X.w X.K X.mg X.base (CX1 X.prog X.w C) k f fd ps sp) (hr : Room k X.A) (hg : Gl X x) (hm : X.mg x = some (.ref f)) (hk : PySem.W.keepIn X.K (.ref f) = true) (hb : Binds X.K fd ps []) (ha : PA X (e :: es) t) (hno : ∀ e s, X.xe e s → False)
    (hN : X.N.Nodup) (hi : X.N[i]? = some y) (hy : Loc X.env.scope y) (hst : X.stack = X.env :: X.outer) (hfr : X.env.frame = some X.env.locals) (hc : Catch X.K X.mg C c CR) (hgc : Gl X c) (hs : ∀ ea, PSs (X.inExc ea) (b₀ :: suite) ts)
    (hf : X.fn y = true ∨ X.env.scope.names.lookup y = some .local := by first | exact .inl rfl | exact .inr rfl)
    (hdb : (x == ("__debug__" : Str)) = false := by decide) (hdc : (c == ("__debug__" : Str)) = false := by decide) (he : starEach (e :: es) X.env = (false, eval e X.env) :: starEach es X.env := by rfl) (hpl : (backTo cpos (starEach es X.env)).any (·.1) = false := by rfl)
    (hsw : swapsWith (.Call (.Name x p) (e :: es) [] cpos) (some (.Name y py)) apos.line X.env = pure false := by rfl) :
    PS X (.Try [.Assign [.Name y py] (.Call (.Name x p) (e :: es) [] cpos) apos] [.ExceptHandler (some (.Name c np)) none (b₀ :: suite) hpos] [] [] pos) (tTry1 i sp t ts) := by
  intro pins s σ H D I h
  refine wpAny_Try_except (wpAny_execs_cons (wpAny_Assign_Name (wpAny_mono (call_raw (E := fun _ _ H2 => ts D σ H2) (Q := fun v H2 => D.nx (σ.set i (some v)) H2) F hr hg hm hk hb ha hno hdb he hpl I h) (fun u s1 z => ?_) fun e s2 z => ?_) hsw))
  · obtain ⟨v, H1, I1, r1, q1⟩ := z
    refine store_ok I1 hN hi hy r1 (fun s3 I3 => ?_) hf
    exact wpAny_execs_nil (wpAny_execs_nil ⟨_, H1, I3, q1⟩)
  · obtain ⟨H1, s1, I1, ea, a0, B, H', rfl, F1, hE⟩ := z
    rw [hst] at F1
    have fl1 := F1.fly
    rw [← hst] at F1
    refine wpAny_looks_onW (by rw [I.ok.frames, hst]) hfr fl1 fun h4 held up4 => ?_
    refine wpAny_landsW held fun h5 fl5 up5 => ?_
    rw [← hst] at fl5
    obtain ⟨I5, F5⟩ := I1.caught F1 fl5 (up4.trans up5)
    obtain ⟨ob, hob, hobc⟩ := fl5.there
    refine wpAny_handleBy_cons (codeAny_handlers_test ?_) (by intro q; cases q)
    refine ld_glob (X := X.inExc ea) (I5.inExc ea) hgc hc.m ?_ hdc
    refine (PySem.W.exm_one I5.kIn (exc_type hob hobc) hc.one).here ?_
    refine codeAny_handlers_suite (lands_againW fl5 fun h6 fl6 up6 => ?_)
    obtain ⟨I6, _⟩ := I1.caught F1 fl6 ((up4.trans up5).trans up6)
    exact wpAny_mono (hs ea pins _ σ H' D (I6.inExc ea) hE) (fun fl s' q => q.outExc I.ok) fun _ _ z => z.elim
theorem isi_ve {C ea : Addr} {ob : Obj} {prog : Program} {w : World} {A : Around} {E : Value → Shared → Prop} {s : Shared} {Q : Value → Shared → Prop} {K : PySem.W.Frag} (KX : K.In s.heap) (hob : s.heap.get? ea = some ob) (hc : ob.cls = .ref C) (e : PySem.W.subIn K (.ref C) (.type "ValueError") = some true) (h : Q (.bool true) s) :
    wpAny (model prog w) A (call (.builtin "isinstance") [.ref ea, .type "ValueError"]) Q E s := by
  refine call_isinstance_of ?_ (fun z => nomatch z)
  have LT := exc_type (M := model prog w) hob hc
  have LS : PySem.W.Looks (model prog w) s.heap (isSubtype (.ref C) (.type "ValueError")) true := PySem.W.looks_subIn KX e
  have LI : PySem.W.Looks (model prog w) s.heap (isInstance (.ref ea) (.type "ValueError")) true := LT.andThen LS
  unfold Builtin.«isinstance.nested»
  refine wpAny_bind (LT.here ?_)
  rw [if_neg (fun q => by cases beq_iff_eq.mp q)]
  have ty : typeOf (.type "ValueError") = pure (.type "type") := PySem.W.kitMeta_of (by decide +kernel)
  refine wpAny_bind (wpAny_of_eq ty ?_)
  rw [if_pos (by decide)]
  k_delta "plainIsInstance"
  have it : PySem.W.Looks (model prog w) s.heap (isType (.type "ValueError")) true := PySem.W.Looks.of_pure rfl
  refine wpAny_bind (wpAny_bind (it.here ?_))
  simp only [Bool.not_true, Bool.false_eq_true, if_false]
  refine wpAny_bind (LI.here ?_)
  simp only [if_true]
  exact wpAny_pure (wpAny_pure h)
theorem ObjOk.is {P : Program} {w : World} {H : Hp} {h : Heap} {a : Addr} : ∀ {o : HO}, ObjOk P w H h a o → ∃ u, h.get? a = some u
  | .lst _, ⟨_, _, _, _, e⟩ => ⟨_, e⟩
  | .tup _, ⟨_, _, _, o, e, _⟩ => ⟨o, e⟩
  | .dK _, ⟨_, _, _, _, o, _, _, e, _⟩ => ⟨o, e⟩
  | .dT _, ⟨_, _, _, _, o, _, _, e, _⟩ => ⟨o, e⟩
  | .set _ _, ⟨o, _, _, _, e, _⟩ => ⟨o, e⟩
  | .ins _ _ _, ⟨_, _, _, e, _⟩ => ⟨_, e⟩
  | .own _, ⟨o, e⟩ => ⟨o, e⟩
  | .xd _, ⟨_, ⟨o, _, _, e, _⟩, _⟩ => ⟨o, e⟩
  | .rng _ _, ⟨_, _, _, e⟩ => ⟨_, e⟩
  | .frz _ _, ⟨e, _⟩ => ⟨_, e⟩
  | .tbl _, e => ⟨_, e⟩
  | .met _ _, e => ⟨_, e⟩
  | .ext _, ⟨_, ⟨o, e⟩, _⟩ => ⟨o, e⟩
def tTry2 (sp : Sp) (ta : TA) : TS := fun D σ H => ta σ H fun vs H1 => sp vs H1 (fun _ H2 => D.nx σ H2) (fun _ _ H2 => D.rt (.bl true) H2)
theorem ps_try2 {C CR : Addr} {k : Nat} {f : Addr} {fd : FuncData} {ps : List Str} {sp : Sp} {i : Nat} {x n c : Str} {p pos cpos epos hpos np p1 p2 p3 p4 p5 : Pos} {e : Expr} {es : List Expr} {t : TA}
    (F : FnOk X.prog X.w X.K X.mg X.base (CX1 X.prog X.w C) k f fd ps sp) (hr : Room k X.A) (hg : Gl X x) (hm : X.mg x = some (.ref f)) (hk : PySem.W.keepIn X.K (.ref f) = true) (hb : Binds X.K fd ps []) (ha : PA X (e :: es) t) (hno : ∀ e s, X.xe e s → False)
    (hN : X.N.Nodup) (hi : X.N[i]? = some n) (hl : X.env.scope.names.lookup n = some .local) (hst : X.stack = X.env :: X.outer) (hfr : X.env.frame = some X.env.locals) (hc : Catch X.K X.mg C c CR) (hgc : Gl X c) (hsub : PySem.W.subIn X.K (.ref C) (.type "ValueError") = some true)
    (hgi : Gl X "isinstance") (hmi : X.mg "isinstance" = none) (hgv : Gl X "ValueError") (hmv : X.mg "ValueError" = none)
    (hdb : (x == ("__debug__" : Str)) = false := by decide) (hdc : (c == ("__debug__" : Str)) = false := by decide) (he : starEach (e :: es) X.env = (false, eval e X.env) :: starEach es X.env := by rfl) (hpl : (backTo cpos (starEach es X.env)).any (·.1) = false := by rfl)
    (hsw : swapsWith (.Call (.Name x p) (e :: es) [] cpos) none epos.line X.env = pure false := by rfl)
    (hdn : (n == ("__debug__" : Str)) = false := by decide) (hcn : (n == ("__classdict__" : Str)) = false := by decide) (hse : ∀ ea, starEach [.Name n p2, .Name "ValueError" p3] (X.inExc ea).env = (false, eval (.Name n p2) (X.inExc ea).env) :: starEach [.Name "ValueError" p3] (X.inExc ea).env := by intro _; rfl) :
    PS X (.Try [.Expr (.Call (.Name x p) (e :: es) [] cpos) epos] [.ExceptHandler (some (.Name c np)) (some n) [.Return (some (.Call (.Name "isinstance" p1) [.Name n p2, .Name "ValueError" p3] [] p4)) p5] hpos] [] [] pos) (tTry2 sp t) := by
  intro pins s σ H D I h
  refine wpAny_Try_except (wpAny_execs_cons (wpAny_Expr_any (wpAny_mono (call_raw (E := fun _ _ H2 => D.rt (.bl true) H2) (Q := fun _ H2 => D.nx σ H2) F hr hg hm hk hb ha hno hdb he hpl I h) (fun u s1 z => ?_) fun e s2 z => ?_) I.quiet hsw))
  · obtain ⟨v, H1, I1, r1, q1⟩ := z
    exact wpAny_execs_nil (wpAny_execs_nil ⟨_, H1, I1, q1⟩)
  · obtain ⟨H1, s1, I1, ea, a0, B, H', rfl, F1, hE⟩ := z
    rw [hst] at F1
    have fl1 := F1.fly
    rw [← hst] at F1
    refine wpAny_looks_onW (by rw [I.ok.frames, hst]) hfr fl1 fun h4 held up4 => ?_
    refine wpAny_landsW held fun h5 fl5 up5 => ?_
    rw [← hst] at fl5
    obtain ⟨I5, F5⟩ := I1.caught F1 fl5 (up4.trans up5)
    obtain ⟨ob, hob, hobc⟩ := fl5.there
    refine wpAny_handleBy_cons (codeAny_handlers_test ?_) (by intro q; cases q)
    refine ld_glob (X := X.inExc ea) (I5.inExc ea) hgc hc.m ?_ hdc
    refine (PySem.W.exm_one I5.kIn (exc_type hob hobc) hc.one).here ?_
    refine codeAny_handlers_suite_as (lands_againW fl5 fun h6 fl6 up6 => ?_)
    obtain ⟨I6, F6⟩ := I1.caught F1 fl6 ((up4.trans up5).trans up6)
    obtain ⟨oe, ws, hoe, hoec, hoed, _⟩ := fl6.first
    have I7 : Inv X (pins ++ [(ea, oe)]) σ H' { s2 with heap := h6 } := I6.pins_of fun q hq => by
      rcases List.mem_append.mp hq with hq | hq
      · exact I6.pin q (List.mem_append_right _ hq)
      · rw [List.mem_singleton.mp hq]
        refine ⟨hoe, ?_, fun z => ?_, fun z => ?_, fun v z => ?_⟩
        · cases q2 : H' ea with
          | none => rfl
          | some o =>
            obtain ⟨u, hu⟩ := (F6.hok ea o q2).is
            have nb := fl6.2.1
            rw [hu] at nb
            cases nb
        · obtain ⟨m, ⟨o', es', ep, ho, hd, _⟩, _⟩ := I6.loc
          have z : ea = X.env.locals := z
          have ho : h6.get? X.env.locals = some o' := ho
          rw [← z, hoe] at ho
          cases ho
          rw [hoed] at hd
          cases hd
        · obtain ⟨_, o', ho, nf⟩ := I6.funs.mem z
          have ho : h6.get? ea = some o' := ho
          rw [hoe] at ho
          cases ho
          exact nf _ hoed
        · rw [hoed] at z
          cases z
    refine store_ok (X := X.inExc ea) (I7.inExc ea) hN hi (.inl hl) (v := .ref ea) rfl (fun s8 I8 => ?_) (.inr hl)
    have lk : (σ.set i (some (V.ref ea)))[i]? = some (some (V.ref ea)) := List.getElem?_set_self (by rw [I.len]; exact (List.getElem?_eq_some_iff.mp hi).1)
    have hpa : PA (X.inExc ea) [.Name n p2, .Name "ValueError" p3] (tCons (tVar i) (tCons (tC (.ty "ValueError")) tNil)) := pa_cons (pe_var hi (.inl hl) hdn hcn) (pa_cons (pe_bltn hgv hmv PyProof.Rows.Boot.«ValueError» rfl) pa_nil) (hse ea)
    refine wpAny_execs_cons (wpAny_Return_some (wpAny_Call_Name_kw (ld_blt I8 hgi hmi PyProof.Rows.Boot.«isinstance» (PyProof.Rows.callWith_builtin1 (wpAny_mono (hpa p4 _ s8 _ H' (fun vs H1 => vs = [.ref ea, .ty "ValueError"] ∧ H1 = H') I8 ⟨_, lk, rfl, rfl⟩) (fun us s9 z => ?_) fun _ _ z => z.elim) (hse ea) rfl))))
    obtain ⟨vs, H9, I9, r9, rfl, rfl⟩ := z
    obtain ⟨u1, u2, rfl, ru1, ru2⟩ := vals2 r9
    obtain rfl : u1 = .ref ea := ru1
    obtain rfl : u2 = .type "ValueError" := ru2
    have pe : s9.heap.get? ea = some oe := (I9.pin (ea, oe) (List.mem_append_right _ (List.mem_append_right _ (List.mem_singleton.mpr rfl)))).1
    refine isi_ve I9.kIn pe hoec hsub ?_
    obtain ⟨m9, hn9, _⟩ := I9.loc
    refine wpAny_nameGoes_keeps (m := m9) hl hn9 (by rw [I.ok.kind]; rfl) fun h10 v hn10 hs10 => ?_
    exact ⟨.bl true, _, H9, ((I9.outExc I.ok).gone hn10 hs10).unpinned, rfl, hE⟩
end
end L2
end
section
namespace DD
open PySem PySem.Spec PyProof.Rows
section
variable {prog : Program} {w : World} {κ : Type} [DecidableEq κ] {knd : PySem.KeyKind prog w κ} {A : Around} {E : Value → Shared → Prop} {s : Shared} {d : Addr} {kvs : List (κ × Value)} {ep : Nat}
theorem extend_dict {R : Result → Shared → Prop} (hh : A.handled = none) (S : Addr) (res : Value) (c₀ : Nat) (hd : (d == sysModules) = false) (hm : s.heap.DictAt knd d kvs ep) (hz : kvs.length ≤ sizeLine) (hS0 : s.heap.get? S = some (lobj #[] c₀)) (hSd : S ≠ d)
    (hR : ∀ (h' : Heap) (acc : Array Value) (c tk : Nat), (∀ b o, b ≠ S → s.heap.get? b = some o → h'.get? b = some o) → h'.get? S = some (lobj acc c) → acc.size = kvs.length → (∀ (i : Nat) (v : Value), acc[i]? = some v → ∃ k x, kvs[i]? = some (k, x) ∧ knd.is k v = true) → R (.ok (.ret res)) { s with heap := h', toks := tk }) :
    wpAny (model prog w) A.in1 (Builtin.List.listExtendWith (.ref S) (.ref d) res) (fun fin s' => match fin with | .done f => R (.ok f) s' | .again c' => c'.quiet = true ∧ codeAny (model prog w) A c' R s') (fun e s' => R (.error e) s') s := by
  have hT : s.TypeIs (.ref d) "dict" := hm.dictOf.typeIs
  have ltS := Heap.lt_size hS0
  have ltd := hm.lt_size
  unfold Builtin.List.listExtendWith
  refine wpAny_bind (wpAny_typeOf (T := "dict") hT ?_)
  have q1 : Builtin.List.listSameRef (.ref S) (.ref d) = false := by simp [Builtin.List.listSameRef, hSd]
  have q2 : (Value.type "dict" == Value.type "list") = false := by decide
  have q3 : (Value.type "dict" == Value.type "tuple") = false := by decide
  simp only [q1, q2, q3, Bool.or_false, Bool.false_eq_true, if_false]
  refine wpAny_bind (wpAny_pyIter_dict hd hm ?_)
  have hm2 := hm.push ({ cls := .type "dict_keyiterator", data := .fields #[.ref d, .int 0 0, .int kvs.length 0, .int ep 0] } : Obj)
  refine wpAny_bind (wpAny_holding (hint_dict (hm2.dictOf.typeIs (s := { s with heap := _ })) ?_))
  have gS2 : (s.heap.push ({ cls := .type "dict_keyiterator", data := .fields #[.ref d, .int 0 0, .int kvs.length 0, .int ep 0] } : Obj)).get? S = some (lobj #[] c₀) := Heap.get?_push_of_some _ hS0
  have gI : (s.heap.push ({ cls := .type "dict_keyiterator", data := .fields #[.ref d, .int 0 0, .int kvs.length 0, .int ep 0] } : Obj)).get? s.heap.objs.size = some _ := Heap.get?_push_size _ rfl
  rw [if_pos (by decide +kernel)]
  refine wpAny_bind (wpAny_rule (wpAny_bind ?_))
  show wpAny _ A.in1 (updateSeq S (·.push .none) >>= fun _ => updateSeq S (·.pop)) _ _ _
  refine wpAny_bind (wpAny_updateSeq gS2 rfl ?_)
  have gS3 := Heap.get?_update_self (Obj.mapSeq (·.push Value.none)) gS2 rfl
  refine wpAny_updateSeq gS3 rfl ?_
  have gS4 := Heap.get?_update_self (Obj.mapSeq (·.pop)) gS3 rfl
  generalize hh2 : s.heap.push ({ cls := .type "dict_keyiterator", data := .fields #[.ref d, .int 0 0, .int kvs.length 0, .int ep 0] } : Obj) = h2 at *
  have oth : ∀ b o, b ≠ S → h2.get? b = some o → ((h2.update S (Obj.mapSeq (·.push Value.none))).update S (Obj.mapSeq (·.pop))).get? b = some o := fun b o hb e => (Heap.get?_update_other _ _ (Ne.symm hb)).trans ((Heap.get?_update_other _ _ (Ne.symm hb)).trans e)
  have keep : ∀ b o, s.heap.get? b = some o → h2.get? b = some o := fun b o e => by
    rw [← hh2]
    exact Heap.get?_push_of_some _ e
  have nI : s.heap.objs.size ≠ S := Nat.ne_of_gt ltS
  have ndI : d ≠ s.heap.objs.size := Nat.ne_of_lt ltd
  have hS : S ∉ [s.heap.objs.size, d] := fun z => by
    rcases List.mem_cons.mp z with z | z
    · exact nI z.symm
    · exact hSd (List.mem_singleton.mp z)
  refine wpAny_pure ⟨plainId_quiet F.plain_extend_loop _, codeAny_extend_loopS (Walks.toS (Walks.dictKeys (knd := knd) (A := A.in1) (by simp [hh]) s.heap.objs.size d ndI kvs ep)) hz S hS res kvs.length 0 _ #[] _ (by omega) (Nat.zero_le _) ⟨⟨_, oth _ _ nI gI, rfl, rfl⟩, hm2.at' fun o e => oth d o (Ne.symm hSd) e⟩ gS4 (ItemsOf.nil _) fun s' acc c mv gS it => ?_⟩
  obtain ⟨h', gg, d', tk', os'⟩ := s'
  have eg : gg = s.gens := mv.gens
  have ed : d' = s.drawn := mv.drawn
  have eo : os' = s.os := mv.os
  subst eg; subst ed; subst eo
  refine hR h' acc c tk' (fun b ob hb e => ?_) gS it.1 it.2
  have lt := Heap.lt_size e
  refine mv.heap b ob (fun z => ?_) (oth b ob hb (keep b ob e))
  rcases List.mem_cons.mp z with z | z
  · exact hb z
  · exact Nat.ne_of_lt lt (List.mem_singleton.mp z)
theorem call_list_dict {Q : Value → Shared → Prop} (hh : A.handled = none) (hd : (d == sysModules) = false) (hm : s.heap.DictAt knd d kvs ep) (hz : kvs.length ≤ sizeLine)
    (hQ : ∀ (h' : Heap) (acc : Array Value) (c tk : Nat), (∀ b o, s.heap.get? b = some o → h'.get? b = some o) → h'.get? s.heap.objs.size = some (lobj acc c) → acc.size = kvs.length → (∀ (i : Nat) (v : Value), acc[i]? = some v → ∃ k x, kvs[i]? = some (k, x) ∧ knd.is k v = true) → Q (.ref s.heap.objs.size) { s with heap := h', toks := tk }) :
    wpAny (model prog w) A (call (.type "list") [.ref d]) Q E s := by
  refine callType_codes (Q₁ := fun obj s₁ => obj = .ref s.heap.objs.size ∧ s₁ = { s with heap := s.heap.push { cls := .type "list", data := .seq #[] } }) F.called_list (F.typeCall_list_1 _) F.entry_list_init (code_list_new _ ⟨rfl, rfl⟩) fun obj s₁ h₁ => ?_
  obtain ⟨rfl, rfl⟩ := h₁
  have hS : (s.heap.push { cls := .type "list", data := .seq #[] }).get? s.heap.objs.size = some { cls := .type "list", data := .seq #[] } := Heap.get?_push_size _ rfl
  have ltd := hm.lt_size
  refine ⟨⟨_, hS, rfl⟩, F.args_list_init_2 _ _, ?_⟩
  show wpAny _ _ (do let old ← Builtin.List.listItems (.ref s.heap.objs.size); Builtin.List.listUpdate (.ref s.heap.objs.size) (fun _ => #[]); letGo old.toList.reverse; Builtin.List.listExtendWith (.ref s.heap.objs.size) (.ref d) .none) _ _ _
  refine wpAny_bind ?_
  unfold Builtin.List.listItems
  refine wpAny_bind (wpAny_seqItems hS rfl (wpAny_pure ?_))
  show wpAny _ _ (updateSeq s.heap.objs.size (fun _ => #[]) >>= fun _ => letGo (#[] : Array Value).toList.reverse >>= fun _ => Builtin.List.listExtendWith (.ref s.heap.objs.size) (.ref d) .none) _ _ _
  refine wpAny_bind (wpAny_updateSeq hS rfl (wpAny_bind (wpAny_letGo ?_)))
  have hS2 := Heap.get?_update_self (Obj.mapSeq (fun _ => (#[] : Array Value))) hS rfl
  have keep : ∀ b o, s.heap.get? b = some o → ((s.heap.push { cls := .type "list", data := .seq #[] }).update s.heap.objs.size (Obj.mapSeq (fun _ => (#[] : Array Value)))).get? b = some o := fun b o e =>
    (Heap.get?_update_other _ _ (Ne.symm (Nat.ne_of_lt (Heap.lt_size e)))).trans (Heap.get?_push_of_some _ e)
  refine extend_dict (A := A.in1) (knd := knd) (by simp [hh]) s.heap.objs.size .none _ hd (hm.at' fun o e => keep _ _ e) hz hS2 (Nat.ne_of_gt ltd) fun h' acc c tk hk gS e1 e2 => ?_
  exact ⟨rfl, hQ h' acc c tk (fun b o e => hk b o (Nat.ne_of_lt (Heap.lt_size e)) (keep b o e)) gS e1 e2⟩
end
end DD
namespace L2
open PySem PySem.Spec PyProof.Rows
section
variable {X : Cx}
theorem call_listD (hc : X.calm = true) : CallR X (.type "list") (fun xs H Q => ∃ (p : Addr) (kvs : List (Key × V)), xs = [.ref p] ∧ H p = some (.dK kvs) ∧ (∀ i : Int, valV kvs (Sum.inl i) = none) ∧
    ∀ (zs : List Str) (l : Addr), zs.Nodup → (∀ y, y ∈ zs ↔ (valV kvs (Sum.inr y)).isSome = true) → zs.length = kvs.length → H l = none → Q (.ref l) (upd H l (.lst (zs.map V.str)))) := by
  intro pins s σ H xs us Q I r h
  obtain ⟨p, kvs, rfl, hp, hi, q⟩ := h
  obtain ⟨u, rfl, rx⟩ := vals1 r
  cases rx
  obtain ⟨hz, hd, vs, kv, dd⟩ := (show ObjOk X.prog X.w H s.heap p (.dK kvs) from I.hok p _ hp)
  obtain ⟨ep, da⟩ := dd.dictAt
  have ek := kv_keys kv
  have el : vs.length = kvs.length := by
    have := congrArg List.length ek
    rw [List.length_map, List.length_map] at this
    exact this
  refine DD.call_list_dict (I.ok.hd hc) hd da (by rw [el]; exact hz) fun h' acc c tk keep gS e1 e2 => ?_
  have hstr : ∀ (i : Nat) (v : Value), acc.toList[i]? = some v → ∃ x t, v = .str x t ∧ (vs.map (·.1))[i]? = some (Sum.inr x) := fun i v e => by
    rw [Array.getElem?_toList] at e
    obtain ⟨k, y, ek2, is⟩ := e2 i v e
    have ek' : (vs.map (·.1))[i]? = some k := by rw [List.getElem?_map, ek2]; rfl
    cases k with
    | inl j =>
      rw [ek] at ek'
      exact absurd (List.mem_of_getElem? ek') (valV_not (hi j))
    | inr x =>
      obtain ⟨t, rfl⟩ := Value.isStrOf_shape (x := x) (v := v) is
      exact ⟨x, t, rfl, ek'⟩
  have hS : StrsAre acc.toList (acc.toList.map strOf) := strsAre_map acc.toList fun v hv => by
    obtain ⟨i, e⟩ := List.getElem?_of_mem hv
    obtain ⟨x, t, z, _⟩ := hstr i v e
    exact ⟨x, t, z⟩
  have la : acc.toList.length = kvs.length := by rw [Array.length_toList, e1, el]
  have hkk : kvs.map (·.1) = (acc.toList.map strOf).map Sum.inr := by
    rw [← ek]
    apply List.ext_getElem?
    intro i
    by_cases cc : i < acc.toList.length
    · have e : acc.toList[i]? = some acc.toList[i] := List.getElem?_eq_getElem cc
      obtain ⟨x, t, z, z2⟩ := hstr i _ e
      rw [z2, List.getElem?_map, List.getElem?_map, e, z]
      rfl
    · rw [List.getElem?_eq_none (by rw [List.length_map]; omega), List.getElem?_eq_none (by rw [List.length_map, List.length_map]; omega)]
  have nk : ((acc.toList.map strOf).map (Sum.inr : Str → Key)).Nodup := by rw [← hkk, ← ek]; exact da.nodup
  have nks : (acc.toList.map strOf).Nodup := List.Pairwise.of_map Sum.inr (fun a b hab e => hab (by rw [e])) nk
  refine ⟨.ref s.heap.objs.size, _, I.laid (t' := tk) (o := .lst ((acc.toList.map strOf).map V.str)) keep (Nat.le_refl _) ?_, rfl, q _ _ nks (fun y => ?_) (by rw [List.length_map]; exact la) (I.hok.fresh (Nat.le_refl _))⟩
  · exact ⟨by rw [List.length_map, List.length_map]; omega, acc.toList, c, vals_strs hS, by rw [Array.toArray_toList]; exact gS⟩
  · have e : y ∈ acc.toList.map strOf ↔ (Sum.inr y : Key) ∈ kvs.map (·.1) := by
      rw [hkk, List.mem_map (f := (Sum.inr : Str → Key))]
      exact ⟨fun z => ⟨y, z, rfl⟩, fun ⟨x, z, e⟩ => Sum.inr.inj e ▸ z⟩
    rw [e]
    cases cc : valV kvs (Sum.inr y) with
    | none => exact ⟨fun z => absurd z (valV_not cc), fun z => by cases z⟩
    | some v => exact ⟨fun _ => rfl, fun _ => valV_in cc⟩
end
end L2
end
section
namespace LB
open PySem L2 CM
def Bad (LL : List (List Str)) : Prop := LL.length ≤ 1000 ∧ (∀ xs ∈ LL, xs.length ≤ 1000 ∧ ∀ y ∈ xs, Short y) ∧ ∃ xs ∈ LL, ¬ Rising xs
def spBad : Sp := fun vs H _ E => ∃ (a : Addr) (rs : List Addr) (LL : List (List Str)), vs = [.ref a] ∧ Rolls H a rs LL ∧ Bad LL ∧ ∀ (c : Value) (d : Option Addr) (H' : Hp), Same H H' → E c d H'
def spBadK : Sp := fun vs H _ E => ∃ (a : Addr) (rs : List Addr) (LL : List (List Str)) (k : Int), vs = [.ref a, .int k] ∧ Rolls H a rs LL ∧ Bad LL ∧ ∀ (c : Value) (d : Option Addr) (H' : Hp), Same H H' → E c d H'
def spBad2 : Sp := fun vs H _ E => ∃ (a b : Addr) (xs ys : List Str), vs = [.ref a, .ref b] ∧ H a = some (.lst (xs.map V.str)) ∧ H b = some (.lst (ys.map V.str)) ∧ Bad [xs, ys] ∧ ∀ (c : Value) (d : Option Addr) (H' : Hp), Same H H' → E c d H'
def wantB (way : Nat) (LL : List (List Str)) (k : Int) (y : Str) : Bool :=
  match way with
  | 0 => decide (y ∈ LL.getD 0 []) || decide (y ∈ LL.getD 1 [])
  | 1 => decide (y ∈ LL.getD 0 []) && decide (y ∈ LL.getD 1 [])
  | 2 => decide (y ∈ LL.getD 0 []) && !decide (y ∈ LL.getD 1 [])
  | 3 => decide (y ∈ LL.getD 0 []) != decide (y ∈ LL.getD 1 [])
  | 4 => false
  | 5 => decide (0 < cnt LL y)
  | 6 => decide ((cnt LL y : Int) = LL.length)
  | 7 => decide ((cnt LL y : Int) = k)
  | _ => true
def Told (way : Nat) (LL : List (List Str)) (k : Int) (H : Hp) (v : V) : Prop :=
  (way = 4 ∧ ∃ (l : Addr) (ts : List Addr), v = .ref l ∧ H l = some (.lst (ts.map V.ref)) ∧ PairsAt H ts (prod (LL.getD 0 []) (LL.getD 1 []))) ∨
  (way = 8 ∧ ∃ (l : Addr) (ts : List Addr) (zs : List Str), v = .ref l ∧ H l = some (.lst (ts.map V.ref)) ∧ Rising zs ∧ (∀ y, y ∈ zs ↔ 0 < cnt LL y) ∧ SharesAt H ts (grp (pos LL) zs)) ∨
  (way ≠ 4 ∧ way < 8 ∧ ∃ (l : Addr) (zs : List Str), v = .ref l ∧ H l = some (.lst (zs.map V.str)) ∧ Rising zs ∧ ∀ y, y ∈ zs ↔ 0 < cnt LL y ∧ wantB way LL k y = true)
def Good (LL : List (List Str)) : Prop := Fit LL ∧ ∀ xs ∈ LL, xs.length ≤ 31
def spAskGood : Sp := fun vs H Q _ => ∃ (way : Nat) (k : Int) (a : Addr) (rs : List Addr) (LL : List (List Str)), vs = [.int way, .ref a, .int k] ∧ way ≤ 8 ∧ Rolls H a rs LL ∧ Good LL ∧ 2 ≤ LL.length ∧ (way ≤ 4 → LL.length = 2) ∧ ∀ (v : V) (H' : Hp), Same H H' → Told way LL k H' v → Q v H'
def spAskBad : Sp := fun vs H _ E => ∃ (way : Nat) (k : Int) (a : Addr) (rs : List Addr) (LL : List (List Str)), vs = [.int way, .ref a, .int k] ∧ way ≤ 8 ∧ Rolls H a rs LL ∧ Bad LL ∧ 2 ≤ LL.length ∧ (way ≤ 4 → LL.length = 2) ∧ ∀ (c : Value) (d : Option Addr) (H' : Hp), Same H H' → E c d H'
def HasFn1 (P : Program) (w : World) (C : Addr) (K : PySem.W.Frag) (mg : Str → Option Value) (base : Heap) (k : Nat) (x : Str) (st : Stmt) (ps : List Str) (sp : Sp) : Prop := ∃ (f : Addr) (fd : FuncData), IsDef K mg x st ps f fd ∧ FnOk P w K mg base (CX1 P w C) k f fd ps sp
theorem cnt_two {xs ys : List Str} {y : Str} : 0 < cnt [xs, ys] y ↔ y ∈ xs ∨ y ∈ ys := by
  unfold cnt
  rw [List.countP_pos_iff]
  constructor
  · rintro ⟨zs, hz, q⟩
    have q := of_decide_eq_true q
    rcases List.mem_cons.mp hz with rfl | hz
    · exact .inl q
    · rw [List.mem_singleton.mp hz] at q
      exact .inr q
  · rintro (h | h)
    · exact ⟨xs, by simp, decide_eq_true h⟩
    · exact ⟨ys, by simp, decide_eq_true h⟩
theorem cnt_any {LL : List (List Str)} {y : Str} : 0 < cnt LL y ↔ ∃ xs ∈ LL, y ∈ xs := by
  unfold cnt
  rw [List.countP_pos_iff]
  exact ⟨fun ⟨zs, hz, q⟩ => ⟨zs, hz, of_decide_eq_true q⟩, fun ⟨zs, hz, q⟩ => ⟨zs, hz, decide_eq_true q⟩⟩
end LB
end
section
namespace K08
open PySem L2 CM LB
def top (i : Nat) : Stmt := PySem.Challenge.pw_clubroll_k08_no_rolls.main.body.getD i (.Pass ⟨0, 0, 0, 0⟩)
abbrev sAt : Stmt := top 22
abbrev sSpelt : Stmt := top 23
abbrev sStride : Stmt := top 24
abbrev sDict : Stmt := top 25
abbrev sMark : Stmt := top 26
abbrev sLaid : Stmt := top 27
abbrev sSame : Stmt := top 28
abbrev sAllSame : Stmt := top 29
abbrev sCopies : Stmt := top 30
abbrev sAny : Stmt := top 37
abbrev sLaw : Stmt := top 42
abbrev sRoom : Stmt := top 36
abbrev sIsRoll : Stmt := top 4
section
variable {P : Program} {w : World} {K : PySem.W.Frag} {mg : Str → Option Value} {base : Heap}
theorem scAt : FnScope ["_law_script", "_law_k"] ["_law_script", "_law_k"] (defScope sAt) := ⟨rfl, rfl, rfl, by decide +kernel, rfl, by decide +kernel, by decide +kernel⟩
theorem ok_at {f : Addr} {fd : FuncData} (D : IsDef K mg "_law_at" sAt ["_law_script", "_law_k"] f fd) (T : Txt mg) : FnOk P w K mg base CX0 1 f fd ["_law_script", "_law_k"] (spAt K) := by
  refine D.F.ok scAt (fun vs H Q E h => ?_) (fun cdv A outer s H vs Q E hr h => ?_)
  · obtain ⟨a, k, ns, rfl, _⟩ := h
    rfl
  · obtain ⟨a, k, ns, rfl, hS, q⟩ := h
    refine ⟨_, pss_cons (ps_if (pt_cmpR op_lt (pv 1) (pe_callB call_len_seq (by rfl) T.len bt_len (pa_cons (pv 0) pa_nil)) (nomark _)) (pss_one (ps_ret (pe_ix ix_list (pv 0) (pv 1) (fun _ _ => rfl)))) pss_nil) (pss_one (ps_ret pe_int)), ?_⟩
    refine ⟨_, rfl, _, rfl, a, _, rfl, .inl hS, _, _, rfl, rfl, _, rfl, ?_⟩
    rw [List.length_map]
    refine ite2 (fun h => ?_) (fun h => ?_)
    · have hk : k < ns.length := by simpa using h
      exact ⟨_, rfl, _, rfl, a, _, _, _, rfl, rfl, hS, atI_nat (at_ints hk), q⟩
    · have hk : ¬ k < ns.length := by simpa using h
      have e : ns.getD k 0 = 0 := by rw [List.getD_eq_getElem?_getD, List.getElem?_eq_none (by omega)]; rfl
      rw [e] at q
      exact q
theorem scSpelt : FnScope ["_law_cell", "_law_word"] ["_law_cell"] (defScope sSpelt) := ⟨rfl, rfl, rfl, by decide +kernel, rfl, by decide +kernel, by decide +kernel⟩
theorem ok_spelt {f : Addr} {fd : FuncData} (D : IsDef K mg "_law_spelt" sSpelt ["_law_cell"] f fd) (T : Txt mg) : FnOk P w K mg base CX0 1 f fd ["_law_cell"] spSpelt := by
  refine D.F.ok scSpelt (fun vs H Q E h => ?_) (fun cdv A outer s H vs Q E hr h => ?_)
  · obtain ⟨c, rfl, _⟩ := h
    rfl
  · obtain ⟨c, rfl, h0, hb, q⟩ := h
    refine ⟨_, pss_cons (ps_set (i := 1) scSpelt.nd rfl (Or.inl rfl) pe_str)
      (pss_cons (ps_while PassesOwn.never (pt_cmpR op_ge (pv 0) pe_int (nomark _))
        (pss_cons (ps_set (i := 1) scSpelt.nd rfl (Or.inl rfl) (pe_op op_add_str (pe_ix ix_str pe_str (pe_op op_mod (pv 0) pe_int) (fun _ _ => rfl)) (pv 1)))
        (pss_one (ps_set (i := 0) scSpelt.nd rfl (Or.inl rfl) (pe_op op_sub (pe_op op_fdiv (pv 0) pe_int) pe_int)))))
      (pss_one (ps_ret (pv 1)))), ?_⟩
    have hlen : (wordS (c + 1).toNat).length ≤ 210 := wordS_short hb
    have hsl : sizeLine = 16777216 := sizeLine_eq
    refine while_by (fun σ H' => ∃ (d : Int) (t : Str), σ = [some (.int d), some (.str t)] ∧ H' = H ∧ -1 ≤ d ∧ word (d + 1).toNat ++ t.cps.toList = word (c + 1).toNat)
      (fun σ _ => match σ with | some (.int d) :: _ => (d + 1).toNat | _ => 0) ⟨c, _, rfl, rfl, by omega, by rw [empty_list, List.append_nil]⟩ ?_ ?_
    · rintro σ H' ⟨d, t, rfl, rfl, hd, ht⟩
      refine ⟨_, rfl, _, _, rfl, rfl, _, rfl, ?_⟩
      refine ite2 (fun z => ?_) (fun z => ?_)
      · have hd0 : 0 ≤ d := by simpa using z
        have htl : t.length ≤ 210 := by
          have e := congrArg List.length ht
          rw [List.length_append] at e
          rw [wordS_len] at hlen
          have : t.length = t.cps.toList.length := by simp [Str.length]
          omega
        refine ⟨_, rfl, _, _, rfl, rfl, (by show (0 : Int) < 26; decide), _, _, _, rfl, rfl, (by decide +kernel), abc_ix (by omega) (by omega), _, rfl, _, _, rfl, rfl, ?_, ?_⟩
        · show (⟨#[97 + (d % 26).toNat]⟩ : Str).length + t.length ≤ sizeLine
          have : (⟨#[97 + (d % 26).toNat]⟩ : Str).length = 1 := rfl
          omega
        · refine ⟨_, rfl, _, _, rfl, rfl, ⟨by decide, by decide⟩, _, _, rfl, rfl, ?_⟩
          refine ⟨⟨d / 26 - 1, _, rfl, rfl, by omega, ?_⟩, ?_⟩
          · have e1 : (d / 26 - 1 + 1).toNat = ((d + 1).toNat - 1) / 26 := by omega
            have e2 : (d % 26).toNat = ((d + 1).toNat - 1) % 26 := by omega
            rw [← ht, word_pos (c := (d + 1).toNat) (by omega), e1, e2, app_list, List.append_assoc]
          · show (d / 26 - 1 + 1).toNat < (d + 1).toNat
            omega
      · have hd0 : ¬ 0 ≤ d := by simpa using z
        have e : (d + 1).toNat = 0 := by omega
        rw [e, word_zero, List.nil_append] at ht
        have et : t = wordS (c + 1).toNat := str_ext (by rw [ht]; simp [wordS])
        subst et
        exact ⟨_, rfl, q⟩
    · rintro σ H' Q1 Q2 hq ⟨v, e, i, j, h1, h2, r, h3, h4⟩
      exact ⟨v, e, i, j, h1, h2, r, h3, hq _ _ h4⟩
theorem scAny : FnScope ["_law_cell", "_law_size"] ["_law_cell"] (defScope sAny) := ⟨rfl, rfl, rfl, by decide +kernel, rfl, by decide +kernel, by decide +kernel⟩
theorem ok_any {f : Addr} {fd : FuncData} (D : IsDef K mg "_law_any" sAny ["_law_cell"] f fd) (T : Txt mg) : FnOk P w K mg base CX0 1 f fd ["_law_cell"] spAny := by
  refine D.F.ok scAny (fun vs H Q E h => ?_) (fun cdv A outer s H vs Q E hr h => ?_)
  · obtain ⟨c, rfl, _⟩ := h
    rfl
  · obtain ⟨c, rfl, q⟩ := h
    refine ⟨_, pss_cons (ps_set (i := 1) scAny.nd rfl (Or.inl rfl) (pe_op op_mod (pe_op op_fdiv (pv 0) pe_int) (pe_op op_pow pe_int pe_int)))
      (pss_one (ps_ret (pe_op op_mul (pv 1) (pe_ix ix_list (pe_lst (pa_cons pe_int (pa_cons (pe_un un_neg pe_int) pa_nil))) (pe_op op_mod (pv 0) pe_int) (fun _ _ => rfl))))), ?_⟩
    have hp : (0 : Int) < 10 ^ (59 : Int).toNat := by decide
    refine ⟨_, rfl, _, _, rfl, rfl, ⟨by decide, by decide⟩, _, _, rfl, rfl, ⟨by decide, by decide, by decide⟩, _, _, rfl, rfl, hp, ?_⟩
    have e59 : ((10 : Int) ^ (59 : Int).toNat) = 10 ^ 59 := rfl
    have b1 : 0 ≤ c / 2 % 10 ^ 59 := Int.emod_nonneg _ (by decide)
    have b2 : c / 2 % 10 ^ 59 < 10 ^ 59 := Int.emod_lt_of_pos _ (by decide)
    refine ⟨_, rfl, _, rfl, by rw [sizeLine_eq]; decide, fun p hpn => ?_⟩
    have hc : c % 2 = 0 ∨ c % 2 = 1 := by omega
    refine ⟨_, rfl, _, _, rfl, rfl, (by show (0 : Int) < 2; decide), p, [V.int 1, V.int (-1)], c % 2, ?_⟩
    rcases hc with hc | hc
    · refine ⟨V.int 1, rfl, rfl, sq_of upd_same, by rw [hc]; rfl, _, _, rfl, rfl, .inr ⟨by decide, by decide⟩, ?_⟩
      refine q _ _ ?_ ?_ (same_upd hpn)
      · show -(10 ^ 59) < c / 2 % 10 ^ 59 * 1
        omega
      · show c / 2 % 10 ^ 59 * 1 < 10 ^ 59
        omega
    · refine ⟨V.int (-1), rfl, rfl, sq_of upd_same, by rw [hc]; rfl, _, _, rfl, rfl, .inr ⟨by decide, by decide⟩, ?_⟩
      refine q _ _ ?_ ?_ (same_upd hpn)
      · show -(10 ^ 59) < c / 2 % 10 ^ 59 * (-1)
        omega
      · show c / 2 % 10 ^ 59 * (-1) < 10 ^ 59
        omega
theorem scStride : FnScope ["_law_script", "_law_cell"] ["_law_script"] (defScope sStride) := ⟨rfl, rfl, rfl, by decide +kernel, rfl, by decide +kernel, by decide +kernel⟩
theorem ok_stride {f fA fY : Addr} {fd fdA fdY : FuncData} (D : IsDef K mg "_law_stride" sStride ["_law_script"] f fd) (T : Txt mg) (DA : IsDef K mg "_law_at" sAt ["_law_script", "_law_k"] fA fdA) (DY : IsDef K mg "_law_any" sAny ["_law_cell"] fY fdY) : FnOk P w K mg base CX0 2 f fd ["_law_script"] (spStride K) := by
  have GA : FnOk P w K mg base CX0 1 fA fdA ["_law_script", "_law_k"] (spAt K) := ok_at DA T
  have GY : FnOk P w K mg base CX0 1 fY fdY ["_law_cell"] spAny := ok_any DY T
  refine D.F.ok scStride (fun vs H Q E h => ?_) (fun cdv A outer s H vs Q E hr h => ?_)
  · obtain ⟨a, ns, rfl, _⟩ := h
    rfl
  · obtain ⟨a, ns, rfl, hS, q⟩ := h
    refine ⟨_, pss_cons (ps_set (i := 1) scStride.nd rfl (Or.inl rfl) (pe_op op_fdiv (pe_call GA hr (by rfl) DA.m DA.F.kp DA.b .nil pass0 (pa_cons (pv 0) (pa_cons pe_int pa_nil))) pe_int))
      (pss_cons (ps_if (pt_cmpR op_eq (pe_op op_mod (pv 1) pe_int) pe_int (nomark _)) (pss_one (ps_ret pe_int)) pss_nil)
      (pss_one (ps_ret (pe_op op_add pe_int (pe_callB call_abs (by rfl) T.abs bt_abs (pa_cons (pe_call GY hr (by rfl) DY.m DY.F.kp DY.b .nil pass0 (pa_cons (pv 1) pa_nil)) pa_nil)))))), ?_⟩
    refine ⟨_, rfl, a, 0, ns, rfl, hS, _, _, rfl, rfl, ⟨by decide, by decide⟩, ?_⟩
    refine ⟨_, rfl, _, _, rfl, rfl, (by show (0 : Int) < 2; decide), rfl, _, rfl, ?_⟩
    refine ite2 (fun _ => ?_) (fun _ => ?_)
    · exact q 1 H (by decide) (by decide) (Same.refl H)
    · refine ⟨_, rfl, _, rfl, fun r H' h1 h2 hs => ⟨r, rfl, _, _, rfl, rfl, ?_⟩⟩
      refine q _ H' ?_ ?_ hs
      · split <;> omega
      · split <;> omega
theorem scSame : FnScope ["_law_found", "_law_due", "_law_k"] ["_law_found", "_law_due"] (defScope sSame) := ⟨rfl, rfl, rfl, by decide +kernel, rfl, by decide +kernel, by decide +kernel⟩
theorem ok_same {f : Addr} {fd : FuncData} (D : IsDef K mg "_law_same" sSame ["_law_found", "_law_due"] f fd) (T : Txt mg) : FnOk P w K mg base CX0 1 f fd ["_law_found", "_law_due"] spSame := by
  refine D.F.ok scSame (fun vs H Q E h => ?_) (fun cdv A outer s H vs Q E hr h => ?_)
  · obtain ⟨a, b, xs, ys, rfl, _⟩ := h
    rfl
  · obtain ⟨a, b, xs, ys, rfl, ha, hb, hn, q⟩ := h
    refine ⟨_, pss_cons (ps_if (pw_or (pt_not (pt_val (pe_callB (call_isinst (T := "list")) (by rfl) T.isi bt_isinstance (pa_cons (pv 0) (pa_cons (pe_ty (by rfl) T.list bt_list) pa_nil)))))
        (pw_or1 (pt_cmpR op_ne (pe_callB call_len_seq (by rfl) T.len bt_len (pa_cons (pv 0) pa_nil)) (pe_callB call_len_seq (by rfl) T.len bt_len (pa_cons (pv 1) pa_nil)) (nomark _)))).pt (pss_one (ps_ret pe_bl)) pss_nil)
      (pss_cons (ps_for PassesOwn.never rfl (pi_range1 (by rfl) T.range (pa_cons (pe_callB call_len_seq (by rfl) T.len bt_len (pa_cons (pv 1) pa_nil)) pa_nil)) (pg_name (i := 2) scSame.nd rfl (Or.inl rfl))
        (pss_one (ps_if (pw_or (pt_not (pt_val (pe_callB (call_isinst (T := "str")) (by rfl) T.isi bt_isinstance (pa_cons (pe_ix ix_list (pv 0) (pv 2) (fun _ _ => rfl)) (pa_cons (pe_ty (by rfl) T.str bt_str) pa_nil)))))
          (pw_or1 (pt_cmpR op_ne (pe_ix ix_list (pv 0) (pv 2) (fun _ _ => rfl)) (pe_ix ix_list (pv 1) (pv 2) (fun _ _ => rfl)) (nomark _)))).pt (pss_one (ps_ret pe_bl)) pss_nil)))
      (pss_one (ps_ret pe_bl))), ?_⟩
    have la : (xs.map V.str).length = xs.length := List.length_map _
    have lb : (ys.map V.str).length = ys.length := List.length_map _
    refine ⟨_, rfl, _, _, true, rfl, .lst ha, rfl, _, rfl, iteF ?_⟩
    refine ⟨_, rfl, a, _, rfl, .inl (sq_of ha), _, rfl, b, _, rfl, .inl (sq_of hb), rfl, _, rfl, ?_⟩
    by_cases hl : xs.length = ys.length
    · refine iteNS (by rw [la, lb, hl]) ?_
      refine ⟨_, rfl, b, _, rfl, .inl (sq_of hb), _, rfl, by omega, by rw [lb]; omega, ?_⟩
      refine for_range (fun i σ H' => ∃ o, σ = [some (.ref a), some (.ref b), o] ∧ H' = H ∧ ∀ j, j < i → xs[j]? = ys[j]?) ⟨none, rfl, rfl, fun j hj => absurd hj (Nat.not_lt_zero _)⟩ ?_ ?_
      · rintro i σ H' hi ⟨o, rfl, rfl, hs⟩
        have hi' : i < ys.length := by rw [lb] at hi; simpa using hi
        have ex : xs[i]? = some xs[i] := List.getElem?_eq_getElem (by omega)
        have ey : ys[i]? = some ys[i] := List.getElem?_eq_getElem hi'
        refine ⟨_, rfl, _, rfl, a, _, _, _, rfl, rfl, sq_of ha, ix_map (Int.zero_add _) ex, _, _, true, rfl, .str _, rfl, _, rfl, iteF ?_⟩
        refine ⟨_, rfl, _, rfl, a, _, _, _, rfl, rfl, sq_of ha, ix_map (Int.zero_add _) ex, _, rfl, _, rfl, b, _, _, _, rfl, rfl, sq_of hb, ix_map (Int.zero_add _) ey, rfl, _, rfl, ?_⟩
        by_cases e : xs[i] = ys[i]
        · refine iteNS (by rw [e]) ?_
          refine ⟨_, rfl, rfl, fun j hj => ?_⟩
          by_cases hji : j = i
          · subst hji
            rw [ex, ey, e]
          · exact hs j (by omega)
        · refine iteN (fun z => e (V.str.inj z)) ?_
          exact q false ⟨fun z => (by cases z), fun z => absurd (Option.some.inj (ex.symm.trans ((congrArg (fun l => l[i]?) z).trans ey))) e⟩
      · rintro σ H' ⟨o, rfl, rfl, hs⟩
        refine q true ⟨fun _ => List.ext_getElem? fun j => ?_, fun _ => rfl⟩
        by_cases hj : j < ys.length
        · exact hs j (by rw [lb]; simpa using hj)
        · rw [List.getElem?_eq_none (by omega), List.getElem?_eq_none (by omega)]
    · refine iteN (fun z => hl ?_) ?_
      · have z' := V.int.inj z
        rw [la, lb] at z'
        omega
      · exact q false ⟨fun z => (by cases z), fun z => absurd (by rw [z]) hl⟩
end
end K08
end
section
namespace K08
open PySem L2 CM LB
section
variable {P : Program} {w : World} {K : PySem.W.Frag} {mg : Str → Option Value} {base : Heap}
theorem scDict : FnScope ["_law_span", "_law_step"] ["_law_span", "_law_step"] (defScope sDict) := ⟨rfl, rfl, rfl, by decide +kernel, rfl, by decide +kernel, by decide +kernel⟩
abbrev NM : List Str := ["_law_cells", "_law_count", "_law_span", "_law_k", "_law_marks", "_law_cell", "_law_spot", "_law_every", "_law_one", "_law_place"]
theorem scMark : FnScope NM ["_law_cells", "_law_count", "_law_span"] (defScope sMark) := ⟨rfl, rfl, rfl, by decide +kernel, rfl, by decide +kernel, by decide +kernel⟩
theorem ok_mark {f : Addr} {fd : FuncData} (D : IsDef K mg "_law_marked" sMark ["_law_cells", "_law_count", "_law_span"] f fd) (T : Txt mg) : FnOk P w K mg base CX0 1 f fd ["_law_cells", "_law_count", "_law_span"] (spMark K) := by
  refine D.F.ok scMark (fun vs H Q E h => ?_) (fun cdv A outer s H vs Q E hr h => ?_)
  · obtain ⟨c, ns, count, span, rfl, _⟩ := h
    rfl
  · obtain ⟨c, ns, count, span, rfl, hS, l1, c1, s0, s1, q⟩ := h
    refine ⟨_, pss_cons (ps_comp (i := 4) (j := 0) (N' := ["_law_k", "_law_span"]) (emb := [none, some 2]) rfl (pi_range1 (by rfl) T.range (pa_cons (pv 1) pa_nil)) rfl (by decide +kernel) (by decide +kernel)
          (free_of ["_law_span"] (by decide +kernel) (all_cons rfl all_nil)) ⟨rfl, .inl rfl, .inl rfl, trivial⟩ rfl (by decide +kernel) rfl rfl (fun _ _ _ _ => pts_nil)
          (fun _ _ _ _ => pe_op op_rep (pe_lst (pa_cons pe_bl pa_nil)) (pv 1)) scMark.nd rfl rfl rfl)
      (pss_cons (ps_for PassesOwn.never rfl (pi_range1 (by rfl) T.range (pa_cons (pe_callB call_len_seq (by rfl) T.len bt_len (pa_cons (pv 0) pa_nil)) pa_nil)) (pg_name (i := 3) scMark.nd rfl (Or.inl rfl))
        (pss_cons (ps_set (i := 5) scMark.nd rfl (Or.inl rfl) (pe_ix ix_list (pv 0) (pv 3) (fun _ _ => rfl)))
        (pss_cons (ps_set (i := 6) scMark.nd rfl (Or.inl rfl) (pe_op op_mod (pv 5) (pv 2)))
        (pss_cons (ps_set (i := 7) scMark.nd rfl (Or.inl rfl) (pe_cmpR op_eq (pe_op op_mod (pe_op op_fdiv (pe_ix ix_list (pv 0) (pe_op op_mod (pe_op op_add (pv 3) pe_int) (pe_callB call_len_seq (by rfl) T.len bt_len (pa_cons (pv 0) pa_nil))) (fun _ _ => rfl)) pe_int) pe_int) pe_int (nomark _)))
        (pss_cons (ps_set (i := 8) scMark.nd rfl (Or.inl rfl) (pe_op op_mod (pe_op op_add (pv 3) (pe_ix ix_list (pv 0) (pe_op op_mod (pe_op op_add (pv 3) pe_int) (pe_callB call_len_seq (by rfl) T.len bt_len (pa_cons (pv 0) pa_nil))) (fun _ _ => rfl))) (pe_callB (call_max2 rfl) (by rfl) T.max bt_max (pa_cons pe_int (pa_cons (pv 1) pa_nil)))))
        (pss_one (ps_for PassesOwn.never rfl (pi_range1 (by rfl) T.range (pa_cons (pv 1) pa_nil)) (pg_name (i := 9) scMark.nd rfl (Or.inl rfl))
          (pss_one (ps_if (pw_or (pt_val (pv 7)) (pw_or1 (pt_cmpR op_eq (pv 8) (pv 9) (nomark _)))).pt (pss_one (ps_asg pe_bl (pg_sub (pe_ix ix_list (pv 4) (pv 9) (fun _ _ => rfl)) (pv 6) set_list))) pss_nil)))))))))
      (pss_one (ps_ret (pv 4)))), ?_⟩
    have ln : (ns.map V.int).length = ns.length := List.length_map _
    have hsl : sizeLine = 16777216 := sizeLine_eq
    refine ⟨_, rfl, (count : Int), rfl, by omega, by omega, fun d hd => ?_⟩
    refine comp_range (lo := 0) (n := ((count : Nat) : Int).toNat) (j := 0) (emb := [none, some 2]) (tt := tAlways) (te := tOp rRep (tLst (tCons (tC (V.bl false)) tNil)) (tVar 1)) (Q := fun v H' => gName 4 v _ H' _) (σ := [some (.ref c), some (.int (count : Int)), some (.int (span : Int)), none, none, none, none, none, none, none])
      (fun i ys H3 => ∃ rs : List Addr, ys = rs.map V.ref ∧ rs.length = i ∧ (d :: rs).Nodup ∧ (∀ r ∈ rs, H r = none) ∧ Same H H3 ∧ H3 d = some (.lst ys) ∧ ∀ p r, rs[p]? = some r → H3 r = some (.lst (rowB (grid ns count span 0) span p)))
      ⟨[], rfl, rfl, nd_one d, fun _ h => absurd h List.not_mem_nil, same_upd hd, upd_same, fun p r h => absurd h (by simp)⟩ ?_ ?_
    · rintro i ys H3 hi ⟨rs, rfl, hl, nd, fr, z1, z2, z3⟩
      refine always ⟨by rw [hsl]; decide, fun p1 hp1 => ⟨_, rfl, p1, _, _, rfl, rfl, upd_same, by omega, by omega, ?_, fun p2 hp2 => ?_⟩⟩
      · show 1 * ((span : Nat) : Int).toNat ≤ sizeLine
        omega
      · obtain ⟨n21, hp2'⟩ := upd_none hp2
        have f2 : H p2 = none := z1.free hp2'
        have nd2 : p2 ≠ d := fun e => by rw [e, z2] at hp2'; cases hp2'
        have nd1 : p1 ≠ d := fun e => by rw [e, z2] at hp1; cases hp1
        have nr2 : ∀ r ∈ rs, r ≠ p2 := fun r hr e => by
          obtain ⟨p, hp⟩ := List.getElem?_of_mem hr
          rw [e] at hp
          rw [z3 p p2 hp] at hp2'
          cases hp2'
        have nr1 : ∀ r ∈ rs, r ≠ p1 := fun r hr e => by
          obtain ⟨p, hp⟩ := List.getElem?_of_mem hr
          rw [e] at hp
          rw [z3 p p1 hp] at hp1
          cases hp1
        have nrd : ∀ r ∈ rs, r ≠ d := fun r hr e => (List.nodup_cons.mp nd).1 (e ▸ hr)
        refine ⟨by rw [upd_ne (Ne.symm nd2), upd_ne (Ne.symm nd1)]; exact z2, by rw [List.length_map]; omega, rs ++ [p2], by rw [List.map_append]; rfl, by rw [List.length_append, hl]; rfl, ?_, ?_, ?_, upd_same, ?_⟩
        · rw [← List.cons_append]
          refine List.nodup_append.mpr ⟨nd, nd_one _, fun x hx y hy e => ?_⟩
          cases List.mem_singleton.mp hy
          rcases List.mem_cons.mp hx with hx | hx
          · exact nd2 (e.symm.trans hx)
          · exact nr2 x hx e
        · intro r hr
          rcases List.mem_append.mp hr with hr | hr
          · exact fr r hr
          · cases List.mem_singleton.mp hr
            exact f2
        · exact same_put (same_put (same_put z1 (z1.free hp1)) f2) hd
        · refine row_snoc z3 (fun r hr o e => ?_) ?_
          · rw [upd_ne (nrd r hr), upd_ne (nr2 r hr), upd_ne (nr1 r hr)]
            exact e
          · rw [upd_ne nd2, upd_same, rowB_zero (ns := ns) (count := count) (span := span) (p := rs.length)]
            rfl
    · rintro ys H3 ⟨rs, rfl, hl, nd, fr, z1, z2, z3⟩
      have hlc : rs.length = count := by rw [hl]; omega
      have ndr : rs.Nodup := (List.nodup_cons.mp nd).2
      have nrd : ∀ r ∈ rs, r ≠ d := fun r hr e => (List.nodup_cons.mp nd).1 (e ▸ hr)
      refine ⟨_, rfl, c, _, rfl, .inl (z1.seq hS), (((ns.map V.int).length : Nat) : Int), rfl, by omega, by rw [ln]; omega, ?_⟩
      refine for_range (fun k σ H4 => ∃ o3 o5 o6 o7 o8 o9, σ = [some (.ref c), some (.int (count : Int)), some (.int (span : Int)), o3, some (.ref d), o5, o6, o7, o8, o9] ∧ Same H H4 ∧ H4 d = some (.lst (rs.map V.ref)) ∧ ∀ p r, rs[p]? = some r → H4 r = some (.lst (rowB (grid ns count span k) span p)))
        ⟨none, none, none, none, none, none, rfl, z1, z2, z3⟩ ?_ ?_
      · rintro k σ H4 hk ⟨o3, o5, o6, o7, o8, o9, rfl, y1, y2, y3⟩
        have hk' : k < ns.length := by omega
        have S4 := y1.seq hS
        have m0 : 0 < ns.length := by omega
        refine ⟨_, rfl, _, rfl, c, _, _, _, rfl, rfl, S4, at_int (j := k) (by omega) hk', ?_⟩
        refine ⟨_, rfl, _, rfl, _, _, rfl, rfl, (by omega), ?_⟩
        refine ⟨_, rfl, _, rfl, _, _, rfl, rfl, _, rfl, c, _, rfl, .inl S4, _, _, rfl, rfl, (by rw [ln]; omega), ?_⟩
        rw [ln]
        refine ⟨c, _, _, _, rfl, rfl, S4, at_int (mod_nat (a := k + 1) (by omega)) (Nat.mod_lt _ m0), _, _, rfl, rfl, ⟨by decide, by decide⟩, _, _, rfl, rfl, (by show (0 : Int) < 5; decide), rfl, ?_⟩
        refine ⟨_, rfl, _, rfl, _, rfl, _, _, rfl, rfl, _, rfl, c, _, rfl, .inl S4, _, _, rfl, rfl, (by rw [ln]; omega), ?_⟩
        rw [ln]
        refine ⟨c, _, _, _, rfl, rfl, S4, at_int (mod_nat (a := k + 2) (by omega)) (Nat.mod_lt _ m0), _, _, rfl, rfl, _, rfl, _, _, rfl, _, _, rfl, rfl, ?_, ?_⟩
        · show (0 : Int) < if (count : Int) > 1 then (count : Int) else 1
          rw [max_of]
          omega
        refine ⟨_, rfl, (count : Int), rfl, by omega, by omega, ?_⟩
        have sp0 : 0 ≤ ns.getD k 0 % (span : Int) := Int.emod_nonneg _ (by omega)
        have sp1 : ns.getD k 0 % (span : Int) < (span : Int) := Int.emod_lt_of_pos _ (by omega)
        refine for_range (fun pl σ H5 => ∃ o9, σ = [some (.ref c), some (.int (count : Int)), some (.int (span : Int)), some (.int (0 + (k : Int))), some (.ref d), some (.int (ns.getD k 0)), some (.int (ns.getD k 0 % (span : Int))), some (.bl (decide (V.int (ns.getD ((k + 1) % ns.length) 0 / 3 % 5) = V.int 0))), some (.int ((0 + (k : Int) + ns.getD ((k + 2) % ns.length) 0) % (if (count : Int) > 1 then (count : Int) else 1))), o9] ∧ Same H H5 ∧ H5 d = some (.lst (rs.map V.ref)) ∧ ∀ p r, rs[p]? = some r → H5 r = some (.lst (rowB (grid ns count span (if p < pl then k + 1 else k)) span p)))
          ⟨_, rfl, y1, y2, fun p r e => by rw [if_neg (Nat.not_lt_zero _)]; exact y3 p r e⟩ ?_ ?_
        · rintro pl σ H5 hpl ⟨u9, rfl, x1, x2, x3⟩
          have hpl' : pl < rs.length := by omega
          have er : rs[pl]? = some rs[pl] := List.getElem?_eq_getElem hpl'
          have mr : rs[pl] ∈ rs := List.mem_of_getElem? er
          have ec : (decide (V.int (ns.getD ((k + 1) % ns.length) 0 / 3 % 5) = V.int 0) || decide (V.int ((0 + (k : Int) + ns.getD ((k + 2) % ns.length) 0) % (if (count : Int) > 1 then (count : Int) else 1)) = V.int (0 + (pl : Int)))) = cond ns count k pl := by
            rw [dec_i, dec_i, max_of, Int.zero_add, Int.zero_add]
            rfl
          have next : ∀ (X : List V), X = rowB (grid ns count span (k + 1)) span pl → ∀ p r, rs[p]? = some r → (upd H5 rs[pl] (.lst X)) r = some (.lst (rowB (grid ns count span (if p < pl + 1 then k + 1 else k)) span p)) := fun X eX p r e => by
            by_cases ep : p = pl
            · subst ep
              rw [er] at e
              cases e
              rw [upd_same, if_pos (by omega), eX]
            · have ne : r ≠ rs[pl] := fun z => ep (nd_at ndr e (z ▸ er))
              rw [upd_ne ne, x3 p r e]
              by_cases hp : p < pl
              · rw [if_pos hp, if_pos (by omega)]
              · rw [if_neg hp, if_neg (by omega)]
          have old : H5 rs[pl] = some (.lst (rowB (grid ns count span k) span pl)) := by
            rw [x3 pl _ er, if_neg (Nat.lt_irrefl _)]
          have store : cond ns count k pl = true → ∀ (R : Hp → Prop), (∀ H6, Same H H6 → H6 d = some (.lst (rs.map V.ref)) → (∀ p r, rs[p]? = some r → H6 r = some (.lst (rowB (grid ns count span (if p < pl + 1 then k + 1 else k)) span p))) → R H6) →
              ∃ p xs i j, V.ref rs[pl] = V.ref p ∧ V.int (ns.getD k 0 % (span : Int)) = V.int i ∧ H5 p = some (.lst xs) ∧ ixN xs.length i = some j ∧ R (upd H5 p (.lst (xs.set j (V.bl true)))) := fun hc R hR => by
            refine ⟨rs[pl], _, _, (ns.getD k 0 % (span : Int)).toNat, rfl, rfl, old, ?_, hR _ (same_put x1 (fr _ mr)) ?_ (next _ (rowB_set fun s hs => ?_))⟩
            · rw [rowB_len, int_nat sp0]
              exact ixN_nat (by omega)
            · rw [upd_ne (Ne.symm (nrd _ mr))]
              exact x2
            · rw [grid_succ]
              unfold hit
              rw [hc, Bool.true_and]
          refine ⟨_, rfl, _, rfl, ite2 (fun he => ?_) (fun he => ?_)⟩
          · have hc : cond ns count k pl = true := by rw [← ec, he, Bool.true_or]
            exact iteT ⟨_, rfl, _, rfl, d, _, _, _, rfl, rfl, sq_of x2, ix_refs (Int.zero_add _) er, _, rfl, store hc _ fun H6 a1 a2 a3 => ⟨_, rfl, a1, a2, a3⟩⟩
          · refine ⟨_, rfl, _, rfl, rfl, _, rfl, ite2 (fun h2 => ?_) (fun h2 => ?_)⟩
            · have hc : cond ns count k pl = true := by rw [← ec, h2, Bool.or_true]
              exact ⟨_, rfl, _, rfl, d, _, _, _, rfl, rfl, sq_of x2, ix_refs (Int.zero_add _) er, _, rfl, store hc _ fun H6 a1 a2 a3 => ⟨_, rfl, a1, a2, a3⟩⟩
            · have hc : cond ns count k pl = false := by
                rw [← ec, Bool.or_eq_false_iff]
                exact ⟨Bool.eq_false_iff.mpr he, Bool.eq_false_iff.mpr h2⟩
              refine ⟨_, rfl, x1, x2, fun p r e => ?_⟩
              rw [x3 p r e]
              by_cases ep : p = pl
              · subst ep
                rw [if_neg (Nat.lt_irrefl _), if_pos (Nat.lt_succ_self _)]
                refine congrArg (fun l => some (HO.lst l)) (rowB_congr fun s hs => ?_)
                rw [grid_succ]
                unfold hit
                rw [hc, Bool.false_and, Bool.or_false]
              · by_cases hp : p < pl
                · rw [if_pos hp, if_pos (by omega)]
                · rw [if_neg hp, if_neg (by omega)]
        · rintro σ H5 ⟨u9, rfl, x1, x2, x3⟩
          refine ⟨_, _, _, _, _, _, rfl, x1, x2, fun p r e => ?_⟩
          have hp := (List.getElem?_eq_some_iff.mp e).1
          have q3 := x3 p r e
          rw [if_pos (by omega)] at q3
          exact q3
      · rintro σ H4 ⟨o3, o5, o6, o7, o8, o9, rfl, y1, y2, y3⟩
        refine ⟨_, rfl, q d rs H4 ⟨hd, fr, nd⟩ hlc ⟨y2, fun p r e => ?_⟩ y1⟩
        have e2 : (((ns.map V.int).length : Nat) : Int).toNat = ns.length := by omega
        rw [e2] at y3
        exact y3 p r e
end
end K08
end
section
namespace K08
open PySem L2 CM LB
section
variable {P : Program} {w : World} {K : PySem.W.Frag} {mg : Str → Option Value} {base : Heap}
abbrev ND : List Str := ["_law_marks", "_law_menu", "_law_made", "_law_row"]
theorem scLaid : FnScope ND ["_law_marks", "_law_menu"] (defScope sLaid) := ⟨rfl, rfl, rfl, by decide +kernel, rfl, by decide +kernel, by decide +kernel⟩
abbrev laidIs (H : Hp) (a m d : Addr) (g : Nat → Nat → Bool) (zs : List Str) (i : Nat) (σ : St) (H3 : Hp) : Prop := ∃ (o : Option V) (qs : List Addr), σ = [some (.ref a), some (.ref m), some (.ref d), o] ∧ qs.length = i ∧ (d :: qs).Nodup ∧ (∀ r ∈ qs, H r = none) ∧ Same H H3 ∧ H3 d = some (.lst (qs.map V.ref)) ∧ ∀ p r, qs[p]? = some r → H3 r = some (.lst ((pick (g p) zs zs.length).map V.str))
theorem ok_laid {f : Addr} {fd : FuncData} (D : IsDef K mg "_law_laid" sLaid ["_law_marks", "_law_menu"] f fd) (T : Txt mg) : FnOk P w K mg base CX0 1 f fd ["_law_marks", "_law_menu"] spLaid := by
  refine D.F.ok scLaid (fun vs H Q E h => ?_) (fun cdv A outer s H vs Q E hr h => ?_)
  · obtain ⟨a, m, rs, g, zs, rfl, _⟩ := h
    rfl
  · obtain ⟨a, m, rs, g, zs, rfl, tb, l1, hm, l2, q⟩ := h
    refine ⟨_, pss_cons (ps_set (i := 2) scLaid.nd rfl (Or.inl rfl) (pe_lst pa_nil))
      (pss_cons (ps_for PassesOwn.never rfl (pi_list (pv 0)) (pg_name (i := 3) scLaid.nd rfl (Or.inr rfl))
        (pss_one (ps_expr (pe_bm PySem.F.plainAttrs_list PySem.F.slot_list_append PySem.F.type_list_append mt_append (pv 2) (pa_cons
          (pe_comp (j := 0) (tt := tB (tOp (rIxL K) (tVar 2) (tVar 0))) (te := tOp (rIxL K) (tVar 1) (tVar 0)) (N' := ["_law_k", "_law_menu", "_law_row"]) (emb := [none, some 1, some 3]) rfl (pi_range1 (by rfl) T.range (pa_cons (pe_callB call_len_seq (by rfl) T.len bt_len (pa_cons (pv 1) pa_nil)) pa_nil)) rfl (by decide +kernel) (by decide +kernel)
            (free_of ["_law_menu", "_law_row"] (by decide +kernel) (all_cons rfl (all_cons rfl all_nil))) ⟨rfl, .inl rfl, .inl rfl, rfl, .inl rfl, .inl rfl, trivial⟩ rfl (by decide +kernel) rfl rfl
            (fun _ _ _ _ => pts_one (pt_val (pe_ix ix_list (pv 2) (pv 0) (fun _ _ => rfl))))
            (fun _ _ _ _ => pe_ix ix_list (pv 1) (pv 0) (fun _ _ => rfl))) pa_nil)))))
      (pss_one (ps_ret (pv 2)))), ?_⟩
    have hsl : sizeLine = 16777216 := sizeLine_eq
    have lz : (zs.map V.str).length = zs.length := List.length_map _
    refine ⟨Nat.zero_le _, fun d hd => ?_⟩
    have s0 : Same H (upd H d (.lst [])) := same_upd hd
    refine ⟨_, rfl, a, rfl, ⟨_, sq_of (s0 _ _ tb.head)⟩, for_list (K := K) (a := a) (xs := rs.map V.ref)
      (laidIs H a m d g zs)
      ⟨none, [], rfl, rfl, nd_one d, fun _ h => absurd h List.not_mem_nil, s0, upd_same, fun p r h => absurd h (by simp)⟩ (fun i σ H3 _ ⟨_, _, _, _, _, _, z, _⟩ => sq_of (z _ _ tb.head)) ?_ ?_⟩
    · rintro i x σ H3 hi ⟨o, qs, rfl, hl, nd, fr, z1, z2, z3⟩
      obtain ⟨r, er, rfl⟩ := refs_at hi
      have il : i < rs.length := (List.getElem?_eq_some_iff.mp er).1
      have row := z1 _ _ (tb.row i r er)
      have men := z1 _ _ hm
      refine ⟨_, rfl, .inl ⟨rfl, _, sq_of z2⟩, _, rfl, m, _, rfl, .inl (sq_of men), _, rfl, by omega, by rw [lz]; omega, fun e he => ?_⟩
      rw [lz, Int.toNat_natCast]
      refine comp_range (lo := 0) (n := zs.length) (j := 0) (emb := [none, some 1, some 3]) (tt := tB (tOp (rIxL K) (tVar 2) (tVar 0))) (te := tOp (rIxL K) (tVar 1) (tVar 0)) (Q := fun v H' => rAppend (V.ref d) [v] H' fun _ H5 => laidIs H a m d g zs (i + 1) [some (.ref a), some (.ref m), some (.ref d), some (.ref r)] H5) (σ := [some (.ref a), some (.ref m), some (.ref d), some (.ref r)])
        (fun j ys H4 => ys = (pick (g i) zs j).map V.str ∧ Same H3 H4 ∧ H4 e = some (.lst ys)) ⟨rfl, same_upd he, upd_same⟩ ?_ ?_
      · rintro j ys H4 hj ⟨rfl, y1, y2⟩
        have ez : zs[j]? = some zs[j] := List.getElem?_eq_getElem hj
        refine ⟨_, rfl, _, rfl, r, _, _, _, rfl, rfl, sq_of (y1 _ _ row), by rw [Int.zero_add]; exact atI_nat (rowB_at hj), _, rfl, ite2 (fun hb => ?_) (fun hb => ?_)⟩
        · have pl := pick_len (g i) zs j
          refine ⟨_, rfl, _, rfl, m, _, _, _, rfl, rfl, sq_of (y1 _ _ men), ix_map (Int.zero_add _) ez, y2, by rw [List.length_map]; omega, ?_, same_put y1 he, upd_same⟩
          rw [pick_succ ez, if_pos hb, List.map_append]
          rfl
        · refine ⟨?_, y1, y2⟩
          rw [pick_succ ez, if_neg hb, List.append_nil]
      · rintro ys H4 ⟨rfl, y1, y2⟩
        have ned : e ≠ d := fun z => by rw [z, z2] at he; cases he
        have feH : H e = none := z1.free he
        have nqe : ∀ r ∈ qs, r ≠ e := fun r hr z => by
          obtain ⟨p, hp⟩ := List.getElem?_of_mem hr
          rw [z] at hp
          rw [z3 p e hp] at he
          cases he
        have nqd : ∀ r ∈ qs, r ≠ d := fun r hr z => (List.nodup_cons.mp nd).1 (z ▸ hr)
        refine ⟨d, _, _, rfl, rfl, y1 _ _ z2, by rw [List.length_map]; omega, _, qs ++ [e], rfl, by rw [List.length_append, hl]; rfl, ?_, ?_, same_put (z1.trans y1) hd, by rw [upd_same, List.map_append]; rfl, ?_⟩
        · rw [← List.cons_append]
          refine List.nodup_append.mpr ⟨nd, nd_one _, fun x hx y hy z => ?_⟩
          cases List.mem_singleton.mp hy
          rcases List.mem_cons.mp hx with hx | hx
          · exact ned (z.symm.trans hx)
          · exact nqe x hx z
        · intro r hr
          rcases List.mem_append.mp hr with hr | hr
          · exact fr r hr
          · cases List.mem_singleton.mp hr
            exact feH
        · refine row_snoc (H := H3) z3 (fun r hr o z => ?_) ?_
          · rw [upd_ne (nqd r hr)]
            exact y1 _ _ z
          · rw [upd_ne ned, hl]
            exact y2
    · rintro σ H3 ⟨o, qs, rfl, hl, nd, fr, z1, z2, z3⟩
      exact ⟨_, rfl, q d qs H3 ⟨hd, fr, nd⟩ (by rw [hl, List.length_map]) ⟨z2, z3⟩ z1⟩
theorem scCopies : FnScope ["_law_rows"] ["_law_rows"] (defScope sCopies) := ⟨rfl, rfl, rfl, by decide +kernel, rfl, by decide +kernel, by decide +kernel⟩
theorem ok_copies {f : Addr} {fd : FuncData} (D : IsDef K mg "_law_copies" sCopies ["_law_rows"] f fd) (T : Txt mg) : FnOk P w K mg base CX0 1 f fd ["_law_rows"] spCopies := by
  refine D.F.ok scCopies (fun vs H Q E h => ?_) (fun cdv A outer s H vs Q E hr h => ?_)
  · obtain ⟨a, rs, X, rfl, _⟩ := h
    rfl
  · obtain ⟨a, rs, X, rfl, tb, l1, q⟩ := h
    refine ⟨_, pss_one (ps_ret (pe_comp (j := 0) (tt := tAlways) (te := tCB (fun xs H Q => ∃ p ys, xs = [V.ref p] ∧ (SqL K H p ys ∨ SqT K H p ys) ∧ ∀ l, H l = none → Q (.ref l) (upd H l (.lst ys))) (tCons (tVar 0) tNil)) (N' := ["_law_row"]) (emb := [none]) rfl (pi_list (pv 0)) rfl (by decide +kernel) (by decide +kernel)
      (free_of [] (by decide +kernel) all_nil) trivial rfl (by decide +kernel) rfl rfl (fun _ _ _ _ => pts_nil) (fun _ _ _ _ => pe_callTy call_list_of (by rfl) T.list bt_list (pa_cons (pv 0) pa_nil)))), ?_⟩
    have hsl : sizeLine = 16777216 := sizeLine_eq
    refine ⟨_, rfl, a, rfl, ⟨_, sq_of tb.head⟩, fun d hd => ?_⟩
    refine comp_list (K := K) (a := a) (xs := rs.map V.ref) (j := 0) (emb := [none]) (tt := tAlways) (Q := Q)
      (fun i ys H3 => ∃ qs : List Addr, ys = qs.map V.ref ∧ qs.length = i ∧ (d :: qs).Nodup ∧ (∀ r ∈ qs, H r = none) ∧ Same H H3 ∧ H3 d = some (.lst ys) ∧ ∀ p r, qs[p]? = some r → H3 r = some (.lst (X p)))
      ⟨[], rfl, rfl, nd_one d, fun _ h => absurd h List.not_mem_nil, same_upd hd, upd_same, fun p r h => absurd h (by simp)⟩ (fun i ys H3 _ ⟨_, _, _, _, _, z, _⟩ => sq_of (z _ _ tb.head)) ?_ ?_
    · rintro i x ys H3 hi ⟨qs, rfl, hl, nd, fr, z1, z2, z3⟩
      obtain ⟨r, er, rfl⟩ := refs_at hi
      have il : i < rs.length := (List.getElem?_eq_some_iff.mp er).1
      have row := z1 _ _ (tb.row i r er)
      refine always ⟨_, rfl, r, _, rfl, .inl (sq_of row), fun e he => ?_⟩
      have ned : e ≠ d := fun z => by rw [z, z2] at he; cases he
      have feH : H e = none := z1.free he
      have nqe : ∀ r ∈ qs, r ≠ e := fun r hr z => by
        obtain ⟨p, hp⟩ := List.getElem?_of_mem hr
        rw [z] at hp
        rw [z3 p e hp] at he
        cases he
      have nqd : ∀ r ∈ qs, r ≠ d := fun r hr z => (List.nodup_cons.mp nd).1 (z ▸ hr)
      refine ⟨by rw [upd_ne (Ne.symm ned)]; exact z2, by rw [List.length_map]; omega, qs ++ [e], by rw [List.map_append]; rfl, by rw [List.length_append, hl]; rfl, ?_, ?_, same_put (same_put z1 feH) hd, upd_same, ?_⟩
      · rw [← List.cons_append]
        refine List.nodup_append.mpr ⟨nd, nd_one _, fun x hx y hy z => ?_⟩
        cases List.mem_singleton.mp hy
        rcases List.mem_cons.mp hx with hx | hx
        · exact ned (z.symm.trans hx)
        · exact nqe x hx z
      · intro r hr
        rcases List.mem_append.mp hr with hr | hr
        · exact fr r hr
        · cases List.mem_singleton.mp hr
          exact feH
      · refine row_snoc (H := H3) z3 (fun r hr o z => ?_) ?_
        · rw [upd_ne (nqd r hr), upd_ne (nqe r hr)]
          exact z
        · rw [upd_ne ned, upd_same, hl]
    · rintro ys H3 ⟨qs, rfl, hl, nd, fr, z1, z2, z3⟩
      exact q d qs H3 ⟨hd, fr, nd⟩ (by rw [hl, List.length_map]) ⟨z2, z3⟩ z1
theorem scAllSame : FnScope ["_law_found", "_law_due", "_law_k"] ["_law_found", "_law_due"] (defScope sAllSame) := ⟨rfl, rfl, rfl, by decide +kernel, rfl, by decide +kernel, by decide +kernel⟩
theorem ok_all_same {f fM : Addr} {fd dM : FuncData} (D : IsDef K mg "_law_all_same" sAllSame ["_law_found", "_law_due"] f fd) (T : Txt mg) (DM : IsDef K mg "_law_same" sSame ["_law_found", "_law_due"] fM dM) : FnOk P w K mg base CX0 2 f fd ["_law_found", "_law_due"] spAllSame := by
  have GM : FnOk P w K mg base CX0 1 fM dM ["_law_found", "_law_due"] spSame := ok_same DM T
  refine D.F.ok scAllSame (fun vs H Q E h => ?_) (fun cdv A outer s H vs Q E hr h => ?_)
  · obtain ⟨a, b, rs, ts, X, Y, rfl, _⟩ := h
    rfl
  · obtain ⟨a, b, rs, ts, X, Y, rfl, ta, tb, ly, l1, q⟩ := h
    refine ⟨_, pss_cons (ps_if (pw_or (pt_not (pt_val (pe_callB (call_isinst (T := "list")) (by rfl) T.isi bt_isinstance (pa_cons (pv 0) (pa_cons (pe_ty (by rfl) T.list bt_list) pa_nil)))))
        (pw_or1 (pt_cmpR op_ne (pe_callB call_len_seq (by rfl) T.len bt_len (pa_cons (pv 0) pa_nil)) (pe_callB call_len_seq (by rfl) T.len bt_len (pa_cons (pv 1) pa_nil)) (nomark _)))).pt (pss_one (ps_ret pe_bl)) pss_nil)
      (pss_cons (ps_for PassesOwn.never rfl (pi_range1 (by rfl) T.range (pa_cons (pe_callB call_len_seq (by rfl) T.len bt_len (pa_cons (pv 1) pa_nil)) pa_nil)) (pg_name (i := 2) scAllSame.nd rfl (Or.inl rfl))
        (pss_one (ps_if (pt_not (pt_val (pe_call GM hr (by rfl) DM.m DM.F.kp DM.b .nil pass0 (pa_cons (pe_ix ix_list (pv 0) (pv 2) (fun _ _ => rfl)) (pa_cons (pe_ix ix_list (pv 1) (pv 2) (fun _ _ => rfl)) pa_nil))))) (pss_one (ps_ret pe_bl)) pss_nil)))
      (pss_one (ps_ret pe_bl))), ?_⟩
    have la : (rs.map V.ref).length = rs.length := List.length_map _
    have lb : (ts.map V.ref).length = ts.length := List.length_map _
    refine ⟨_, rfl, _, _, true, rfl, .lst ta.head, rfl, _, rfl, iteF ?_⟩
    refine ⟨_, rfl, a, _, rfl, .inl (sq_of ta.head), _, rfl, b, _, rfl, .inl (sq_of tb.head), rfl, _, rfl, ?_⟩
    by_cases hl : rs.length = ts.length
    · refine iteNS (by rw [la, lb, hl]) ?_
      refine ⟨_, rfl, b, _, rfl, .inl (sq_of tb.head), _, rfl, by omega, by rw [lb]; omega, ?_⟩
      refine for_range (fun i σ H' => ∃ o, σ = [some (.ref a), some (.ref b), o] ∧ H' = H ∧ ∀ j, j < i → X j = Y j) ⟨none, rfl, rfl, fun j hj => absurd hj (Nat.not_lt_zero _)⟩ ?_ ?_
      · rintro i σ H' hi ⟨o, rfl, rfl, hs⟩
        have hi' : i < ts.length := by rw [lb] at hi; simpa using hi
        have ex : rs[i]? = some rs[i] := List.getElem?_eq_getElem (by omega)
        have ey : ts[i]? = some ts[i] := List.getElem?_eq_getElem hi'
        refine ⟨_, rfl, _, rfl, a, _, _, _, rfl, rfl, sq_of ta.head, ix_refs (Int.zero_add _) ex, _, rfl, _, rfl, b, _, _, _, rfl, rfl, sq_of tb.head, ix_refs (Int.zero_add _) ey, ?_⟩
        refine ⟨_, _, X i, Y i, rfl, ta.row i _ ex, tb.row i _ ey, ly i, fun r hr => ⟨_, rfl, ?_⟩⟩
        cases r with
        | true =>
          refine iteF ⟨_, rfl, rfl, fun j hj => ?_⟩
          by_cases e : j = i
          · subst e
            exact hr.mp rfl
          · exact hs j (by omega)
        | false =>
          refine iteT (q false ⟨fun z => (by cases z), fun z => ?_⟩)
          exact absurd (hr.mpr (z.2 i hi')) (by decide)
      · rintro σ H' ⟨o, rfl, rfl, hs⟩
        refine q true ⟨fun _ => ⟨hl, fun p hp => hs p (by rw [lb]; simpa using hp)⟩, fun _ => rfl⟩
    · refine iteN (fun z => hl ?_) ?_
      · have z' := V.int.inj z
        rw [la, lb] at z'
        omega
      · exact q false ⟨fun z => (by cases z), fun z => absurd z.1 hl⟩
theorem scRoom : FnScope ["_law_script", "_law_most", "_law_bound"] ["_law_script", "_law_most", "_law_bound"] (defScope sRoom) := ⟨rfl, rfl, rfl, by decide +kernel, rfl, by decide +kernel, by decide +kernel⟩
theorem ok_room {f : Addr} {fd : FuncData} (D : IsDef K mg "_law_room" sRoom ["_law_script", "_law_most", "_law_bound"] f fd) (T : Txt mg) : FnOk P w K mg base CX0 1 f fd ["_law_script", "_law_most", "_law_bound"] (spRoom K) := by
  refine D.F.ok scRoom (fun vs H Q E h => ?_) (fun cdv A outer s H vs Q E hr h => ?_)
  · obtain ⟨a, ns, m, b, rfl, _⟩ := h
    rfl
  · obtain ⟨a, ns, m, b, rfl, hS, l1, q⟩ := h
    refine ⟨_, pss_cons (ps_if (pt_cmpR op_gt (pe_callB call_len_seq (by rfl) T.len bt_len (pa_cons (pv 0) pa_nil)) pe_int (nomark _)) (pss_one (ps_ret (pv 2))) pss_nil) (pss_one (ps_ret (pv 1))), ?_⟩
    refine ⟨_, rfl, a, _, rfl, .inl hS, _, _, rfl, rfl, _, rfl, ite2 (fun h => ?_) (fun h => ⟨_, rfl, q⟩)⟩
    have h' := of_decide_eq_true h
    rw [List.length_map] at h'
    omega
end
end K08
end
section
namespace K08
open PySem L2 CM LB
abbrev sSo : Stmt := top 38
section
variable {P : Program} {w : World} {K : PySem.W.Frag} {mg : Str → Option Value} {base : Heap}
abbrev NS : List Str := ["_law_found", "_law_due", "_law_todo", "_law_one", "_law_other", "_law_k"]
theorem scSo : FnScope NS ["_law_found", "_law_due"] (defScope sSo) := ⟨rfl, rfl, rfl, by decide +kernel, rfl, by decide +kernel, by decide +kernel⟩
abbrev soIs (H : Hp) (u0 v0 : V) (d : Addr) (m : Nat) (σ : St) (H' : Hp) : Prop :=
  ∃ (o3 o4 o5 : Option V) (ws : List Addr) (ms : List Nd), σ = [some u0, some v0, some (.ref d), o3, o4, o5] ∧ Same H H' ∧ H' d = some (.lst (ws.map V.ref)) ∧ TodoAt H H' ws ms ∧ sizes ms = m ∧ m ≤ 1000000
theorem ok_so {f : Addr} {fd : FuncData} (D : IsDef K mg "_law_so" sSo ["_law_found", "_law_due"] f fd) (T : Txt mg) : FnOk P w K mg base CX0 1 f fd ["_law_found", "_law_due"] spSo := by
  refine D.F.ok scSo (fun vs H Q E h => ?_) (fun cdv A outer s H vs Q E hr h => ?_)
  · obtain ⟨u, v, n, rfl, _⟩ := h
    rfl
  · obtain ⟨u0, v0, n0, rfl, hu0, hv0, ln0, q⟩ := h
    have hu := hu_of hr
    have hu1 := Nat.lt_of_succ_lt hu
    refine ⟨_, pss_cons (ps_set (i := 2) scSo.nd rfl (Or.inl rfl) (pe_lst (pa_cons (pe_tup (pa_cons (pv 0) (pa_cons (pv 1) pa_nil))) pa_nil)))
      (pss_cons (ps_while PassesOwn.never (pt_cmpR (op_neL hu1) (pv 2) (pe_lst pa_nil) (nomark _))
        (pss_cons (ps_asg (pe_bm0 PySem.F.plainAttrs_list PySem.F.slot_list_pop PySem.F.type_list_pop mt_pop (pv 2)) (pg_tup rfl (pgs_cons (pg_name (i := 3) scSo.nd rfl (Or.inl rfl)) (pgs_cons (pg_name (i := 4) scSo.nd rfl (Or.inl rfl)) pgs_nil))))
        (pss_one (ps_if (pt_val (pe_callB (call_isinstT (ns := ["list", "tuple"])) (by rfl) T.isi bt_isinstance (pa_cons (pv 4) (pa_cons (pe_tup (pa_cons (pe_ty (by rfl) T.list bt_list) (pa_cons (pe_ty (by rfl) T.tuple bt_tuple) pa_nil))) pa_nil))))
          (pss_cons (ps_if (pt_cmpR op_ne (pe_callB (call_isinst (T := "list")) (by rfl) T.isi bt_isinstance (pa_cons (pv 3) (pa_cons (pe_ty (by rfl) T.list bt_list) pa_nil))) (pe_callB (call_isinst (T := "list")) (by rfl) T.isi bt_isinstance (pa_cons (pv 4) (pa_cons (pe_ty (by rfl) T.list bt_list) pa_nil))) (nomark _)) (pss_one (ps_ret pe_bl)) pss_nil)
          (pss_cons (ps_if (pt_cmpR op_ne (pe_callB (call_isinst (T := "tuple")) (by rfl) T.isi bt_isinstance (pa_cons (pv 3) (pa_cons (pe_ty (by rfl) T.tuple bt_tuple) pa_nil))) (pe_callB (call_isinst (T := "tuple")) (by rfl) T.isi bt_isinstance (pa_cons (pv 4) (pa_cons (pe_ty (by rfl) T.tuple bt_tuple) pa_nil))) (nomark _)) (pss_one (ps_ret pe_bl)) pss_nil)
          (pss_cons (ps_if (pt_cmpR op_ne (pe_callB call_len_seq (by rfl) T.len bt_len (pa_cons (pv 3) pa_nil)) (pe_callB call_len_seq (by rfl) T.len bt_len (pa_cons (pv 4) pa_nil)) (nomark _)) (pss_one (ps_ret pe_bl)) pss_nil)
          (pss_one (ps_for PassesOwn.never rfl (pi_range1 (by rfl) T.range (pa_cons (pe_callB call_len_seq (by rfl) T.len bt_len (pa_cons (pv 4) pa_nil)) pa_nil)) (pg_name (i := 5) scSo.nd rfl (Or.inl rfl))
            (pss_one (ps_expr (pe_bm PySem.F.plainAttrs_list PySem.F.slot_list_append PySem.F.type_list_append mt_append (pv 2) (pa_cons (pe_tup (pa_cons (pe_ix ix_seq (pv 3) (pv 5) (fun _ _ => rfl)) (pa_cons (pe_ix ix_seq (pv 4) (pv 5) (fun _ _ => rfl)) pa_nil))) pa_nil)))))))))
          (pss_one (ps_if (pt_val (pe_callB (call_isinst (T := "str")) (by rfl) T.isi bt_isinstance (pa_cons (pv 4) (pa_cons (pe_ty (by rfl) T.str bt_str) pa_nil))))
            (pss_one (ps_if (pw_or (pt_not (pt_val (pe_callB (call_isinst (T := "str")) (by rfl) T.isi bt_isinstance (pa_cons (pv 3) (pa_cons (pe_ty (by rfl) T.str bt_str) pa_nil))))) (pw_or1 (pt_cmpR op_ne (pv 3) (pv 4) (nomark _)))).pt (pss_one (ps_ret pe_bl)) pss_nil))
            (pss_one (ps_if (pt_val (pe_callB (call_isinst (T := "bool")) (by rfl) T.isi bt_isinstance (pa_cons (pv 4) (pa_cons (pe_ty (by rfl) T.bool bt_bool) pa_nil)))) (pss_one ps_never)
              (pss_one (ps_if (pt_cmpR op_isN (pv 4) pe_non (nomark _)) (pss_one ps_never)
                (pss_one (ps_if (pw_or (pt_not (pt_val (pe_callB (call_isinst (T := "int")) (by rfl) T.isi bt_isinstance (pa_cons (pv 3) (pa_cons (pe_ty (by rfl) T.int bt_int) pa_nil))))) (pw_or (pt_val (pe_callB (call_isinst (T := "bool")) (by rfl) T.isi bt_isinstance (pa_cons (pv 3) (pa_cons (pe_ty (by rfl) T.bool bt_bool) pa_nil)))) (pw_or1 (pt_cmpR op_ne (pv 3) (pv 4) (nomark _))))).pt (pss_one (ps_ret pe_bl)) pss_nil))))))))))))
      (pss_one (ps_ret pe_bl))), ?_⟩
    have hsl : sizeLine = 16777216 := sizeLine_eq
    refine ⟨_, rfl, _, rfl, by rw [hsl]; show 2 ≤ 16777216; decide, fun w0 fw0 => ⟨by rw [hsl]; show 1 ≤ 16777216; decide, fun d fd => ?_⟩⟩
    have s0 : Same H (upd H w0 (.tup [u0, v0])) := same_upd fw0
    have fd' : H d = none := s0.free fd
    have nwd : w0 ≠ d := ne_of_none upd_same fd
    refine ⟨fun m σ H' => soIs H u0 v0 d m σ H', ⟨n0.size, none, none, none, [w0], [n0], rfl, same_put s0 fd', upd_same, ⟨rfl, fun k w m e1 e2 => ?_⟩, by simp [sizes], ln0⟩, ?_⟩
    · cases k with
      | zero =>
        cases e1
        cases e2
        exact ⟨u0, v0, by rw [upd_ne nwd]; exact upd_same, hu0, hv0⟩
      | succ k => simp at e1
    rintro m σ H' ⟨o3, o4, o5, ws, ms, rfl, y1, y2, y3, y4, y5⟩
    refine ⟨_, rfl, Nat.zero_le _, fun p fp => ?_⟩
    have w1 : Same H' (upd H' p (.lst [])) := same_upd fp
    refine ⟨d, p, _, _, rfl, rfl, sq_of (w1 _ _ y2), sq_of upd_same, fun z => ?_, _, rfl, ?_⟩
    · have e : ws = [] := by
        rw [List.length_map] at z
        exact List.length_eq_zero_iff.mp z
      rw [e]
      exact ⟨rfl, rfl⟩
    rw [eqL_nil]
    rcases List.eq_nil_or_concat ws with e | ⟨ws', wl, e⟩
    · subst e
      exact iteF (q _ (y1.trans w1))
    · have em : ∃ ms' ml, ms = ms' ++ [ml] := by
        rcases List.eq_nil_or_concat ms with e2 | ⟨ms', ml, e2⟩
        · have := y3.len
          rw [e, e2] at this
          simp at this
        · exact ⟨ms', ml, by simpa using e2⟩
      obtain ⟨ms', ml, em⟩ := em
      have e' : ws = ws' ++ [wl] := by simpa using e
      subst e'
      subst em
      have ne : (List.map V.ref (ws' ++ [wl])).isEmpty = false := by simp
      rw [ne]
      refine iteT ⟨fun σ' H2 => ∃ m', m' < m ∧ soIs H u0 v0 d m' σ' H2, fun _ _ z => z, ?_⟩
      have lw : ws'.length = ms'.length := by
        have := y3.len
        rw [List.length_append, List.length_append] at this
        simpa using this
      obtain ⟨u, v, hw, hu2, hv2⟩ := y3.at_ ws'.length wl ml (by simp) (by rw [lw]; simp)
      have el : ((ws' ++ [wl]).map V.ref)[((ws' ++ [wl]).map V.ref).length - 1]? = some (V.ref wl) := by
        rw [List.length_map, List.length_append, List.map_append]
        simp
      have dl : ((ws' ++ [wl]).map V.ref).dropLast = ws'.map V.ref := by
        rw [List.map_append]
        simp
      refine ⟨_, rfl, .inl ⟨rfl, _, sq_of (w1 _ _ y2)⟩, d, _, _, rfl, rfl, w1 _ _ y2, el, ?_⟩
      rw [dl]
      have nwl : wl ≠ d := fun z => by rw [z, y2] at hw; cases hw
      have hw3 : upd (upd H' p (.lst [])) d (.lst (ws'.map V.ref)) wl = some (.tup [u, v]) := by rw [upd_ne nwl]; exact w1 _ _ hw
      have z3 : Same H (upd (upd H' p (.lst [])) d (.lst (ws'.map V.ref))) := same_put (y1.trans w1) fd'
      have t3 : TodoAt H (upd (upd H' p (.lst [])) d (.lst (ws'.map V.ref))) ws' ms' := by
        refine ⟨lw, fun k w m' e1 e2 => ?_⟩
        have kl := (List.getElem?_eq_some_iff.mp e1).1
        obtain ⟨u', v', h1, h2, h3⟩ := y3.at_ k w m' (by rw [List.getElem?_append_left kl]; exact e1) (by rw [List.getElem?_append_left (by omega)]; exact e2)
        exact ⟨u', v', by rw [upd_ne (fun z => by rw [z, y2] at h1; cases h1)]; exact w1 _ _ h1, h2, h3⟩
      refine ⟨wl, _, rfl, .inl (.inl hw3), rfl, ?_⟩
      refine ⟨_, _, rfl, _, _, rfl, rfl, ?_⟩
      refine ⟨_, rfl, by rw [hsl]; show 2 ≤ 16777216; decide, fun tp ftp => ?_⟩
      have z4 := same_put (o := .tup [V.ty "list", V.ty "tuple"]) z3 (z3.free ftp)
      have ntd : tp ≠ d := fun z => by rw [z, upd_same] at ftp; cases ftp
      have d4 : upd (upd (upd H' p (.lst [])) d (.lst (ws'.map V.ref))) tp (.tup [V.ty "list", V.ty "tuple"]) d = some (.lst (ws'.map V.ref)) := by rw [upd_ne (Ne.symm ntd)]; exact upd_same
      have t4 : TodoAt H (upd (upd (upd H' p (.lst [])) d (.lst (ws'.map V.ref))) tp (.tup [V.ty "list", V.ty "tuple"])) ws' ms' := t3.tups fun b' xs e => by
        rw [upd_ne (ne_of_none e ftp)]
        exact e
      have tt4 : upd (upd (upd H' p (.lst [])) d (.lst (ws'.map V.ref))) tp (.tup [V.ty "list", V.ty "tuple"]) tp = some (.tup [V.ty "list", V.ty "tuple"]) := upd_same
      generalize upd (upd (upd H' p (.lst [])) d (.lst (ws'.map V.ref))) tp (.tup [V.ty "list", V.ty "tuple"]) = H4 at z4 d4 t4 tt4 ⊢
      clear t3 z3 hw3 y3 w1
      have leaf : ∀ (u v : V), ∃ m', m' < m ∧ soIs H u0 v0 d m' [some u0, some v0, some (.ref d), some u, some v, o5] H4 := fun u v => by
        have := size_pos ml
        rw [sizes_snoc] at y4
        exact ⟨sizes ms', by omega, _, _, _, ws', ms', rfl, z4, d4, t4, rfl, by omega⟩
      have y4' : sizes ms' + ml.size = m := by rw [← sizes_snoc]; exact y4
      rcases kinds ml with hk | hk | hk | hk
      · -- a text
        obtain ⟨y, rfl, rfl⟩ := leaf_s hk hu2
        cases (show v = .str y from hv2)
        refine ⟨_, _, tp, false, rfl, .str y, tt4, rfl, _, rfl, iteF ?_⟩
        refine ⟨_, rfl, _, _, true, rfl, .str y, rfl, _, rfl, iteT ?_⟩
        refine ⟨_, rfl, _, _, true, rfl, .str y, rfl, _, rfl, iteF ?_⟩
        exact ⟨_, rfl, _, rfl, rfl, _, rfl, iteNS rfl (leaf _ _)⟩
      · -- a number
        obtain ⟨k, rfl, rfl⟩ := leaf_i hk hu2
        cases (show v = .int (k : Int) from hv2)
        refine ⟨_, _, tp, false, rfl, .int k, tt4, rfl, _, rfl, iteF ?_⟩
        refine ⟨_, rfl, _, _, false, rfl, .int k, rfl, _, rfl, iteF ?_⟩
        refine ⟨_, rfl, _, _, false, rfl, .int k, rfl, _, rfl, iteF ?_⟩
        refine ⟨_, rfl, rfl, _, rfl, iteF ?_⟩
        refine ⟨_, rfl, _, _, true, rfl, .int k, rfl, _, rfl, iteF ?_⟩
        refine ⟨_, rfl, _, _, false, rfl, .int k, rfl, _, rfl, iteF ?_⟩
        exact ⟨_, rfl, _, rfl, rfl, _, rfl, iteNS rfl (leaf _ _)⟩
      · -- a list
        obtain ⟨a, us, rfl, ha, la, ka⟩ := open_list hk hu2
        obtain ⟨b, vs, rfl, hb, lb, kb⟩ := open_list hk hv2
        have sk := size_kids ml (by omega)
        have kl := sizes_len ml.kids
        refine ⟨_, _, tp, true, rfl, .lst (z4 _ _ hb), tt4, rfl, _, rfl, iteT ?_⟩
        refine ⟨_, rfl, _, _, true, rfl, .lst (z4 _ _ ha), rfl, _, rfl, _, _, true, rfl, .lst (z4 _ _ hb), rfl, rfl, _, rfl, iteNS rfl ?_⟩
        refine ⟨_, rfl, _, _, false, rfl, .lst (z4 _ _ ha), rfl, _, rfl, _, _, false, rfl, .lst (z4 _ _ hb), rfl, rfl, _, rfl, iteNS rfl ?_⟩
        refine ⟨_, rfl, a, _, rfl, .inl (sq_of (z4 _ _ ha)), _, rfl, b, _, rfl, .inl (sq_of (z4 _ _ hb)), rfl, _, rfl, iteNS (by rw [la, lb]) ?_⟩
        refine ⟨_, rfl, b, _, rfl, .inl (sq_of (z4 _ _ hb)), _, rfl, by omega, by omega, ?_⟩
        rw [Int.toNat_natCast]
        refine for_range (fun k σ H' => ∃ (o5 : Option V) (w2 : List Addr), σ = [some u0, some v0, some (.ref d), some (.ref a), some (.ref b), o5] ∧ Same H H' ∧ H' d = some (.lst ((ws' ++ w2).map V.ref)) ∧ w2.length = k ∧ TodoAt H H' (ws' ++ w2) (ms' ++ ml.kids.take k)) ⟨o5, [], rfl, z4, by rw [List.append_nil]; exact d4, rfl, by rw [List.append_nil, List.take_zero, List.append_nil]; exact t4⟩ ?_ ?_
        · rintro k σ H5 hk5 ⟨o5, w2, rfl, x1, x2, x3, x4⟩
          obtain ⟨mk, emk⟩ := at_len (show k < ml.kids.length by omega)
          obtain ⟨uk, euk, iu⟩ := ka k mk emk
          obtain ⟨vk, evk, iv⟩ := kb k mk emk
          have ia : atI us (0 + (k : Int)) = some uk := by rw [Int.zero_add]; exact atI_nat euk
          have ib : atI vs (0 + (k : Int)) = some vk := by rw [Int.zero_add]; exact atI_nat evk
          have wl' := t4.len
          have wl2 := sizes_len ms'
          refine ⟨_, rfl, .inl ⟨rfl, _, sq_of x2⟩, _, rfl, _, rfl, .inl ⟨a, _, _, _, rfl, rfl, sq_of (x1 _ _ ha), ia, _, rfl, _, rfl, .inl ⟨b, _, _, _, rfl, rfl, sq_of (x1 _ _ hb), ib, by rw [hsl]; show 2 ≤ 16777216; decide, fun t ft => ?_⟩⟩⟩
          have ntd : t ≠ d := fun e => by rw [e, x2] at ft; cases ft
          refine ⟨d, _, _, rfl, rfl, by rw [upd_ne (Ne.symm ntd)]; exact x2, by rw [List.length_map, List.length_append]; omega, ?_⟩
          refine ⟨_, w2 ++ [t], rfl, same_put (same_put x1 (x1.free ft)) fd', by rw [upd_same]; simp only [List.map_append, List.append_assoc]; rfl, by rw [List.length_append, x3]; rfl, ?_⟩
          rw [← List.append_assoc, List.take_add_one, emk, ← List.append_assoc]
          refine (x4.tups fun b' xs e => ?_).snoc (m := mk) (u := uk) (v := vk) (by rw [upd_ne ntd]; exact upd_same) iu iv
          rw [upd_ne (fun z => by rw [z, x2] at e; cases e), upd_ne (ne_of_none e ft)]
          exact e
        · rintro σ H5 ⟨o5, w2, rfl, x1, x2, x3, x4⟩
          rw [lb, List.take_length] at x4
          exact ⟨sizes (ms' ++ ml.kids), by rw [sizes_app]; omega, _, _, _, _, _, rfl, x1, x2, x4, rfl, by rw [sizes_app]; omega⟩
      · -- a tuple
        obtain ⟨a, us, rfl, ha, la, ka⟩ := open_tup hk hu2
        obtain ⟨b, vs, rfl, hb, lb, kb⟩ := open_tup hk hv2
        have sk := size_kids ml (by omega)
        have kl := sizes_len ml.kids
        refine ⟨_, _, tp, true, rfl, .tup (z4 _ _ hb), tt4, rfl, _, rfl, iteT ?_⟩
        refine ⟨_, rfl, _, _, false, rfl, .tup (z4 _ _ ha), rfl, _, rfl, _, _, false, rfl, .tup (z4 _ _ hb), rfl, rfl, _, rfl, iteNS rfl ?_⟩
        refine ⟨_, rfl, _, _, true, rfl, .tup (z4 _ _ ha), rfl, _, rfl, _, _, true, rfl, .tup (z4 _ _ hb), rfl, rfl, _, rfl, iteNS rfl ?_⟩
        refine ⟨_, rfl, a, _, rfl, .inr (.inl (.inl (z4 _ _ ha))), _, rfl, b, _, rfl, .inr (.inl (.inl (z4 _ _ hb))), rfl, _, rfl, iteNS (by rw [la, lb]) ?_⟩
        refine ⟨_, rfl, b, _, rfl, .inr (.inl (.inl (z4 _ _ hb))), _, rfl, by omega, by omega, ?_⟩
        rw [Int.toNat_natCast]
        refine for_range (fun k σ H' => ∃ (o5 : Option V) (w2 : List Addr), σ = [some u0, some v0, some (.ref d), some (.ref a), some (.ref b), o5] ∧ Same H H' ∧ H' d = some (.lst ((ws' ++ w2).map V.ref)) ∧ w2.length = k ∧ TodoAt H H' (ws' ++ w2) (ms' ++ ml.kids.take k)) ⟨o5, [], rfl, z4, by rw [List.append_nil]; exact d4, rfl, by rw [List.append_nil, List.take_zero, List.append_nil]; exact t4⟩ ?_ ?_
        · rintro k σ H5 hk5 ⟨o5, w2, rfl, x1, x2, x3, x4⟩
          obtain ⟨mk, emk⟩ := at_len (show k < ml.kids.length by omega)
          obtain ⟨uk, euk, iu⟩ := ka k mk emk
          obtain ⟨vk, evk, iv⟩ := kb k mk emk
          have ia : atI us (0 + (k : Int)) = some uk := by rw [Int.zero_add]; exact atI_nat euk
          have ib : atI vs (0 + (k : Int)) = some vk := by rw [Int.zero_add]; exact atI_nat evk
          have wl' := t4.len
          have wl2 := sizes_len ms'
          refine ⟨_, rfl, .inl ⟨rfl, _, sq_of x2⟩, _, rfl, _, rfl, .inr (.inl ⟨a, _, _, _, rfl, rfl, .inl (.inl (x1 _ _ ha)), ia, _, rfl, _, rfl, .inr (.inl ⟨b, _, _, _, rfl, rfl, .inl (.inl (x1 _ _ hb)), ib, by rw [hsl]; show 2 ≤ 16777216; decide, fun t ft => ?_⟩)⟩)⟩
          have ntd : t ≠ d := fun e => by rw [e, x2] at ft; cases ft
          refine ⟨d, _, _, rfl, rfl, by rw [upd_ne (Ne.symm ntd)]; exact x2, by rw [List.length_map, List.length_append]; omega, ?_⟩
          refine ⟨_, w2 ++ [t], rfl, same_put (same_put x1 (x1.free ft)) fd', by rw [upd_same]; simp only [List.map_append, List.append_assoc]; rfl, by rw [List.length_append, x3]; rfl, ?_⟩
          rw [← List.append_assoc, List.take_add_one, emk, ← List.append_assoc]
          refine (x4.tups fun b' xs e => ?_).snoc (m := mk) (u := uk) (v := vk) (by rw [upd_ne ntd]; exact upd_same) iu iv
          rw [upd_ne (fun z => by rw [z, x2] at e; cases e), upd_ne (ne_of_none e ft)]
          exact e
        · rintro σ H5 ⟨o5, w2, rfl, x1, x2, x3, x4⟩
          rw [lb, List.take_length] at x4
          exact ⟨sizes (ms' ++ ml.kids), by rw [sizes_app]; omega, _, _, _, _, _, rfl, x1, x2, x4, rfl, by rw [sizes_app]; omega⟩
end
end K08
end
section
namespace K08
open PySem L2 CM LB
abbrev sCheck : Stmt := top 6
abbrev sUnion : Stmt := top 13
abbrev sBoth : Stmt := top 14
abbrev sLess : Stmt := top 15
abbrev sApart : Stmt := top 16
abbrev sPairs : Stmt := top 17
section
variable {P : Program} {w : World} {K : PySem.W.Frag} {mg : Str → Option Value} {base : Heap}
theorem rising_turn {xs : List Str} {i : Nat} {x y : Str} (h1 : xs[i]? = some x) (h2 : xs[i + 1]? = some y) (hs : ∀ j, j < i → ∀ x y, xs[j]? = some x → xs[j + 1]? = some y → slt x y) (h : slt x y) : ∀ j, j < i + 1 → ∀ x y, xs[j]? = some x → xs[j + 1]? = some y → slt x y := fun j hj a b e1 e2 => by
  by_cases e : j = i
  · subst e
    rw [h1] at e1
    rw [h2] at e2
    cases e1
    cases e2
    exact h
  · exact hs j (by omega) a b e1 e2
theorem scIsRoll : FnScope ["names", "place"] ["names"] (defScope sIsRoll) := ⟨rfl, rfl, rfl, by decide +kernel, rfl, by decide +kernel, by decide +kernel⟩
theorem ok_is_roll {f : Addr} {fd : FuncData} (D : IsDef K mg "is_roll" sIsRoll ["names"] f fd) (T : Txt mg) : FnOk P w K mg base CX0 1 f fd ["names"] spRising := by
  refine D.F.ok scIsRoll (fun vs H Q E h => ?_) (fun cdv A outer s H vs Q E hr h => ?_)
  · obtain ⟨a, xs, rfl, _⟩ := h
    rfl
  · obtain ⟨a, xs, rfl, ha, hn, q⟩ := h
    refine ⟨_, pss_cons (ps_for PassesOwn.never rfl (pi_range2 (by rfl) T.range (pa_cons pe_int (pa_cons (pe_callB call_len_seq (by rfl) T.len bt_len (pa_cons (pv 0) pa_nil)) pa_nil))) (pg_name (i := 1) scIsRoll.nd rfl (Or.inl rfl))
        (pss_one (ps_if (pt_cmpR op_le_str (pe_ix ix_list (pv 0) (pv 1) (fun _ _ => rfl)) (pe_ix ix_list (pv 0) (pe_op op_sub (pv 1) pe_int) (fun _ _ => rfl)) (nomark _)) (pss_one (ps_ret pe_bl)) pss_nil)))
      (pss_one (ps_ret pe_bl)), ?_⟩
    have la : (xs.map V.str).length = xs.length := List.length_map _
    refine ⟨_, rfl, a, _, rfl, .inl (sq_of ha), 1, _, rfl, ⟨by decide, by decide, by omega, by rw [la]; omega⟩, ?_⟩
    refine for_range (fun i σ H' => ∃ o, σ = [some (.ref a), o] ∧ H' = H ∧ ∀ j, j < i → ∀ x y, xs[j]? = some x → xs[j + 1]? = some y → slt x y) ⟨none, rfl, rfl, fun j hj => absurd hj (Nat.not_lt_zero _)⟩ ?_ ?_
    · rintro i σ H' hi ⟨o, rfl, rfl, hs⟩
      have hi' : i + 1 < xs.length := by rw [la] at hi; omega
      have ex : xs[i]? = some xs[i] := List.getElem?_eq_getElem (by omega)
      have ey : xs[i + 1]? = some xs[i + 1] := List.getElem?_eq_getElem hi'
      refine ⟨_, rfl, _, rfl, a, _, _, _, rfl, rfl, sq_of ha, ix_map (j := i + 1) (by omega) ey, _, rfl, _, rfl, _, _, rfl, rfl, a, _, _, _, rfl, rfl, sq_of ha, ix_map (j := i) (by omega) ex, _, _, rfl, rfl, _, rfl, ?_⟩
      by_cases e : slt xs[i] xs[i + 1]
      · refine iteNS e ?_
        exact ⟨_, rfl, rfl, rising_turn ex ey hs e⟩
      · refine iteN e ?_
        exact q false ⟨fun z => (by cases z), fun z => absurd (z i _ _ ex ey) e⟩
    · rintro σ H' ⟨o, rfl, rfl, hs⟩
      refine q true ⟨fun _ j x y e1 e2 => hs j ?_ x y e1 e2, fun _ => rfl⟩
      have := (List.getElem?_eq_some_iff.mp e2).1
      rw [la]
      omega
def spCheck : Sp := fun vs H Q _ => ∃ (a : Addr) (rs : List Addr) (X : Nat → List Str), vs = [.ref a] ∧ Tab H a rs (fun p => (X p).map V.str) ∧ (∀ p, p < rs.length → (X p).length ≤ 100000 ∧ Rising (X p)) ∧ Q .non H
theorem scCheck : FnScope ["rolls", "names"] ["rolls"] (defScope sCheck) := ⟨rfl, rfl, rfl, by decide +kernel, rfl, by decide +kernel, by decide +kernel⟩
theorem ok_check {f fI : Addr} {fd dI : FuncData} (D : IsDef K mg "check_rolls" sCheck ["rolls"] f fd) (T : Txt mg) (DI : IsDef K mg "is_roll" sIsRoll ["names"] fI dI) : FnOk P w K mg base CX0 2 f fd ["rolls"] spCheck := by
  have GI : FnOk P w K mg base CX0 1 fI dI ["names"] spRising := ok_is_roll DI T
  refine D.F.ok scCheck (fun vs H Q E h => ?_) (fun cdv A outer s H vs Q E hr h => ?_)
  · obtain ⟨a, rs, X, rfl, _⟩ := h
    rfl
  · obtain ⟨a, rs, X, rfl, ha, hx, q⟩ := h
    refine ⟨_, pss_one (ps_for PassesOwn.never rfl (pi_list (pv 0)) (pg_name (i := 1) scCheck.nd rfl (Or.inl rfl)) (pss_one (ps_if (pt_not (pt_val (pe_call GI hr (by rfl) DI.m DI.F.kp DI.b .nil pass0 (pa_cons (pv 1) pa_nil)))) (pss_one ps_never) pss_nil))), ?_⟩
    refine ⟨_, rfl, a, rfl, ⟨_, sq_of ha.head⟩, for_list (K := K) (a := a) (xs := rs.map V.ref) (fun i σ H' => ∃ o, σ = [some (.ref a), o] ∧ H' = H) ⟨none, rfl, rfl⟩ (fun i σ H' _ ⟨_, _, z⟩ => by rw [z]; exact sq_of ha.head) ?_ ?_⟩
    · rintro i x σ H' hi ⟨o, rfl, rfl⟩
      obtain ⟨r, er, rfl⟩ := refs_at hi
      have il := (List.getElem?_eq_some_iff.mp er).1
      refine ⟨_, rfl, r, X i, rfl, ha.row i r er, (hx i il).1, fun t ht => ⟨_, rfl, ?_⟩⟩
      have et : t = true := ht.mpr (hx i il).2
      subst et
      exact iteF ⟨_, rfl, rfl⟩
    · rintro σ H' ⟨o, rfl, rfl⟩
      exact q
theorem two_tab {H : Hp} {a b d : Addr} {xs ys : List Str} (ha : H a = some (.lst (xs.map V.str))) (hb : H b = some (.lst (ys.map V.str))) (hd : H d = none) :
    Tab (upd H d (.lst [V.ref a, V.ref b])) d [a, b] (fun p => ((if p = 0 then xs else ys).map V.str)) := by
  refine ⟨upd_same, fun p r e => ?_⟩
  cases p with
  | zero =>
    simp at e
    subst e
    rw [upd_ne (ne_of_none ha hd)]
    exact ha
  | succ p =>
    cases p with
    | zero =>
      simp at e
      subst e
      rw [upd_ne (ne_of_none hb hd)]
      exact hb
    | succ p => simp at e
theorem two_ok {xs ys : List Str} {a b : Addr} (rx : Rising xs) (ry : Rising ys) (lx : xs.length ≤ 1000) (ly : ys.length ≤ 1000) : ∀ p, p < [a, b].length → (if p = 0 then xs else ys).length ≤ 100000 ∧ Rising (if p = 0 then xs else ys) := fun p _ => by
  by_cases e : p = 0
  · rw [if_pos e]
    exact ⟨by omega, rx⟩
  · rw [if_neg e]
    exact ⟨by omega, ry⟩
theorem two_few {xs ys zs : List Str} (lx : xs.length ≤ 31) (ly : ys.length ≤ 31) (nd : zs.Nodup) (h : ∀ y ∈ zs, y ∈ xs ∨ y ∈ ys) : zs.length < 64 := by
  have := nodup_len nd (ws := xs ++ ys) fun y hy => List.mem_append.mpr (h y hy)
  rw [List.length_append] at this
  omega
theorem scUnion : FnScope ["one", "other"] ["one", "other"] (defScope sUnion) := ⟨rfl, rfl, rfl, by decide +kernel, rfl, by decide +kernel, by decide +kernel⟩
theorem ok_union {f fC : Addr} {fd dC : FuncData} (D : IsDef K mg "union" sUnion ["one", "other"] f fd) (T : Txt mg) (DC : IsDef K mg "check_rolls" sCheck ["rolls"] fC dC) (GC : FnOk P w K mg base CX0 2 fC dC ["rolls"] spCheck) : FnOk P w K mg base CX0 3 f fd ["one", "other"] (spTwo fun x y => x || y) := by
  refine D.F.ok scUnion (fun vs H Q E h => ?_) (fun cdv A outer s H vs Q E hr h => ?_)
  · obtain ⟨a, b, xs, ys, rfl, _⟩ := h
    rfl
  · obtain ⟨a, b, xs, ys, rfl, ha, hb, rx, ry, lx, ly, q⟩ := h
    refine ⟨_, pss_cons (ps_expr (pe_call GC hr (by rfl) DC.m DC.F.kp DC.b .nil pass0 (pa_cons (pe_lst (pa_cons (pv 0) (pa_cons (pv 1) pa_nil))) pa_nil)))
      (pss_one (ps_ret (pe_callB (call_sortedSet rfl) (by rfl) T.sorted bt_sorted (pa_cons (pe_op op_orS (pe_callTy (call_setS rfl) (by rfl) T.set bt_set (pa_cons (pv 0) pa_nil)) (pe_callTy (call_setS rfl) (by rfl) T.set bt_set (pa_cons (pv 1) pa_nil))) pa_nil)))), ?_⟩
    refine ⟨_, rfl, _, rfl, by rw [sizeLine_eq]; show 2 ≤ 16777216; decide, fun d hd => ⟨d, [a, b], _, rfl, two_tab ha hb hd, two_ok rx ry (by omega) (by omega), ?_⟩⟩
    have s0 : Same H (upd H d (.lst [V.ref a, V.ref b])) := same_upd hd
    refine ⟨_, rfl, a, xs, rfl, sq_of (s0 _ _ ha), by show _ < 4096; omega, fun ks l1 n1 m1 z1 f1 => ?_⟩
    have s1 := same_put (o := .ext (setφ P w l1 ks)) s0 (s0.free f1)
    refine ⟨_, rfl, b, ys, rfl, sq_of (s1 _ _ hb), by show _ < 4096; omega, fun ls l2 n2 m2 z2 f2 => ?_⟩
    have s2 := same_put (o := .ext (setφ P w l2 ls)) s1 (s1.free f2)
    have n12 : l1 ≠ l2 := ne_of_none upd_same f2
    refine ⟨l1, l2, ks, ls, rfl, rfl, n12, by rw [upd_ne n12]; exact upd_same, upd_same, by omega, fun zs l3 n3 m3 f3 => ?_⟩
    have s3 := same_put (o := .ext (setφ P w l3 zs)) s2 (s2.free f3)
    have few : zs.length < 64 := two_few lx ly n3 fun y hy => by
      have h := (m3 y).mp hy
      dsimp only at h
      rw [m1, m2] at h
      by_cases c1 : y ∈ xs
      · exact .inl c1
      · exact .inr (by simpa [c1] using h)
    refine ⟨l3, zs, rfl, upd_same, few, fun ws l4 hp hs f4 => ?_⟩
    refine q l4 ws _ (rising_of_sorted hs (hp.nodup_iff.mpr n3)) (fun y => ?_) (s3.free f4) upd_same (same_put s3 (s3.free f4))
    rw [hp.mem_iff, m3]
    dsimp only
    rw [m1, m2]
    by_cases c1 : y ∈ xs <;> by_cases c2 : y ∈ ys <;> simp [c1, c2]
theorem scBoth : FnScope ["one", "other"] ["one", "other"] (defScope sBoth) := ⟨rfl, rfl, rfl, by decide +kernel, rfl, by decide +kernel, by decide +kernel⟩
theorem ok_both {f fC : Addr} {fd dC : FuncData} (D : IsDef K mg "both" sBoth ["one", "other"] f fd) (T : Txt mg) (DC : IsDef K mg "check_rolls" sCheck ["rolls"] fC dC) (GC : FnOk P w K mg base CX0 2 fC dC ["rolls"] spCheck) : FnOk P w K mg base CX0 3 f fd ["one", "other"] (spTwo fun x y => x && y) := by
  refine D.F.ok scBoth (fun vs H Q E h => ?_) (fun cdv A outer s H vs Q E hr h => ?_)
  · obtain ⟨a, b, xs, ys, rfl, _⟩ := h
    rfl
  · obtain ⟨a, b, xs, ys, rfl, ha, hb, rx, ry, lx, ly, q⟩ := h
    refine ⟨_, pss_cons (ps_expr (pe_call GC hr (by rfl) DC.m DC.F.kp DC.b .nil pass0 (pa_cons (pe_lst (pa_cons (pv 0) (pa_cons (pv 1) pa_nil))) pa_nil)))
      (pss_one (ps_ret (pe_callB (call_sortedSet rfl) (by rfl) T.sorted bt_sorted (pa_cons (pe_op op_andS (pe_callTy (call_setS rfl) (by rfl) T.set bt_set (pa_cons (pv 0) pa_nil)) (pe_callTy (call_setS rfl) (by rfl) T.set bt_set (pa_cons (pv 1) pa_nil))) pa_nil)))), ?_⟩
    refine ⟨_, rfl, _, rfl, by rw [sizeLine_eq]; show 2 ≤ 16777216; decide, fun d hd => ⟨d, [a, b], _, rfl, two_tab ha hb hd, two_ok rx ry (by omega) (by omega), ?_⟩⟩
    have s0 : Same H (upd H d (.lst [V.ref a, V.ref b])) := same_upd hd
    refine ⟨_, rfl, a, xs, rfl, sq_of (s0 _ _ ha), by show _ < 4096; omega, fun ks l1 n1 m1 z1 f1 => ?_⟩
    have s1 := same_put (o := .ext (setφ P w l1 ks)) s0 (s0.free f1)
    refine ⟨_, rfl, b, ys, rfl, sq_of (s1 _ _ hb), by show _ < 4096; omega, fun ls l2 n2 m2 z2 f2 => ?_⟩
    have s2 := same_put (o := .ext (setφ P w l2 ls)) s1 (s1.free f2)
    have n12 : l1 ≠ l2 := ne_of_none upd_same f2
    refine ⟨l1, l2, ks, ls, rfl, rfl, n12, by rw [upd_ne n12]; exact upd_same, upd_same, by omega, fun zs l3 n3 m3 f3 => ?_⟩
    have s3 := same_put (o := .ext (setφ P w l3 zs)) s2 (s2.free f3)
    have few : zs.length < 64 := two_few lx ly n3 fun y hy => by
      have h := (m3 y).mp hy
      dsimp only at h
      rw [m1, m2] at h
      by_cases c1 : y ∈ xs
      · exact .inl c1
      · exact .inr (by simpa [c1] using h)
    refine ⟨l3, zs, rfl, upd_same, few, fun ws l4 hp hs f4 => ?_⟩
    refine q l4 ws _ (rising_of_sorted hs (hp.nodup_iff.mpr n3)) (fun y => ?_) (s3.free f4) upd_same (same_put s3 (s3.free f4))
    rw [hp.mem_iff, m3]
    dsimp only
    rw [m1, m2]
    by_cases c1 : y ∈ xs <;> by_cases c2 : y ∈ ys <;> simp [c1, c2]
theorem scLess : FnScope ["one", "other"] ["one", "other"] (defScope sLess) := ⟨rfl, rfl, rfl, by decide +kernel, rfl, by decide +kernel, by decide +kernel⟩
theorem ok_less {f fC : Addr} {fd dC : FuncData} (D : IsDef K mg "less" sLess ["one", "other"] f fd) (T : Txt mg) (DC : IsDef K mg "check_rolls" sCheck ["rolls"] fC dC) (GC : FnOk P w K mg base CX0 2 fC dC ["rolls"] spCheck) : FnOk P w K mg base CX0 3 f fd ["one", "other"] (spTwo fun x y => x && !y) := by
  refine D.F.ok scLess (fun vs H Q E h => ?_) (fun cdv A outer s H vs Q E hr h => ?_)
  · obtain ⟨a, b, xs, ys, rfl, _⟩ := h
    rfl
  · obtain ⟨a, b, xs, ys, rfl, ha, hb, rx, ry, lx, ly, q⟩ := h
    refine ⟨_, pss_cons (ps_expr (pe_call GC hr (by rfl) DC.m DC.F.kp DC.b .nil pass0 (pa_cons (pe_lst (pa_cons (pv 0) (pa_cons (pv 1) pa_nil))) pa_nil)))
      (pss_one (ps_ret (pe_callB (call_sortedSet rfl) (by rfl) T.sorted bt_sorted (pa_cons (pe_op op_subS (pe_callTy (call_setS rfl) (by rfl) T.set bt_set (pa_cons (pv 0) pa_nil)) (pe_callTy (call_setS rfl) (by rfl) T.set bt_set (pa_cons (pv 1) pa_nil))) pa_nil)))), ?_⟩
    refine ⟨_, rfl, _, rfl, by rw [sizeLine_eq]; show 2 ≤ 16777216; decide, fun d hd => ⟨d, [a, b], _, rfl, two_tab ha hb hd, two_ok rx ry (by omega) (by omega), ?_⟩⟩
    have s0 : Same H (upd H d (.lst [V.ref a, V.ref b])) := same_upd hd
    refine ⟨_, rfl, a, xs, rfl, sq_of (s0 _ _ ha), by show _ < 4096; omega, fun ks l1 n1 m1 z1 f1 => ?_⟩
    have s1 := same_put (o := .ext (setφ P w l1 ks)) s0 (s0.free f1)
    refine ⟨_, rfl, b, ys, rfl, sq_of (s1 _ _ hb), by show _ < 4096; omega, fun ls l2 n2 m2 z2 f2 => ?_⟩
    have s2 := same_put (o := .ext (setφ P w l2 ls)) s1 (s1.free f2)
    have n12 : l1 ≠ l2 := ne_of_none upd_same f2
    refine ⟨l1, l2, ks, ls, rfl, rfl, n12, by rw [upd_ne n12]; exact upd_same, upd_same, by omega, fun zs l3 n3 m3 f3 => ?_⟩
    have s3 := same_put (o := .ext (setφ P w l3 zs)) s2 (s2.free f3)
    have few : zs.length < 64 := two_few lx ly n3 fun y hy => by
      have h := (m3 y).mp hy
      dsimp only at h
      rw [m1, m2] at h
      by_cases c1 : y ∈ xs
      · exact .inl c1
      · exact .inr (by simpa [c1] using h)
    refine ⟨l3, zs, rfl, upd_same, few, fun ws l4 hp hs f4 => ?_⟩
    refine q l4 ws _ (rising_of_sorted hs (hp.nodup_iff.mpr n3)) (fun y => ?_) (s3.free f4) upd_same (same_put s3 (s3.free f4))
    rw [hp.mem_iff, m3]
    dsimp only
    rw [m1, m2]
    by_cases c1 : y ∈ xs <;> by_cases c2 : y ∈ ys <;> simp [c1, c2]
theorem scApart : FnScope ["one", "other"] ["one", "other"] (defScope sApart) := ⟨rfl, rfl, rfl, by decide +kernel, rfl, by decide +kernel, by decide +kernel⟩
theorem ok_apart {f fC : Addr} {fd dC : FuncData} (D : IsDef K mg "apart" sApart ["one", "other"] f fd) (T : Txt mg) (DC : IsDef K mg "check_rolls" sCheck ["rolls"] fC dC) (GC : FnOk P w K mg base CX0 2 fC dC ["rolls"] spCheck) : FnOk P w K mg base CX0 3 f fd ["one", "other"] (spTwo fun x y => x != y) := by
  refine D.F.ok scApart (fun vs H Q E h => ?_) (fun cdv A outer s H vs Q E hr h => ?_)
  · obtain ⟨a, b, xs, ys, rfl, _⟩ := h
    rfl
  · obtain ⟨a, b, xs, ys, rfl, ha, hb, rx, ry, lx, ly, q⟩ := h
    refine ⟨_, pss_cons (ps_expr (pe_call GC hr (by rfl) DC.m DC.F.kp DC.b .nil pass0 (pa_cons (pe_lst (pa_cons (pv 0) (pa_cons (pv 1) pa_nil))) pa_nil)))
      (pss_one (ps_ret (pe_callB (call_sortedSet rfl) (by rfl) T.sorted bt_sorted (pa_cons (pe_op op_xorS (pe_callTy (call_setS rfl) (by rfl) T.set bt_set (pa_cons (pv 0) pa_nil)) (pe_callTy (call_setS rfl) (by rfl) T.set bt_set (pa_cons (pv 1) pa_nil))) pa_nil)))), ?_⟩
    refine ⟨_, rfl, _, rfl, by rw [sizeLine_eq]; show 2 ≤ 16777216; decide, fun d hd => ⟨d, [a, b], _, rfl, two_tab ha hb hd, two_ok rx ry (by omega) (by omega), ?_⟩⟩
    have s0 : Same H (upd H d (.lst [V.ref a, V.ref b])) := same_upd hd
    refine ⟨_, rfl, a, xs, rfl, sq_of (s0 _ _ ha), by show _ < 4096; omega, fun ks l1 n1 m1 z1 f1 => ?_⟩
    have s1 := same_put (o := .ext (setφ P w l1 ks)) s0 (s0.free f1)
    refine ⟨_, rfl, b, ys, rfl, sq_of (s1 _ _ hb), by show _ < 4096; omega, fun ls l2 n2 m2 z2 f2 => ?_⟩
    have s2 := same_put (o := .ext (setφ P w l2 ls)) s1 (s1.free f2)
    have n12 : l1 ≠ l2 := ne_of_none upd_same f2
    refine ⟨l1, l2, ks, ls, rfl, rfl, n12, by rw [upd_ne n12]; exact upd_same, upd_same, by omega, fun zs l3 n3 m3 f3 => ?_⟩
    have s3 := same_put (o := .ext (setφ P w l3 zs)) s2 (s2.free f3)
    have few : zs.length < 64 := two_few lx ly n3 fun y hy => by
      have h := (m3 y).mp hy
      dsimp only at h
      rw [m1, m2] at h
      by_cases c1 : y ∈ xs
      · exact .inl c1
      · exact .inr (by simpa [c1] using h)
    refine ⟨l3, zs, rfl, upd_same, few, fun ws l4 hp hs f4 => ?_⟩
    refine q l4 ws _ (rising_of_sorted hs (hp.nodup_iff.mpr n3)) (fun y => ?_) (s3.free f4) upd_same (same_put s3 (s3.free f4))
    rw [hp.mem_iff, m3]
    dsimp only
    rw [m1, m2]
    by_cases c1 : y ∈ xs <;> by_cases c2 : y ∈ ys <;> simp [c1, c2]
theorem scPairs : FnScope ["one", "other", "told", "first", "second"] ["one", "other"] (defScope sPairs) := ⟨rfl, rfl, rfl, by decide +kernel, rfl, by decide +kernel, by decide +kernel⟩
theorem pairs_snoc {H : Hp} {ts : List Addr} {PP : List (Str × Str)} {t d : Addr} {p : Str × Str} {zs : List V} (h : PairsAt H ts PP) (ft : H t = none) (nt : t ≠ d) (hd : ∃ xs, H d = some (.lst xs)) : PairsAt (upd (upd H t (.tup [V.str p.1, V.str p.2])) d (.lst zs)) (ts ++ [t]) (PP ++ [p]) := by
  refine ⟨by rw [List.length_append, List.length_append, h.len]; rfl, fun i t' p' e1 e2 => ?_⟩
  obtain ⟨xs, hd⟩ := hd
  by_cases hi : i < ts.length
  · rw [List.getElem?_append_left hi] at e1
    rw [List.getElem?_append_left (by rw [← h.len]; exact hi)] at e2
    have q := h.at_ i t' p' e1 e2
    rw [upd_ne (ne_of q hd (by intro z; cases z)), upd_ne (ne_of_none q ft)]
    exact q
  · rw [List.getElem?_append_right (by omega)] at e1
    rw [List.getElem?_append_right (by rw [← h.len]; omega), ← h.len] at e2
    have z : i - ts.length = 0 := by
      have := (List.getElem?_eq_some_iff.mp e1).1
      simp at this
      omega
    rw [z] at e1 e2
    cases e1
    cases e2
    rw [upd_ne nt, upd_same]
theorem ok_pairs {f fR : Addr} {fd dR : FuncData} (D : IsDef K mg "pairs" sPairs ["one", "other"] f fd) (T : Txt mg) (DR : IsDef K mg "check_rolls" sCheck ["rolls"] fR dR) (GR : FnOk P w K mg base CX0 2 fR dR ["rolls"] spCheck) : FnOk P w K mg base CX0 3 f fd ["one", "other"] spPairs := by
  refine D.F.ok scPairs (fun vs H Q E h => ?_) (fun cdv A outer s H vs Q E hr h => ?_)
  · obtain ⟨a, b, xs, ys, rfl, _⟩ := h
    rfl
  · obtain ⟨a, b, xs, ys, rfl, ha, hb, rx, ry, lx, ly, q⟩ := h
    refine ⟨_, pss_cons (ps_expr (pe_call GR hr (by rfl) DR.m DR.F.kp DR.b .nil pass0 (pa_cons (pe_lst (pa_cons (pv 0) (pa_cons (pv 1) pa_nil))) pa_nil)))
      (pss_cons (ps_set (i := 2) scPairs.nd rfl (Or.inl rfl) (pe_lst pa_nil))
      (pss_cons (ps_for PassesOwn.never rfl (pi_list (pv 0)) (pg_name (i := 3) scPairs.nd rfl (Or.inl rfl)) (pss_one (ps_for PassesOwn.never rfl (pi_list (pv 1)) (pg_name (i := 4) scPairs.nd rfl (Or.inl rfl))
        (pss_one (ps_expr (pe_bm PySem.F.plainAttrs_list PySem.F.slot_list_append PySem.F.type_list_append mt_append (pv 2) (pa_cons (pe_tup (pa_cons (pv 3) (pa_cons (pv 4) pa_nil))) pa_nil)))))))
      (pss_one (ps_ret (pv 2))))), ?_⟩
    have hsl : sizeLine = 16777216 := sizeLine_eq
    refine ⟨_, rfl, _, rfl, by rw [hsl]; show 2 ≤ 16777216; decide, fun c hc => ⟨c, [a, b], _, rfl, two_tab ha hb hc, two_ok rx ry (by omega) (by omega), Nat.zero_le _, fun d hd' => ?_⟩⟩
    have sc : Same H (upd H c (.lst [V.ref a, V.ref b])) := same_upd hc
    have hd : H d = none := sc.free hd'
    have s0 : Same H (upd (upd H c (.lst [V.ref a, V.ref b])) d (.lst [])) := same_put sc hd
    have nda : a ≠ d := ne_of_none ha hd
    have ndb : b ≠ d := ne_of_none hb hd
    refine ⟨_, rfl, a, rfl, ⟨_, sq_of (s0 _ _ ha)⟩, for_list (K := K) (a := a) (xs := xs.map V.str)
      (fun i σ H' => ∃ (o3 o4 : Option V) (ts : List Addr), σ = [some (.ref a), some (.ref b), some (.ref d), o3, o4] ∧ Same H H' ∧ H' d = some (.lst (ts.map V.ref)) ∧ PairsAt H' ts (prod (xs.take i) ys))
      ⟨none, none, [], rfl, s0, upd_same, ⟨by simp [prod], fun i t p e => by simp at e⟩⟩ (fun i σ H' _ ⟨_, _, _, _, z, _⟩ => sq_of (z _ _ ha)) ?_ ?_⟩
    · rintro i x σ H' hi ⟨o3, o4, ts, rfl, z1, z2, z3⟩
      obtain ⟨y, ey, rfl⟩ : ∃ y, xs[i]? = some y ∧ x = V.str y := by
        rw [List.getElem?_map] at hi
        cases e : xs[i]? with
        | none => rw [e] at hi; cases hi
        | some y => rw [e] at hi; exact ⟨y, rfl, (Option.some.inj hi).symm⟩
      have il := (List.getElem?_eq_some_iff.mp ey).1
      have et : prod (xs.take (i + 1)) ys = prod (xs.take i) ys ++ ys.map (fun z => (y, z)) := by
        rw [List.take_add_one, ey]
        unfold prod
        rw [List.flatMap_append]
        simp
      refine ⟨_, rfl, b, rfl, ⟨_, sq_of (z1 _ _ hb)⟩, for_list (K := K) (a := b) (xs := ys.map V.str)
        (fun j σ H' => ∃ (o4 : Option V) (ts : List Addr), σ = [some (.ref a), some (.ref b), some (.ref d), some (.str y), o4] ∧ Same H H' ∧ H' d = some (.lst (ts.map V.ref)) ∧ PairsAt H' ts (prod (xs.take i) ys ++ (ys.take j).map (fun z => (y, z))))
        ⟨o4, ts, rfl, z1, z2, by rw [List.take_zero, List.map_nil, List.append_nil]; exact z3⟩ (fun i σ H' _ ⟨_, _, _, z, _⟩ => sq_of (z _ _ hb)) ?_ ?_⟩
      · rintro j x σ H' hj ⟨o4, ts, rfl, z1, z2, z3⟩
        obtain ⟨z, ez, rfl⟩ : ∃ z, ys[j]? = some z ∧ x = V.str z := by
          rw [List.getElem?_map] at hj
          cases e : ys[j]? with
          | none => rw [e] at hj; cases hj
          | some z => rw [e] at hj; exact ⟨z, rfl, (Option.some.inj hj).symm⟩
        have jl := (List.getElem?_eq_some_iff.mp ez).1
        have tlen : ts.length ≤ 110 * 110 + 110 := by
          rw [z3.len, List.length_append, prod_len, List.length_map]
          have m1 : (xs.take i).length * ys.length ≤ 110 * 110 := Nat.mul_le_mul (by rw [List.length_take]; omega) ly
          have m2 : (ys.take j).length ≤ 110 := by rw [List.length_take]; omega
          omega
        refine ⟨_, rfl, .inl ⟨rfl, _, sq_of z2⟩, _, rfl, _, rfl, by rw [hsl]; show 2 ≤ 16777216; decide, fun t ft => ?_⟩
        have ntd : t ≠ d := fun e => by rw [e, z2] at ft; cases ft
        refine ⟨d, _, _, rfl, rfl, by rw [upd_ne (Ne.symm ntd)]; exact z2, by rw [List.length_map]; omega, ?_⟩
        refine ⟨_, ts ++ [t], rfl, same_put (same_put z1 (z1.free ft)) hd, by rw [upd_same, List.map_append]; rfl, ?_⟩
        have e2 : (ys.take (j + 1)).map (fun z => (y, z)) = (ys.take j).map (fun z => (y, z)) ++ [(y, z)] := by
          rw [List.take_add_one, ez, List.map_append]
          rfl
        rw [e2, ← List.append_assoc]
        exact pairs_snoc (p := (y, z)) z3 ft ntd ⟨_, z2⟩
      · rintro σ H' ⟨o4, ts, rfl, z1, z2, z3⟩
        refine ⟨_, _, ts, rfl, z1, z2, ?_⟩
        rw [List.length_map, List.take_length] at z3
        rw [et]
        exact z3
    · rintro σ H' ⟨o3, o4, ts, rfl, z1, z2, z3⟩
      rw [List.length_map, List.take_length] at z3
      exact ⟨_, rfl, q d ts H' z3 hd z2 z1⟩
abbrev sCounts : Stmt := top 8
theorem scCounts : FnScope ["rolls", "counts", "roll", "name"] ["rolls"] (defScope sCounts) := ⟨rfl, rfl, rfl, by decide +kernel, rfl, by decide +kernel, by decide +kernel⟩
theorem ok_counts {f : Addr} {fd : FuncData} (D : IsDef K mg "roll_counts" sCounts ["rolls"] f fd) (T : Txt mg) : FnOk P w K mg base CX0 1 f fd ["rolls"] spCounts := by
  refine D.F.ok scCounts (fun vs H Q E h => ?_) (fun cdv A outer s H vs Q E hr h => ?_)
  · obtain ⟨a, rs, LL, rfl, _⟩ := h
    rfl
  · obtain ⟨a, rs, LL, rfl, R, F, q⟩ := h
    have hu := hu_of hr
    refine ⟨_, pss_cons (ps_set (i := 1) scCounts.nd rfl (Or.inl rfl) pe_dnewK)
      (pss_cons (ps_for PassesOwn.never rfl (pi_list (pv 0)) (pg_name (i := 2) scCounts.nd rfl (Or.inl rfl)) (pss_one (ps_for PassesOwn.never rfl (pi_list (pv 2)) (pg_name (i := 3) scCounts.nd rfl (Or.inl rfl))
        (pss_one (ps_dput hu (pv 1) (pv 3) (pe_op op_add (pe_dget2 hu (pv 1) (pv 3) pe_int ⟨rfl, rfl, rfl, rfl⟩) pe_int) rfl)))))
      (pss_one (ps_ret (pv 1)))), ?_⟩
    have hsl : sizeLine = 16777216 := sizeLine_eq
    refine fun d hd => ?_
    have s0 : Same H (upd H d (.dK [])) := same_upd hd
    refine ⟨_, rfl, a, rfl, ⟨_, sq_of (R.same s0).tab.head⟩, for_list (K := K) (a := a) (xs := rs.map V.ref)
      (fun i σ H' => ∃ (o2 o3 : Option V) (kvs : List (Key × V)), σ = [some (.ref a), some (.ref d), o2, o3] ∧ Same H H' ∧ H' d = some (.dK kvs) ∧ kvs.length ≤ i * 1000 ∧ Counts kvs (cnt (LL.take i)))
      ⟨none, none, [], rfl, s0, upd_same, Nat.zero_le _, fun i => valV_nil, fun y => valV_nil⟩ (fun i σ H' _ ⟨_, _, _, _, z, _⟩ => sq_of (R.same z).tab.head) ?_ ?_⟩
    · rintro i x σ H' hi ⟨o2, o3, kvs, rfl, z1, z2, z3, z4⟩
      obtain ⟨r, er, rfl⟩ := refs_at hi
      obtain ⟨xs, ex, hx⟩ := R.at er
      have il : i < LL.length := (List.getElem?_eq_some_iff.mp ex).1
      obtain ⟨lx, rx⟩ := F.2 xs (List.mem_of_getElem? ex)
      have lL := F.1.1
      refine ⟨_, rfl, r, rfl, ⟨_, sq_of (z1 _ _ hx)⟩, for_list (K := K) (a := r) (xs := xs.map V.str)
        (fun j σ H' => ∃ (o3 : Option V) (kvs : List (Key × V)), σ = [some (.ref a), some (.ref d), some (.ref r), o3] ∧ Same H H' ∧ H' d = some (.dK kvs) ∧ kvs.length ≤ i * 1000 + j ∧ Counts kvs (fun y => cnt (LL.take i) y + (if y ∈ xs.take j then 1 else 0)))
        ⟨o3, kvs, rfl, z1, z2, z3, by simpa using z4⟩ (fun j σ H' _ ⟨_, _, _, z, _⟩ => sq_of (z _ _ hx)) ?_ ?_⟩
      · rintro j x σ H' hj ⟨o3, kvs, rfl, z1, z2, z3, z4⟩
        obtain ⟨y, ey, rfl⟩ : ∃ y, xs[j]? = some y ∧ x = V.str y := by
          rw [List.getElem?_map] at hj
          cases e : xs[j]? with
          | none => rw [e] at hj; cases hj
          | some y => rw [e] at hj; exact ⟨y, rfl, (Option.some.inj hj).symm⟩
        have jl := (List.getElem?_eq_some_iff.mp ey).1
        have ny : y ∉ xs.take j := fun m => by
          obtain ⟨k, hk⟩ := List.getElem?_of_mem m
          have kj : k < j := by
            have := (List.getElem?_eq_some_iff.mp hk).1
            rw [List.length_take] at this
            omega
          rw [List.getElem?_take_of_lt kj] at hk
          have := (List.getElem?_inj (i := k) (by omega) rx.nodup).mp (hk.trans ey.symm)
          omega
        refine ⟨_, rfl, d, rfl, .inl ⟨kvs, .inl z2⟩, _, rfl, _, DGet.k (k := Sum.inr y) z2, ?_⟩
        rw [z4.2 y, optc_get]
        refine ⟨_, _, rfl, rfl, ?_⟩
        refine ⟨_, rfl, _, rfl, d, _, rfl, DPut.k (k := Sum.inr y) z2 (by omega), ?_⟩
        refine ⟨_, _, rfl, same_put z1 hd, upd_same, ?_, z4.put fun y' => ?_⟩
        · exact Nat.le_trans (putK_len _ _ _) (by omega)
        · rw [List.take_add_one, ey]
          show _ + (if y' ∈ xs.take j ++ [y] then 1 else 0) = _
          by_cases c : y' = y
          · subst c
            rw [if_pos rfl, if_neg ny, if_pos (by simp)]
          · rw [if_neg c]
            have : y' ∈ xs.take j ++ [y] ↔ y' ∈ xs.take j := by simp [c]
            by_cases m : y' ∈ xs.take j
            · rw [if_pos m, if_pos (this.mpr m)]
            · rw [if_neg m, if_neg (fun z => m (this.mp z))]
      · rintro σ H' ⟨o3, kvs, rfl, z1, z2, z3, z4⟩
        rw [List.length_map] at z3 z4
        refine ⟨_, _, kvs, rfl, z1, z2, by rw [Nat.add_mul]; omega, ?_⟩
        rw [List.take_length] at z4
        refine ⟨z4.1, fun y => ?_⟩
        rw [z4.2 y, cnt_take ex]
    · rintro σ H' ⟨o2, o3, kvs, rfl, z1, z2, z3, z4⟩
      rw [List.length_map, R.len, List.take_length] at z4
      have l3 : rs.length ≤ 1000 := by rw [R.len]; exact F.1.1
      have l4 : rs.length * 1000 ≤ 1000 * 1000 := Nat.mul_le_mul l3 (Nat.le_refl _)
      exact ⟨_, rfl, q d kvs H' hd z2 (by rw [List.length_map] at z3; omega) z4 z1⟩
theorem rolls_check {H : Hp} {a : Addr} {rs : List Addr} {LL : List (List Str)} (R : Rolls H a rs LL) (F : Fit LL) : ∀ p, p < rs.length → (LL.getD p []).length ≤ 100000 ∧ Rising (LL.getD p []) := fun p hp => by
  obtain ⟨xs, e⟩ := at_len (show p < LL.length by rw [← R.len]; exact hp)
  rw [getD_at e]
  have := F.2 _ (List.mem_of_getElem? e)
  exact ⟨by omega, this.2⟩
abbrev sInAny : Stmt := top 9
abbrev sInJust : Stmt := top 11
abbrev sInAll : Stmt := top 10
theorem scInAny : FnScope ["rolls"] ["rolls"] (defScope sInAny) := ⟨rfl, rfl, rfl, by decide +kernel, rfl, by decide +kernel, by decide +kernel⟩
theorem scInAll : FnScope ["rolls"] ["rolls"] (defScope sInAll) := ⟨rfl, rfl, rfl, by decide +kernel, rfl, by decide +kernel, by decide +kernel⟩
theorem scInJust : FnScope ["rolls", "count", "counts"] ["rolls", "count"] (defScope sInJust) := ⟨rfl, rfl, rfl, by decide +kernel, rfl, by decide +kernel, by decide +kernel⟩
theorem ok_in_any {f fC fK : Addr} {fd dC dK : FuncData} (D : IsDef K mg "in_any" sInAny ["rolls"] f fd) (T : Txt mg) (DC : IsDef K mg "check_rolls" sCheck ["rolls"] fC dC) (GC : FnOk P w K mg base CX0 2 fC dC ["rolls"] spCheck) (DK : IsDef K mg "roll_counts" sCounts ["rolls"] fK dK) : FnOk P w K mg base CX0 3 f fd ["rolls"] spInAny := by
  have GK : FnOk P w K mg base CX0 2 fK dK ["rolls"] spCounts := (ok_counts DK T).mono (by decide)
  refine D.F.ok scInAny (fun vs H Q E h => ?_) (fun cdv A outer s H vs Q E hr h => ?_)
  · obtain ⟨a, rs, LL, rfl, _⟩ := h
    rfl
  · obtain ⟨a, rs, LL, rfl, R, F, q⟩ := h
    refine ⟨_, pss_cons (ps_expr (pe_call GC hr (by rfl) DC.m DC.F.kp DC.b .nil pass0 (pa_cons (pv 0) pa_nil)))
      (pss_one (ps_ret (pe_callB (call_sortedD rfl) (by rfl) T.sorted bt_sorted (pa_cons (pe_call GK hr (by rfl) DK.m DK.F.kp DK.b .nil pass0 (pa_cons (pv 0) pa_nil)) pa_nil)))), ?_⟩
    refine ⟨_, rfl, a, rs, _, rfl, R.tab, rolls_check R F, _, rfl, a, rs, LL, rfl, R, F, fun d kvs H1 fd e1 l1 c1 s1 => ?_⟩
    refine ⟨d, kvs, rfl, e1, c1.1, F.fewD fun y z => (optc_some _).mp (by rw [← c1.2 y]; exact z), fun zs l nz mz _ sz fl => ?_⟩
    refine q l zs _ (rising_of_sorted sz nz) (fun y => ?_) (s1.free fl) upd_same (same_put s1 (s1.free fl))
    rw [mz y, c1.2 y, optc_some]
theorem ok_in_just {f fC fK : Addr} {fd dC dK : FuncData} (D : IsDef K mg "in_just" sInJust ["rolls", "count"] f fd) (T : Txt mg) (DC : IsDef K mg "check_rolls" sCheck ["rolls"] fC dC) (GC : FnOk P w K mg base CX0 2 fC dC ["rolls"] spCheck) (DK : IsDef K mg "roll_counts" sCounts ["rolls"] fK dK) : FnOk P w K mg base CX0 3 f fd ["rolls", "count"] spInJust := by
  have GK : FnOk P w K mg base CX0 2 fK dK ["rolls"] spCounts := (ok_counts DK T).mono (by decide)
  refine D.F.ok scInJust (fun vs H Q E h => ?_) (fun cdv A outer s H vs Q E hr h => ?_)
  · obtain ⟨a, rs, LL, k, rfl, _⟩ := h
    rfl
  · obtain ⟨a, rs, LL, k, rfl, R, F, q⟩ := h
    have hu := hu_of hr
    refine ⟨_, pss_cons (ps_expr (pe_call GC hr (by rfl) DC.m DC.F.kp DC.b .nil pass0 (pa_cons (pv 0) pa_nil)))
      (pss_cons (ps_set (i := 2) scInJust.nd rfl (Or.inr rfl) (pe_call GK hr (by rfl) DK.m DK.F.kp DK.b .nil pass0 (pa_cons (pv 0) pa_nil)))
      (pss_one (ps_ret (pe_comp (j := 0) (tt := tTest (tOp rEq (tDGet (tVar 2) (tVar 0)) (tVar 1))) (te := tVar 0) (N' := ["name", "count", "counts"]) (emb := [none, some 1, some 2]) rfl
        (pi_list (pe_callB (call_sortedD rfl) (by rfl) T.sorted bt_sorted (pa_cons (pv 2) pa_nil))) rfl (by decide +kernel) (by decide +kernel)
        (free_of ["count", "counts"] (by decide +kernel) (all_cons rfl (all_cons rfl all_nil))) ⟨rfl, .inl rfl, .inl rfl, rfl, .inl rfl, .inl rfl, trivial⟩ rfl (by decide +kernel) rfl rfl
        (fun _ _ _ _ => pts_one (pt_cmpR op_eq (pe_dget hu (pv 2) (pv 0) (fun _ _ => rfl)) (pv 1) (nomark _)))
        (fun _ _ _ _ => pv 0))))), ?_⟩
    refine ⟨_, rfl, a, rs, _, rfl, R.tab, rolls_check R F, _, rfl, a, rs, LL, rfl, R, F, fun d kvs H1 fd e1 l1 c1 s1 => ?_⟩
    refine ⟨_, rfl, d, kvs, rfl, e1, c1.1, F.fewD fun y z => (optc_some _).mp (by rw [← c1.2 y]; exact z), fun zs l nz mz lz sz fl => ?_⟩
    have hsl : sizeLine = 16777216 := sizeLine_eq
    have rz := rising_of_sorted sz nz
    have el : l ≠ d := fun e => by rw [e, e1] at fl; cases fl
    have s2 : Same H1 (upd H1 l (.lst (zs.map V.str))) := same_upd fl
    refine ⟨l, rfl, ⟨_, sq_of upd_same⟩, fun e he => ?_⟩
    refine comp_list (K := K) (a := l) (xs := zs.map V.str) (j := 0) (emb := [none, some 1, some 2]) (tt := tTest (tOp rEq (tDGet (tVar 2) (tVar 0)) (tVar 1))) (te := tVar 0) (σ := [some (.ref a), some (.int k), some (.ref d)])
      (fun i ys H4 => ys = ((zs.take i).filter fun y => decide ((cnt LL y : Int) = k)).map V.str ∧ Same (upd H1 l (.lst (zs.map V.str))) H4 ∧ H4 e = some (.lst ys)) ⟨by simp, same_upd he, upd_same⟩ (fun i ys H4 _ ⟨_, z, _⟩ => sq_of (z _ _ upd_same)) ?_ ?_
    · rintro i x ys H4 hi ⟨rfl, y1, y2⟩
      obtain ⟨y, ey, rfl⟩ : ∃ y, zs[i]? = some y ∧ x = V.str y := by
        rw [List.getElem?_map] at hi
        cases e : zs[i]? with
        | none => rw [e] at hi; cases hi
        | some y => rw [e] at hi; exact ⟨y, rfl, (Option.some.inj hi).symm⟩
      have cy : 0 < cnt LL y := by
        have := (mz y).mp (List.mem_of_getElem? ey)
        rw [c1.2 y, optc_some] at this
        exact this
      have vy : valV kvs (Sum.inr y) = some (.int (cnt LL y)) := by
        rw [c1.2 y]
        unfold optc
        rw [if_neg (by omega)]
      have ed : H4 d = some (.dK kvs) := y1 _ _ (s2 _ _ e1)
      have et : (zs.take (i + 1)).filter (fun y => decide ((cnt LL y : Int) = k)) = (zs.take i).filter (fun y => decide ((cnt LL y : Int) = k)) ++ (if (cnt LL y : Int) = k then [y] else []) := by
        rw [List.take_add_one, ey, List.filter_append]
        congr 1
        by_cases c : (cnt LL y : Int) = k <;> simp [c]
      refine ⟨_, rfl, _, rfl, d, _, rfl, by have := DGet.k (k := Sum.inr y) ed; rw [vy] at this; exact this, _, rfl, rfl, _, rfl, ite2 (fun hb => ?_) (fun hb => ?_)⟩
      · have hb' : (cnt LL y : Int) = k := by simpa [eqV] using hb
        refine ⟨_, rfl, y2, ?_, ?_, same_put y1 he, upd_same⟩
        · rw [List.length_map]
          have h1 := List.length_filter_le (fun y => decide ((cnt LL y : Int) = k)) (zs.take i)
          have h2 : (zs.take i).length < zs.length := by
            rw [List.length_take]
            have := (List.getElem?_eq_some_iff.mp ey).1
            omega
          omega
        · rw [et, if_pos hb', List.map_append]
          rfl
      · have hb' : ¬ (cnt LL y : Int) = k := by simpa [eqV] using hb
        refine ⟨?_, y1, y2⟩
        rw [et, if_neg hb', List.append_nil]
    · rintro ys H4 ⟨rfl, y1, y2⟩
      rw [List.length_map, List.take_length] at y2
      have fe : H e = none := s1.free (s2.free he)
      refine q e _ H4 (rising_of_pw (rz.pw.filter _)) (fun y => ?_) fe y2 (s1.trans (s2.trans y1))
      rw [List.mem_filter, mz y, c1.2 y, optc_some, decide_eq_true_iff]
theorem ok_in_all {f fJ : Addr} {fd dJ : FuncData} (D : IsDef K mg "in_all" sInAll ["rolls"] f fd) (T : Txt mg) (DJ : IsDef K mg "in_just" sInJust ["rolls", "count"] fJ dJ) (GJ : FnOk P w K mg base CX0 3 fJ dJ ["rolls", "count"] spInJust) : FnOk P w K mg base CX0 4 f fd ["rolls"] spInAll := by
  refine D.F.ok scInAll (fun vs H Q E h => ?_) (fun cdv A outer s H vs Q E hr h => ?_)
  · obtain ⟨a, rs, LL, rfl, _⟩ := h
    rfl
  · obtain ⟨a, rs, LL, rfl, R, F, q⟩ := h
    refine ⟨_, pss_one (ps_ret (pe_call GJ hr (by rfl) DJ.m DJ.F.kp DJ.b .nil pass0 (pa_cons (pv 0) (pa_cons (pe_callB call_len_seq (by rfl) T.len bt_len (pa_cons (pv 0) pa_nil)) pa_nil)))), ?_⟩
    refine ⟨_, rfl, _, rfl, a, _, rfl, .inl (sq_of R.tab.head), a, rs, LL, _, rfl, R, F, fun l zs H' r m f e s => q l zs H' r (fun y => ?_) f e s⟩
    rw [m y, List.length_map, R.len]
theorem rolls_checkS {H : Hp} {a : Addr} {rs : List Addr} {LL : List (List Str)} (R : Rolls H a rs LL) (F : Fit LL) : ∀ p, p < rs.length → (LL.getD p []).length ≤ 100000 ∧ Rising (LL.getD p []) := fun p hp => by
  obtain ⟨xs, e⟩ := at_len (show p < LL.length by rw [← R.len]; exact hp)
  rw [getD_at e]
  have := F.2 _ (List.mem_of_getElem? e)
  exact ⟨by omega, this.2⟩
theorem strs_at {xs : List Str} {j : Nat} {x : V} (hj : (xs.map V.str)[j]? = some x) : ∃ y, xs[j]? = some y ∧ x = V.str y := by
  rw [List.getElem?_map] at hj
  cases e : xs[j]? with
  | none => rw [e] at hj; cases hj
  | some y => rw [e] at hj; exact ⟨y, rfl, (Option.some.inj hj).symm⟩
abbrev sPlaces : Stmt := top 19
abbrev sShares : Stmt := top 20
theorem scPlaces : FnScope ["rolls", "places", "place", "name"] ["rolls"] (defScope sPlaces) := ⟨rfl, rfl, rfl, by decide +kernel, rfl, by decide +kernel, by decide +kernel⟩
theorem ok_places {f : Addr} {fd : FuncData} (D : IsDef K mg "places_by_name" sPlaces ["rolls"] f fd) (T : Txt mg) : FnOk P w K mg base CX0 1 f fd ["rolls"] spPlaces := by
  refine D.F.ok scPlaces (fun vs H Q E h => ?_) (fun cdv A outer s H vs Q E hr h => ?_)
  · obtain ⟨a, rs, LL, rfl, _⟩ := h
    rfl
  · obtain ⟨a, rs, LL, rfl, R, F, q⟩ := h
    have hu := hu_of hr
    refine ⟨_, pss_cons (ps_set (i := 1) scPlaces.nd rfl (Or.inl rfl) pe_dnewK)
      (pss_cons (ps_for PassesOwn.never rfl (pi_range1 (by rfl) T.range (pa_cons (pe_callB call_len_seq (by rfl) T.len bt_len (pa_cons (pv 0) pa_nil)) pa_nil)) (pg_name (i := 2) scPlaces.nd rfl (Or.inl rfl)) (pss_one (ps_for PassesOwn.never rfl (pi_list (pe_ix ix_list (pv 0) (pv 2) (fun _ _ => rfl))) (pg_name (i := 3) scPlaces.nd rfl (Or.inl rfl))
        (pss_one (ps_dput hu (pv 1) (pv 3) (pe_op op_cat (pe_dget2 hu (pv 1) (pv 3) (pe_lst pa_nil) ⟨rfl, rfl, rfl, rfl⟩) (pe_lst (pa_cons (pv 2) pa_nil))) rfl)))))
      (pss_one (ps_ret (pv 1)))), ?_⟩
    have hsl : sizeLine = 16777216 := sizeLine_eq
    have lL := F.1.1
    refine fun d hd => ?_
    have s0 : Same H (upd H d (.dK [])) := same_upd hd
    refine ⟨_, rfl, a, _, rfl, .inl (sq_of (R.same s0).tab.head), _, rfl, by omega, by rw [List.length_map, R.len]; omega, ?_⟩
    rw [List.length_map, Int.toNat_natCast]
    refine for_range (fun i σ H' => ∃ (o2 o3 : Option V) (kvs : List (Key × V)), σ = [some (.ref a), some (.ref d), o2, o3] ∧ Same H H' ∧ H' d = some (.dK kvs) ∧ kvs.length ≤ i * 1000 ∧ (∀ i : Int, valV kvs (Sum.inl i) = none) ∧ ∀ y, PlaceAt H' (valV kvs (Sum.inr y)) (posN LL i y))
      ⟨none, none, [], rfl, s0, upd_same, Nat.zero_le _, fun i => valV_nil, fun y => .inl ⟨valV_nil, rfl⟩⟩ ?_ ?_
    · rintro i σ H' hi ⟨o2, o3, kvs, rfl, z1, z2, z3, z4, z5⟩
      obtain ⟨r, er⟩ := at_len hi
      obtain ⟨xs, ex, hx⟩ := R.at er
      obtain ⟨lx, rx⟩ := F.2 xs (List.mem_of_getElem? ex)
      refine ⟨_, rfl, _, rfl, a, _, _, _, rfl, rfl, sq_of (R.same z1).tab.head, ix_refs (Int.zero_add _) er, r, rfl, ⟨_, sq_of (z1 _ _ hx)⟩, for_list (K := K) (a := r) (xs := xs.map V.str)
        (fun j σ H' => ∃ (o3 : Option V) (kvs : List (Key × V)), σ = [some (.ref a), some (.ref d), some (.int (0 + (i : Int))), o3] ∧ Same H H' ∧ H' d = some (.dK kvs) ∧ kvs.length ≤ i * 1000 + j ∧ (∀ i : Int, valV kvs (Sum.inl i) = none) ∧ ∀ y, PlaceAt H' (valV kvs (Sum.inr y)) (posN LL i y ++ (if y ∈ xs.take j then [i] else [])))
        ⟨o3, kvs, rfl, z1, z2, z3, z4, fun y => by simpa using z5 y⟩ (fun j σ H' _ ⟨_, _, _, z, _⟩ => sq_of (z _ _ hx)) ?_ ?_⟩
      · rintro j x σ H' hj ⟨o3, kvs, rfl, z1, z2, z3, z4, z5⟩
        obtain ⟨y, ey, rfl⟩ := strs_at hj
        have jl := (List.getElem?_eq_some_iff.mp ey).1
        have ny : y ∉ xs.take j := fun m => by
          obtain ⟨k, hk⟩ := List.getElem?_of_mem m
          have kj : k < j := by
            have := (List.getElem?_eq_some_iff.mp hk).1
            rw [List.length_take] at this
            omega
          rw [List.getElem?_take_of_lt kj] at hk
          have := (List.getElem?_inj (i := k) (by omega) rx.nodup).mp (hk.trans ey.symm)
          omega
        have pl := posN_len LL i y
        have il : i < LL.length := (List.getElem?_eq_some_iff.mp ex).1
        have zy := z5 y
        rw [if_neg ny, List.append_nil] at zy
        refine ⟨_, rfl, d, rfl, .inl ⟨kvs, .inl z2⟩, _, rfl, Nat.zero_le _, fun p1 f1 => ?_⟩
        have n1d : d ≠ p1 := ne_of_none z2 f1
        have w1 : Same H' (upd H' p1 (.lst [])) := same_upd f1
        refine ⟨_, DGet.k (k := Sum.inr y) (w1 _ _ z2), ?_⟩
        obtain ⟨b, hb, eb⟩ : ∃ b, (valV kvs (Sum.inr y)).getD (.ref p1) = .ref b ∧ upd H' p1 (.lst []) b = some (.lst (valI (posN LL i y))) := by
          rcases zy with ⟨h1, h2⟩ | ⟨b, h1, h2, _⟩
          · exact ⟨p1, by rw [h1]; rfl, by rw [h2]; exact upd_same⟩
          · exact ⟨b, by rw [h1]; rfl, w1 _ _ h2⟩
        rw [hb]
        refine ⟨_, rfl, by rw [hsl]; show 1 ≤ 16777216; decide, fun p2 f2 => ?_⟩
        have w2 := same_put (o := .lst [V.int (0 + (i : Int))]) w1 (w1.free f2)
        refine ⟨b, p2, _, _, rfl, rfl, by rw [upd_ne (ne_of_none eb f2)]; exact eb, upd_same, ?_, fun p3 f3 => ?_⟩
        · show (valI (posN LL i y)).length + 1 ≤ sizeLine
          unfold valI
          rw [List.length_map]
          omega
        have w3 := same_put (o := .lst (valI (posN LL i y) ++ [V.int (0 + (i : Int))])) w2 (w2.free f3)
        refine ⟨_, rfl, _, rfl, d, _, rfl, DPut.k (k := Sum.inr y) (w3 _ _ z2) (by omega), ?_⟩
        have w3L : SameL (upd (upd (upd H' p1 (.lst [])) p2 (.lst [V.int (0 + (i : Int))])) p3 (.lst (valI (posN LL i y) ++ [V.int (0 + (i : Int))]))) (upd (upd (upd (upd H' p1 (.lst [])) p2 (.lst [V.int (0 + (i : Int))])) p3 (.lst (valI (posN LL i y) ++ [V.int (0 + (i : Int))]))) d (.dK (putK kvs (Sum.inr y) (.ref p3)))) := sameL_upd fun xs e => by
          rw [w3 _ _ z2] at e
          cases e
        have w4L := (LB.Same.toL w3).trans w3L
        refine ⟨_, _, rfl, same_put (z1.trans w3) hd, upd_same, Nat.le_trans (putK_len _ _ _) (by omega), fun i' => ?_, fun y' => ?_⟩
        · rw [valV_put, if_neg (by intro z; cases z)]
          exact z4 i'
        · rw [valV_put, List.take_add_one, ey]
          show PlaceAt _ _ (posN LL i y' ++ (if y' ∈ xs.take j ++ [y] then [i] else []))
          by_cases c : y' = y
          · subst c
            rw [if_pos rfl, if_pos (by simp)]
            refine .inr ⟨p3, rfl, ?_, by simp⟩
            refine w3L _ _ ?_
            rw [upd_same]
            unfold valI
            rw [List.map_append, Int.zero_add]
            rfl
          · rw [if_neg (fun z => c (Sum.inr.inj z))]
            have e : (if y' ∈ xs.take j ++ [y] then [i] else []) = (if y' ∈ xs.take j then [i] else []) := by simp [c]
            rw [e]
            exact (z5 y').mono w4L
      · rintro σ H' ⟨o3, kvs, rfl, z1, z2, z3, z4, z5⟩
        rw [List.length_map] at z3 z5
        refine ⟨_, _, kvs, rfl, z1, z2, by rw [Nat.add_mul]; omega, z4, fun y => ?_⟩
        rw [posN_succ ex]
        have := z5 y
        rw [List.take_length] at this
        exact this
    · rintro σ H' ⟨o2, o3, kvs, rfl, z1, z2, z3, z4, z5⟩
      have l3 : rs.length ≤ 1000 := by rw [R.len]; exact F.1.1
      have l4 : rs.length * 1000 ≤ 1000 * 1000 := Nat.mul_le_mul l3 (Nat.le_refl _)
      refine ⟨_, rfl, q d kvs H' hd z2 (by omega) z4 (fun y => ?_) z1⟩
      have := z5 y
      rw [R.len] at this
      exact this
theorem scShares : FnScope ["rolls", "places", "names_at", "name", "key"] ["rolls"] (defScope sShares) := ⟨rfl, rfl, rfl, by decide +kernel, rfl, by decide +kernel, by decide +kernel⟩
theorem ok_shares {f fC fP : Addr} {fd dC dP : FuncData} (D : IsDef K mg "shares" sShares ["rolls"] f fd) (T : Txt mg) (DC : IsDef K mg "check_rolls" sCheck ["rolls"] fC dC) (GC : FnOk P w K mg base CX0 2 fC dC ["rolls"] spCheck) (DP : IsDef K mg "places_by_name" sPlaces ["rolls"] fP dP) : FnOk P w K mg base CX0 3 f fd ["rolls"] spShares := by
  have GP : FnOk P w K mg base CX0 2 fP dP ["rolls"] spPlaces := (ok_places DP T).mono (by decide)
  refine D.F.ok scShares (fun vs H Q E h => ?_) (fun cdv A outer s H vs Q E hr h => ?_)
  · obtain ⟨a, rs, LL, rfl, _⟩ := h
    rfl
  · obtain ⟨a, rs, LL, rfl, R, F, q⟩ := h
    have hu := hu_of hr
    refine ⟨_, pss_cons (ps_expr (pe_call GC hr (by rfl) DC.m DC.F.kp DC.b .nil pass0 (pa_cons (pv 0) pa_nil)))
      (pss_cons (ps_set (i := 1) scShares.nd rfl (Or.inl rfl) (pe_call GP hr (by rfl) DP.m DP.F.kp DP.b .nil pass0 (pa_cons (pv 0) pa_nil)))
      (pss_cons (ps_set (i := 2) scShares.nd rfl (Or.inr rfl) pe_dnewT)
      (pss_cons (ps_for PassesOwn.never rfl (pi_list (pe_callB (call_sortedD rfl) (by rfl) T.sorted bt_sorted (pa_cons (pv 1) pa_nil))) (pg_name (i := 3) scShares.nd rfl (Or.inl rfl))
        (pss_cons (ps_set (i := 4) scShares.nd rfl (Or.inl rfl) (pe_callTy call_tuple_of (by rfl) T.tuple bt_tuple (pa_cons (pe_dget hu (pv 1) (pv 3) (fun _ _ => rfl)) pa_nil)))
        (pss_one (ps_dput hu (pv 2) (pv 4) (pe_op op_cat (pe_dget2 hu (pv 2) (pv 4) (pe_lst pa_nil) ⟨rfl, rfl, rfl, rfl⟩) (pe_lst (pa_cons (pv 3) pa_nil))) rfl))))
      (pss_one (ps_ret (pe_comp (j := 0) (tt := tAlways) (te := tTup (tCons (tCB (rListOf K) (tCons (tVar 0) tNil)) (tCons (tDGet (tVar 1) (tVar 0)) tNil))) (N' := ["key", "names_at"]) (emb := [none, some 2]) rfl
        (pi_dict (pv 2)) rfl (by decide +kernel) (by decide +kernel)
        (free_of ["names_at"] (by decide +kernel) (all_cons rfl all_nil)) ⟨rfl, .inl rfl, .inl rfl, trivial⟩ rfl (by decide +kernel) rfl rfl
        (fun _ _ _ _ => pts_nil)
        (fun _ _ _ _ => pe_tup (pa_cons (pe_callTy call_list_of (by rfl) T.list bt_list (pa_cons (pv 0) pa_nil)) (pa_cons (pe_dget hu (pv 1) (pv 0) (fun _ _ => rfl)) pa_nil))))))))), ?_⟩
    have hsl : sizeLine = 16777216 := sizeLine_eq
    refine ⟨_, rfl, a, rs, _, rfl, R.tab, rolls_checkS R F, _, rfl, a, rs, LL, rfl, R, F, fun d kvs H1 fd e1 l1 c1 c2 s1 => fun n fn => ?_⟩
    have ndn : d ≠ n := ne_of_none e1 fn
    have few := F.fewD (kvs := kvs) fun y z => by
      rcases c2 y with ⟨h1, h2⟩ | ⟨b, h1, h2, h3⟩
      · rw [h1] at z
        cases z
      · exact cnt_pos.mpr (pos_nil.mp h3)
    refine ⟨_, rfl, d, kvs, rfl, by rw [upd_ne ndn]; exact e1, c1, few, fun zs l nz mz lz sz fl => ?_⟩
    have rz := rising_of_sorted sz nz
    have x1 : Same H1 (upd H1 n (.dT [])) := same_upd fn
    have x2 := same_put (o := .lst (zs.map V.str)) x1 (x1.free fl)
    have nln : l ≠ n := fun e => by rw [e, upd_same] at fl; cases fl
    have mzp : ∀ y, y ∈ zs ↔ pos LL y ≠ [] := fun y => by
      rw [mz y]
      rcases c2 y with ⟨h1, h2⟩ | ⟨b, h1, h2, h3⟩
      · rw [h1, h2]
        simp
      · rw [h1]
        exact ⟨fun _ => h3, fun _ => rfl⟩
    refine ⟨l, rfl, ⟨_, sq_of upd_same⟩, for_list (K := K) (a := l) (xs := zs.map V.str)
      (fun i σ H' => ∃ (o3 o4 : Option V) (gs : List (List Key × V)), σ = [some (.ref a), some (.ref d), some (.ref n), o3, o4] ∧ Same H1 H' ∧ H' l = some (.lst (zs.map V.str)) ∧ H' n = some (.dT gs) ∧ GAt H' gs (grp (pos LL) (zs.take i)))
      ⟨none, none, [], rfl, x2, upd_same, by rw [upd_ne (Ne.symm nln)]; exact upd_same, .nil⟩ (fun i σ H' _ ⟨_, _, _, _, _, z, _⟩ => sq_of z) ?_ ?_⟩
    · rintro i x σ H' hi ⟨o3, o4, gs, rfl, z1, z2, z3, z4⟩
      obtain ⟨y, ey, rfl⟩ := strs_at hi
      have il := (List.getElem?_eq_some_iff.mp ey).1
      have py := (mzp y).mp (List.mem_of_getElem? ey)
      obtain ⟨b, vb, hb, _⟩ := (c2 y).resolve_left fun z => py z.2
      have gl : gs.length ≤ i := by rw [z4.length]; exact grp_len _ _ _
      refine ⟨_, rfl, _, rfl, d, _, rfl, (by have := DGet.k (k := Sum.inr y) (z1 _ _ e1); rw [vb] at this; exact this), b, _, rfl, .inl ⟨sq_of (z1 _ _ hb), fun t ft => ?_⟩⟩
      have w0 : Same H' (upd H' t (.tup (valI (pos LL y)))) := same_upd ft
      have ht : upd H' t (.tup (valI (pos LL y))) t = some (.tup ((keyOf (pos LL y)).map kV)) := by rw [keyOf_kV]; exact upd_same
      refine ⟨_, rfl, n, rfl, .inr ⟨gs, .inl (w0 _ _ z3)⟩, _, rfl, Nat.zero_le _, fun p1 f1 => ?_⟩
      have w1 := same_put (o := .lst []) w0 (w0.free f1)
      have ht1 := (same_upd (o := .lst []) f1) _ _ ht
      refine ⟨_, DGet.t (k := keyOf (pos LL y)) (w1 _ _ z3) ht1, ?_⟩
      have ok := grp_take (f := pos LL) rz i (by omega)
      obtain ⟨old, c, hc, ec, ho, hn⟩ : ∃ (old : List Str) (c : Addr), (valV gs (keyOf (pos LL y))).getD (.ref p1) = .ref c ∧ upd (upd H' t (.tup (valI (pos LL y)))) p1 (.lst []) c = some (.lst (old.map V.str)) ∧ (∀ g ∈ grp (pos LL) (zs.take i), g.1 = pos LL y → g.2 = old) ∧ ((∀ g ∈ grp (pos LL) (zs.take i), g.1 ≠ pos LL y) → old = []) := by
        rcases gat_get z4 (pos LL y) with ⟨h1, h2⟩ | ⟨g, c, h1, h2, h3, h4⟩
        · exact ⟨[], p1, by rw [h1]; rfl, upd_same, fun g hg e => absurd e (h2 g hg), fun _ => rfl⟩
        · refine ⟨g.2, c, by rw [h3]; rfl, w1 _ _ h4, fun g' hg e => ?_, fun z => absurd h2 (z g h1)⟩
          rw [key_inj ok.nd hg h1 (e.trans h2.symm)]
      have lold : old.length ≤ 1000000 := by
        by_cases c : ∃ g ∈ grp (pos LL) (zs.take i), g.1 = pos LL y
        · obtain ⟨g, hg, e⟩ := c
          rw [← ho g hg e, (ok.names g hg).2]
          have := List.length_filter_le (fun y => decide (pos LL y = g.1)) (zs.take i)
          rw [List.length_take] at this
          omega
        · rw [hn fun g hg e => c ⟨g, hg, e⟩]
          exact Nat.zero_le _
      rw [hc]
      refine ⟨_, rfl, by rw [hsl]; show 1 ≤ 16777216; decide, fun p2 f2 => ?_⟩
      have w2 := same_put (o := .lst [V.str y]) w1 (w1.free f2)
      refine ⟨c, p2, _, _, rfl, rfl, by rw [upd_ne (ne_of_none ec f2)]; exact ec, upd_same, ?_, fun p3 f3 => ?_⟩
      · show (old.map V.str).length + 1 ≤ sizeLine
        rw [List.length_map]
        omega
      have w3 := same_put (o := .lst (old.map V.str ++ [V.str y])) w2 (w2.free f3)
      have ht3 := (same_upd (o := .lst (old.map V.str ++ [V.str y])) f3) _ _ ((same_upd (o := .lst [V.str y]) f2) _ _ ht1)
      refine ⟨_, rfl, _, rfl, n, _, rfl, DPut.t (k := keyOf (pos LL y)) (w3 _ _ z3) ht3 (by omega), ?_⟩
      refine ⟨_, _, _, rfl, same_put (z1.trans w3) fn, by rw [upd_ne nln]; exact w3 _ _ z2, upd_same, ?_⟩
      have w3L : SameL (upd (upd (upd (upd H' t (.tup (valI (pos LL y)))) p1 (.lst [])) p2 (.lst [V.str y])) p3 (.lst (old.map V.str ++ [V.str y]))) (upd (upd (upd (upd (upd H' t (.tup (valI (pos LL y)))) p1 (.lst [])) p2 (.lst [V.str y])) p3 (.lst (old.map V.str ++ [V.str y]))) n (.dT (putK gs (keyOf (pos LL y)) (.ref p3)))) := sameL_upd fun xs e => by
        rw [w3 _ _ z3] at e
        cases e
      rw [List.take_add_one, ey]
      show GAt _ _ (grp (pos LL) (zs.take i ++ [y]))
      rw [grp_snoc]
      refine gat_put (old := old) ((z4.mono (LB.Same.toL w3)).mono w3L) ho hn (w3L _ _ ?_)
      rw [upd_same, List.map_append]
      rfl
    · rintro σ H' ⟨o3, o4, gs, rfl, z1, z2, z3, z4⟩
      rw [List.length_map, List.take_length] at z4
      have ok := grp_ok (f := pos LL) rz
      have gl : (grp (pos LL) zs).length ≤ zs.length := by
        have := grp_len (pos LL) zs zs.length
        rw [List.take_length] at this
        exact this
      refine ⟨_, rfl, n, gs, rfl, z3, fun o e he => ?_⟩
      have fe : H' e = none := by
        rw [upd_ne (fun z => by rw [z, upd_same] at he; cases he)] at he
        exact he
      have nen : e ≠ n := fun z => by rw [z, upd_same] at he; cases he
      have g6 : GAt (upd H' n (.frz o (.dT gs))) gs (grp (pos LL) zs) := z4.mono (sameL_upd fun xs e => by rw [z3] at e; cases e)
      have s6 : Same H (upd H' n (.frz o (.dT gs))) := same_put (s1.trans z1) (s1.free fn)
      refine comp_dict (a := n) (o := o) (kvs := gs) (j := 0) (emb := [none, some 2]) (tt := tAlways) (te := tTup (tCons (tCB (rListOf K) (tCons (tVar 0) tNil)) (tCons (tDGet (tVar 1) (tVar 0)) tNil))) (σ := [some (.ref a), some (.ref d), some (.ref n), o3, o4])
        (fun i ys H7 => ∃ ts : List Addr, ys = ts.map V.ref ∧ Same (upd H' n (.frz o (.dT gs))) H7 ∧ H7 e = some (.lst ys) ∧ SharesAt (hide H7 e) ts ((grp (pos LL) zs).take i)) ⟨[], rfl, same_upd he, upd_same, ⟨by simp, fun i t p e1 => by simp at e1⟩⟩ (fun i ys H7 _ ⟨_, _, z, _⟩ => z _ _ upd_same) ?_ ?_
      · rintro i k v b ys H7 ek hb ⟨ts, rfl, y1, y2, y3⟩
        obtain ⟨g, eg, kg, c0, _, _⟩ := paired_get g6 ek
        dsimp only at kg
        subst kg
        have mg := List.mem_of_getElem? eg
        have g7 := g6.mono (LB.Same.toL y1)
        obtain ⟨g', c, m', k', vc, hcc⟩ := (gat_get g7 g.1).resolve_left fun z => z.2 g mg rfl
        have eg' := key_inj ok.nd m' mg k'
        subst eg'
        refine always ⟨_, rfl, b, _, rfl, .inr (.inl (.inl hb)), fun l1 fl1 => ?_⟩
        have v1 := same_upd (o := .lst ((keyOf g'.1).map kV)) fl1
        refine ⟨_, rfl, _, rfl, n, .ref c, rfl, .inr ⟨gs, keyOf g'.1, b, .inr ⟨o, v1 _ _ (y1 _ _ upd_same)⟩, rfl, v1 _ _ hb, vc.symm⟩, by rw [hsl]; show 2 ≤ 16777216; decide, fun t ft => ?_⟩
        have v2 := same_put (o := .tup [V.ref l1, V.ref c]) v1 (v1.free ft)
        have lts : ts.length ≤ i := by
          rw [y3.len, List.length_take]
          omega
        have ig := (List.getElem?_eq_some_iff.mp eg).1
        refine ⟨v2 _ _ y2, by rw [List.length_map]; omega, ts ++ [t], by rw [List.map_append]; rfl, ?_, upd_same, ?_⟩
        · exact same_put (y1.trans v2) he
        · have nte : t ≠ e := fun z => by
            rw [z, v1 _ _ y2] at ft
            cases ft
          have nle : l1 ≠ e := fun z => by
            rw [z, y2] at fl1
            cases fl1
          have nlt : l1 ≠ t := ne_of_none upd_same ft
          have nce : c ≠ e := fun z => by
            have : upd H' n (.frz o (.dT gs)) c = none := by rw [z]; exact he
            obtain ⟨g2, c2', m2, k2, vc2, hc2⟩ := (gat_get g6 g'.1).resolve_left fun z => z.2 g' mg rfl
            rw [vc] at vc2
            cases vc2
            rw [hc2] at this
            cases this
          rw [List.take_add_one, eg]
          show SharesAt _ (ts ++ [t]) ((grp (pos LL) zs).take i ++ [g'])
          rw [hide_upd]
          exact (y3.mono (hide_mono v2 e)).snoc (a := l1) (b := c) (by rw [hide_ne nte]; exact upd_same) (by rw [hide_ne nle, upd_ne nlt, upd_same, keyOf_kV]) (by rw [hide_ne nce]; exact v2 _ _ hcc)
      · rintro ys H7 ⟨ts, rfl, y1, y2, y3⟩
        have el : gs.length = (grp (pos LL) zs).length := z4.length
        rw [el, List.take_length] at y3
        refine q e ts zs H7 rz (fun y => ?_) ?_ y2 (y3.mono (hide_same H7 e)) (s6.trans y1)
        · rw [mzp y]
          exact pos_nil
        · exact s6.free he
theorem ok_check_bad {C f fI : Addr} {fd dI : FuncData} (O : Own K mg "NoRoll" C) (D : IsDef K mg "check_rolls" sCheck ["rolls"] f fd) (T : Txt mg) (DI : IsDef K mg "is_roll" sIsRoll ["names"] fI dI) : FnOk P w K mg base (CX1 P w C) 2 f fd ["rolls"] spBad := by
  have GI : FnOk P w K mg base CX0 1 fI dI ["names"] spRising := ok_is_roll DI T
  refine D.F.ok1 scCheck (fun vs H Q E h => ?_) (fun cdv A outer s H vs Q E hr h => ?_)
  · obtain ⟨a, rs, LL, rfl, _⟩ := h
    rfl
  · obtain ⟨a, rs, LL, rfl, R, ⟨B1, B2, B3⟩, q⟩ := h
    refine ⟨_, pss_one (ps_for PassesOwn.leaving rfl (pi_list (pv 0)) (pg_name (i := 1) scCheck.nd rfl (Or.inl rfl)) (pss_one (ps_if (pt_not (pt_val (pe_call GI hr (by rfl) DI.m DI.F.kp DI.b .nil pass0 (pa_cons (pv 1) pa_nil)))) (pss_one (ps_raise1 O (pe_fstr (pv 1) hr.units0 (by decide +kernel)) (by rfl))) pss_nil))), ?_⟩
    refine ⟨_, rfl, a, rfl, ⟨_, sq_of R.tab.head⟩, for_list (K := K) (a := a) (xs := rs.map V.ref) (fun i σ H' => ∃ o, σ = [some (.ref a), o] ∧ H' = H ∧ ∀ xs ∈ LL.take i, Rising xs) ⟨none, rfl, rfl, fun xs hx => by simp at hx⟩ (fun i σ H' _ ⟨_, _, z, _⟩ => by rw [z]; exact sq_of R.tab.head) ?_ ?_⟩
    · rintro i x σ H' hi ⟨o, rfl, rfl, hs⟩
      obtain ⟨r, er, rfl⟩ := refs_at hi
      obtain ⟨xs, ex, hx⟩ := R.at er
      have b2 := B2 xs (List.mem_of_getElem? ex)
      refine ⟨_, rfl, r, xs, rfl, hx, by omega, fun t ht => ⟨_, rfl, ?_⟩⟩
      cases t with
      | true =>
        refine iteF ⟨_, rfl, rfl, fun ys hy => ?_⟩
        rw [List.take_add_one, ex] at hy
        rcases List.mem_append.mp hy with hy | hy
        · exact hs ys hy
        · rw [List.mem_singleton.mp hy]
          exact ht.mp rfl
      | false =>
        refine iteT ⟨_, rfl, r, xs, rfl, hx, fun e => ?_, b2.1, b2.2, fun _ => q _ _ _ (fun _ _ z => z)⟩
        have := ht.mpr (by rw [e]; exact fun j x y h1 _ => by simp at h1)
        cases this
    · rintro σ H' ⟨o, rfl, rfl, hs⟩
      obtain ⟨xs, hx, nx⟩ := B3
      rw [List.length_map, R.len, List.take_length] at hs
      exact absurd (hs xs hx) nx
theorem rolls_two {H : Hp} {a b d : Addr} {xs ys : List Str} (ha : H a = some (.lst (xs.map V.str))) (hb : H b = some (.lst (ys.map V.str))) (hd : H d = none) : Rolls (upd H d (.lst [V.ref a, V.ref b])) d [a, b] [xs, ys] := by
  refine ⟨⟨upd_same, fun p r e => ?_⟩, rfl⟩
  have t := (two_tab ha hb hd).row p r e
  cases p with
  | zero => exact t
  | succ p =>
    cases p with
    | zero => exact t
    | succ p => simp at e
theorem ok_union_bad {C f fC : Addr} {fd dC : FuncData} (D : IsDef K mg "union" sUnion ["one", "other"] f fd) (DC : IsDef K mg "check_rolls" sCheck ["rolls"] fC dC) (GC : FnOk P w K mg base (CX1 P w C) 2 fC dC ["rolls"] spBad) : FnOk P w K mg base (CX1 P w C) 3 f fd ["one", "other"] spBad2 := by
  refine D.F.ok1 scUnion (fun vs H Q E h => ?_) (fun cdv A outer s H vs Q E hr h => ?_)
  · obtain ⟨a, b, xs, ys, rfl, _⟩ := h
    rfl
  · obtain ⟨a, b, xs, ys, rfl, ha, hb, B, q⟩ := h
    refine ⟨_, pss_cons (ps_expr (pe_call GC hr (by rfl) DC.m DC.F.kp DC.b .nil pass1 (pa_cons (pe_lst (pa_cons (pv 0) (pa_cons (pv 1) pa_nil))) pa_nil))) pss_never, ?_⟩
    have hsl : sizeLine = 16777216 := sizeLine_eq
    exact ⟨_, rfl, _, rfl, by rw [hsl]; show 2 ≤ 16777216; decide, fun d hd => ⟨d, _, _, rfl, rolls_two ha hb hd, B, fun c d' H' z => q c d' H' (fun b' o' e' => z _ _ (same_upd hd _ _ e'))⟩⟩
theorem ok_both_bad {C f fC : Addr} {fd dC : FuncData} (D : IsDef K mg "both" sBoth ["one", "other"] f fd) (DC : IsDef K mg "check_rolls" sCheck ["rolls"] fC dC) (GC : FnOk P w K mg base (CX1 P w C) 2 fC dC ["rolls"] spBad) : FnOk P w K mg base (CX1 P w C) 3 f fd ["one", "other"] spBad2 := by
  refine D.F.ok1 scBoth (fun vs H Q E h => ?_) (fun cdv A outer s H vs Q E hr h => ?_)
  · obtain ⟨a, b, xs, ys, rfl, _⟩ := h
    rfl
  · obtain ⟨a, b, xs, ys, rfl, ha, hb, B, q⟩ := h
    refine ⟨_, pss_cons (ps_expr (pe_call GC hr (by rfl) DC.m DC.F.kp DC.b .nil pass1 (pa_cons (pe_lst (pa_cons (pv 0) (pa_cons (pv 1) pa_nil))) pa_nil))) pss_never, ?_⟩
    have hsl : sizeLine = 16777216 := sizeLine_eq
    exact ⟨_, rfl, _, rfl, by rw [hsl]; show 2 ≤ 16777216; decide, fun d hd => ⟨d, _, _, rfl, rolls_two ha hb hd, B, fun c d' H' z => q c d' H' (fun b' o' e' => z _ _ (same_upd hd _ _ e'))⟩⟩
theorem ok_less_bad {C f fC : Addr} {fd dC : FuncData} (D : IsDef K mg "less" sLess ["one", "other"] f fd) (DC : IsDef K mg "check_rolls" sCheck ["rolls"] fC dC) (GC : FnOk P w K mg base (CX1 P w C) 2 fC dC ["rolls"] spBad) : FnOk P w K mg base (CX1 P w C) 3 f fd ["one", "other"] spBad2 := by
  refine D.F.ok1 scLess (fun vs H Q E h => ?_) (fun cdv A outer s H vs Q E hr h => ?_)
  · obtain ⟨a, b, xs, ys, rfl, _⟩ := h
    rfl
  · obtain ⟨a, b, xs, ys, rfl, ha, hb, B, q⟩ := h
    refine ⟨_, pss_cons (ps_expr (pe_call GC hr (by rfl) DC.m DC.F.kp DC.b .nil pass1 (pa_cons (pe_lst (pa_cons (pv 0) (pa_cons (pv 1) pa_nil))) pa_nil))) pss_never, ?_⟩
    have hsl : sizeLine = 16777216 := sizeLine_eq
    exact ⟨_, rfl, _, rfl, by rw [hsl]; show 2 ≤ 16777216; decide, fun d hd => ⟨d, _, _, rfl, rolls_two ha hb hd, B, fun c d' H' z => q c d' H' (fun b' o' e' => z _ _ (same_upd hd _ _ e'))⟩⟩
theorem ok_apart_bad {C f fC : Addr} {fd dC : FuncData} (D : IsDef K mg "apart" sApart ["one", "other"] f fd) (DC : IsDef K mg "check_rolls" sCheck ["rolls"] fC dC) (GC : FnOk P w K mg base (CX1 P w C) 2 fC dC ["rolls"] spBad) : FnOk P w K mg base (CX1 P w C) 3 f fd ["one", "other"] spBad2 := by
  refine D.F.ok1 scApart (fun vs H Q E h => ?_) (fun cdv A outer s H vs Q E hr h => ?_)
  · obtain ⟨a, b, xs, ys, rfl, _⟩ := h
    rfl
  · obtain ⟨a, b, xs, ys, rfl, ha, hb, B, q⟩ := h
    refine ⟨_, pss_cons (ps_expr (pe_call GC hr (by rfl) DC.m DC.F.kp DC.b .nil pass1 (pa_cons (pe_lst (pa_cons (pv 0) (pa_cons (pv 1) pa_nil))) pa_nil))) pss_never, ?_⟩
    have hsl : sizeLine = 16777216 := sizeLine_eq
    exact ⟨_, rfl, _, rfl, by rw [hsl]; show 2 ≤ 16777216; decide, fun d hd => ⟨d, _, _, rfl, rolls_two ha hb hd, B, fun c d' H' z => q c d' H' (fun b' o' e' => z _ _ (same_upd hd _ _ e'))⟩⟩
theorem ok_pairs_bad {C f fC : Addr} {fd dC : FuncData} (D : IsDef K mg "pairs" sPairs ["one", "other"] f fd) (DC : IsDef K mg "check_rolls" sCheck ["rolls"] fC dC) (GC : FnOk P w K mg base (CX1 P w C) 2 fC dC ["rolls"] spBad) : FnOk P w K mg base (CX1 P w C) 3 f fd ["one", "other"] spBad2 := by
  refine D.F.ok1 scPairs (fun vs H Q E h => ?_) (fun cdv A outer s H vs Q E hr h => ?_)
  · obtain ⟨a, b, xs, ys, rfl, _⟩ := h
    rfl
  · obtain ⟨a, b, xs, ys, rfl, ha, hb, B, q⟩ := h
    refine ⟨_, pss_cons (ps_expr (pe_call GC hr (by rfl) DC.m DC.F.kp DC.b .nil pass1 (pa_cons (pe_lst (pa_cons (pv 0) (pa_cons (pv 1) pa_nil))) pa_nil))) pss_never, ?_⟩
    have hsl : sizeLine = 16777216 := sizeLine_eq
    exact ⟨_, rfl, _, rfl, by rw [hsl]; show 2 ≤ 16777216; decide, fun d hd => ⟨d, _, _, rfl, rolls_two ha hb hd, B, fun c d' H' z => q c d' H' (fun b' o' e' => z _ _ (same_upd hd _ _ e'))⟩⟩
theorem ok_in_any_bad {C f fC : Addr} {fd dC : FuncData} (D : IsDef K mg "in_any" sInAny ["rolls"] f fd) (DC : IsDef K mg "check_rolls" sCheck ["rolls"] fC dC) (GC : FnOk P w K mg base (CX1 P w C) 2 fC dC ["rolls"] spBad) : FnOk P w K mg base (CX1 P w C) 3 f fd ["rolls"] spBad := by
  refine D.F.ok1 scInAny (fun vs H Q E h => ?_) (fun cdv A outer s H vs Q E hr h => ?_)
  · obtain ⟨a, rs, LL, rfl, _⟩ := h
    rfl
  · obtain ⟨a, rs, LL, rfl, R, B, q⟩ := h
    refine ⟨_, pss_cons (ps_expr (pe_call GC hr (by rfl) DC.m DC.F.kp DC.b .nil pass1 (pa_cons (pv 0) pa_nil))) pss_never, ?_⟩
    exact ⟨_, rfl, a, rs, LL, rfl, R, B, q⟩
theorem ok_in_just_bad {C f fC : Addr} {fd dC : FuncData} (D : IsDef K mg "in_just" sInJust ["rolls", "count"] f fd) (DC : IsDef K mg "check_rolls" sCheck ["rolls"] fC dC) (GC : FnOk P w K mg base (CX1 P w C) 2 fC dC ["rolls"] spBad) : FnOk P w K mg base (CX1 P w C) 3 f fd ["rolls", "count"] spBadK := by
  refine D.F.ok1 scInJust (fun vs H Q E h => ?_) (fun cdv A outer s H vs Q E hr h => ?_)
  · obtain ⟨a, rs, LL, k, rfl, _⟩ := h
    rfl
  · obtain ⟨a, rs, LL, k, rfl, R, B, q⟩ := h
    refine ⟨_, pss_cons (ps_expr (pe_call GC hr (by rfl) DC.m DC.F.kp DC.b .nil pass1 (pa_cons (pv 0) pa_nil))) pss_never, ?_⟩
    exact ⟨_, rfl, a, rs, LL, rfl, R, B, q⟩
theorem ok_shares_bad {C f fC : Addr} {fd dC : FuncData} (D : IsDef K mg "shares" sShares ["rolls"] f fd) (DC : IsDef K mg "check_rolls" sCheck ["rolls"] fC dC) (GC : FnOk P w K mg base (CX1 P w C) 2 fC dC ["rolls"] spBad) : FnOk P w K mg base (CX1 P w C) 3 f fd ["rolls"] spBad := by
  refine D.F.ok1 scShares (fun vs H Q E h => ?_) (fun cdv A outer s H vs Q E hr h => ?_)
  · obtain ⟨a, rs, LL, rfl, _⟩ := h
    rfl
  · obtain ⟨a, rs, LL, rfl, R, B, q⟩ := h
    refine ⟨_, pss_cons (ps_expr (pe_call GC hr (by rfl) DC.m DC.F.kp DC.b .nil pass1 (pa_cons (pv 0) pa_nil))) pss_never, ?_⟩
    exact ⟨_, rfl, a, rs, LL, rfl, R, B, q⟩
theorem ok_in_all_bad {C f fJ : Addr} {fd dJ : FuncData} (D : IsDef K mg "in_all" sInAll ["rolls"] f fd) (T : Txt mg) (DJ : IsDef K mg "in_just" sInJust ["rolls", "count"] fJ dJ) (GJ : FnOk P w K mg base (CX1 P w C) 3 fJ dJ ["rolls", "count"] spBadK) : FnOk P w K mg base (CX1 P w C) 4 f fd ["rolls"] spBad := by
  refine D.F.ok1 scInAll (fun vs H Q E h => ?_) (fun cdv A outer s H vs Q E hr h => ?_)
  · obtain ⟨a, rs, LL, rfl, _⟩ := h
    rfl
  · obtain ⟨a, rs, LL, rfl, R, B, q⟩ := h
    refine ⟨_, pss_one (ps_ret (pe_call GJ hr (by rfl) DJ.m DJ.F.kp DJ.b .nil pass1 (pa_cons (pv 0) (pa_cons (pe_callB call_len_seq (by rfl) T.len bt_len (pa_cons (pv 0) pa_nil)) pa_nil)))), ?_⟩
    exact ⟨_, rfl, _, rfl, a, _, rfl, .inl (sq_of R.tab.head), a, rs, LL, _, rfl, R, B, q⟩
end
end K08
end
section
namespace K08
open PySem L2 CM LB
abbrev sWhole : Stmt := top 41
abbrev sForm : Stmt := top 39
abbrev sSpoilt : Stmt := top 31
section
variable {P : Program} {w : World} {K : PySem.W.Frag} {mg : Str → Option Value} {base : Heap}
def spWhole : Sp := fun vs H Q _ => ∃ i : Int, vs = [.int i] ∧ Q (.bl true) H
theorem scWhole : FnScope ["_law_found"] ["_law_found"] (defScope sWhole) := ⟨rfl, rfl, rfl, by decide +kernel, rfl, by decide +kernel, by decide +kernel⟩
theorem ok_whole {f : Addr} {fd : FuncData} (D : IsDef K mg "_law_whole" sWhole ["_law_found"] f fd) (T : Txt mg) : FnOk P w K mg base CX0 1 f fd ["_law_found"] spWhole := by
  refine D.F.ok scWhole (fun vs H Q E h => ?_) (fun cdv A outer s H vs Q E hr h => ?_)
  · obtain ⟨i, rfl, _⟩ := h
    rfl
  · obtain ⟨i, rfl, q⟩ := h
    refine ⟨_, pss_one (ps_ret (pe_and (pe_callB (call_isinst (T := "int")) (by rfl) T.isi bt_isinstance (pa_cons (pv 0) (pa_cons (pe_ty (by rfl) T.int bt_int) pa_nil))) (pe_one (pe_not (pe_callB (call_isinst (T := "bool")) (by rfl) T.isi bt_isinstance (pa_cons (pv 0) (pa_cons (pe_ty (by rfl) T.bool bt_bool) pa_nil))))))), ?_⟩
    exact ⟨_, rfl, _, _, true, rfl, .int i, rfl, _, rfl, iteT ⟨_, rfl, _, _, false, rfl, .int i, rfl, _, rfl, q⟩⟩
theorem valI_at {ps : List Nat} {i : Nat} {x : V} (h : (valI ps)[i]? = some x) : ∃ p, ps[i]? = some p ∧ x = V.int (p : Int) := by
  unfold valI at h
  rw [List.getElem?_map] at h
  cases e : ps[i]? with
  | none => rw [e] at h; cases h
  | some p => rw [e] at h; exact ⟨p, rfl, (Option.some.inj h).symm⟩
theorem str_at {xs : List Str} {j : Nat} {x : V} (hj : (xs.map V.str)[j]? = some x) : ∃ y, xs[j]? = some y ∧ x = V.str y := by
  rw [List.getElem?_map] at hj
  cases e : xs[j]? with
  | none => rw [e] at hj; cases hj
  | some y => rw [e] at hj; exact ⟨y, rfl, (Option.some.inj hj).symm⟩
theorem flat_texts (xs : List Str) : (xs.map V.str).all flatV = true := by
  rw [List.all_map, List.all_eq_true]
  intro x _
  rfl
def spForm : Sp := fun vs H Q _ => ∃ (t a b : Addr) (ps : List Nat) (ns : List Str), vs = [.ref t] ∧ H t = some (.tup [V.ref a, V.ref b]) ∧ H a = some (.lst (valI ps)) ∧ H b = some (.lst (ns.map V.str)) ∧ ns ≠ [] ∧ ∀ H', Same H H' → Q (.bl true) H'
theorem scForm : FnScope ["_law_part", "_law_place", "_law_name"] ["_law_part"] (defScope sForm) := ⟨rfl, rfl, rfl, by decide +kernel, rfl, by decide +kernel, by decide +kernel⟩
theorem ok_form {f fW : Addr} {fd dW : FuncData} (D : IsDef K mg "_law_form" sForm ["_law_part"] f fd) (T : Txt mg) (DW : IsDef K mg "_law_whole" sWhole ["_law_found"] fW dW) : FnOk P w K mg base CX0 2 f fd ["_law_part"] spForm := by
  have GW : FnOk P w K mg base CX0 1 fW dW ["_law_found"] spWhole := ok_whole DW T
  refine D.F.ok scForm (fun vs H Q E h => ?_) (fun cdv A outer s H vs Q E hr h => ?_)
  · obtain ⟨t, a, b, ps, ns, rfl, _⟩ := h
    rfl
  · obtain ⟨t, a, b, ps, ns, rfl, ht, ha, hb, hn, q⟩ := h
    have hu := hu_of hr
    refine ⟨_, pss_cons (ps_if (pw_or (pt_not (pt_val (pe_callB (call_isinst (T := "tuple")) (by rfl) T.isi bt_isinstance (pa_cons (pv 0) (pa_cons (pe_ty (by rfl) T.tuple bt_tuple) pa_nil))))) (pw_or1 (pt_cmpR op_ne (pe_callB call_len_seq (by rfl) T.len bt_len (pa_cons (pv 0) pa_nil)) pe_int (nomark _)))).pt (pss_one (ps_ret pe_bl)) pss_nil)
      (pss_cons (ps_if (pw_or (pt_not (pt_val (pe_callB (call_isinst (T := "list")) (by rfl) T.isi bt_isinstance (pa_cons (pe_ix ix_tup (pv 0) pe_int (fun _ _ => rfl)) (pa_cons (pe_ty (by rfl) T.list bt_list) pa_nil))))) (pw_or (pt_not (pt_val (pe_callB (call_isinst (T := "list")) (by rfl) T.isi bt_isinstance (pa_cons (pe_ix ix_tup (pv 0) pe_int (fun _ _ => rfl)) (pa_cons (pe_ty (by rfl) T.list bt_list) pa_nil))))) (pw_or1 (pt_cmpR (op_eqL (Nat.lt_of_succ_lt hu)) (pe_ix ix_tup (pv 0) pe_int (fun _ _ => rfl)) (pe_lst pa_nil) (nomark _))))).pt (pss_one (ps_ret pe_bl)) pss_nil)
      (pss_cons (ps_for PassesOwn.never rfl (pi_list (pe_ix ix_tup (pv 0) pe_int (fun _ _ => rfl))) (pg_name (i := 1) scForm.nd rfl (Or.inl rfl)) (pss_one (ps_if (pt_not (pt_val (pe_call GW hr (by rfl) DW.m DW.F.kp DW.b .nil pass0 (pa_cons (pv 1) pa_nil)))) (pss_one (ps_ret pe_bl)) pss_nil)))
      (pss_cons (ps_for PassesOwn.never rfl (pi_list (pe_ix ix_tup (pv 0) pe_int (fun _ _ => rfl))) (pg_name (i := 2) scForm.nd rfl (Or.inl rfl)) (pss_one (ps_if (pt_not (pt_val (pe_callB (call_isinst (T := "str")) (by rfl) T.isi bt_isinstance (pa_cons (pv 2) (pa_cons (pe_ty (by rfl) T.str bt_str) pa_nil))))) (pss_one (ps_ret pe_bl)) pss_nil)))
      (pss_one (ps_ret pe_bl))))), ?_⟩
    have i0 : atI [V.ref a, V.ref b] 0 = some (V.ref a) := rfl
    have i1 : atI [V.ref a, V.ref b] 1 = some (V.ref b) := rfl
    have st : ∀ {H : Hp}, H t = some (.tup [V.ref a, V.ref b]) → SqT K H t [V.ref a, V.ref b] := fun e => .inl (.inl e)
    refine ⟨_, rfl, _, _, true, rfl, .tup ht, rfl, _, rfl, iteF ?_⟩
    refine ⟨_, rfl, t, _, rfl, .inr (st ht), rfl, _, rfl, iteNS rfl ?_⟩
    refine ⟨_, rfl, t, _, _, _, rfl, rfl, st ht, i0, _, _, true, rfl, .lst ha, rfl, _, rfl, iteF ?_⟩
    refine ⟨_, rfl, t, _, _, _, rfl, rfl, st ht, i1, _, _, true, rfl, .lst hb, rfl, _, rfl, iteF ?_⟩
    refine ⟨_, rfl, t, _, _, _, rfl, rfl, st ht, i1, Nat.zero_le _, fun p hp => ?_⟩
    have s1 : Same H (upd H p (.lst [])) := same_upd hp
    refine ⟨b, p, _, _, rfl, rfl, sq_of (s1 _ _ hb), sq_of upd_same, fun z => ?_, _, rfl, ?_⟩
    · exact ⟨flat_texts _, rfl⟩
    have en : eqL (ns.map V.str) [] = false := by
      rw [eqL_nil]
      cases ns with
      | nil => exact absurd rfl hn
      | cons x r => rfl
    rw [en]
    refine iteF ?_
    refine ⟨_, rfl, t, _, _, _, rfl, rfl, st (s1 _ _ ht), i0, a, rfl, ⟨_, sq_of (s1 _ _ ha)⟩, for_list (K := K) (a := a) (xs := valI ps) (fun i σ H' => ∃ o, σ = [some (.ref t), o, none] ∧ H' = upd H p (.lst [])) ⟨none, rfl, rfl⟩ (fun i σ H' _ ⟨_, _, z⟩ => by rw [z]; exact sq_of (s1 _ _ ha)) ?_ ?_⟩
    · rintro i x σ H' hi ⟨o, rfl, rfl⟩
      obtain ⟨n, _, rfl⟩ := valI_at hi
      exact ⟨_, rfl, (n : Int), rfl, _, rfl, iteF ⟨_, rfl, rfl⟩⟩
    · rintro σ H' ⟨o, rfl, rfl⟩
      refine ⟨_, rfl, t, _, _, _, rfl, rfl, st (s1 _ _ ht), i1, b, rfl, ⟨_, sq_of (s1 _ _ hb)⟩, for_list (K := K) (a := b) (xs := ns.map V.str) (fun i σ H' => ∃ o2, σ = [some (.ref t), o, o2] ∧ H' = upd H p (.lst [])) ⟨none, rfl, rfl⟩ (fun i σ H' _ ⟨_, _, z⟩ => by rw [z]; exact sq_of (s1 _ _ hb)) ?_ ?_⟩
      · rintro i x σ H' hi ⟨o2, rfl, rfl⟩
        obtain ⟨y, _, rfl⟩ := str_at hi
        exact ⟨_, rfl, _, _, true, rfl, .str y, rfl, _, rfl, iteF ⟨_, rfl, rfl⟩⟩
      · rintro σ H' ⟨o2, rfl, rfl⟩
        exact q _ s1
theorem swap_bad {xs : List Str} {p : Nat} {x y : Str} (h : Rising xs) (ex : xs[p]? = some x) (ey : xs[p + 1]? = some y) : ¬ Rising (xs.take p ++ [y, x] ++ xs.drop (p + 2)) := fun r => by
  have pl := (List.getElem?_eq_some_iff.mp ex).1
  have lt : (xs.take p).length = p := by rw [List.length_take]; omega
  have e1 : (xs.take p ++ [y, x] ++ xs.drop (p + 2))[p]? = some y := by
    rw [List.append_assoc, List.getElem?_append_right (by omega), lt, Nat.sub_self]
    rfl
  have e2 : (xs.take p ++ [y, x] ++ xs.drop (p + 2))[p + 1]? = some x := by
    rw [List.append_assoc, List.getElem?_append_right (by omega), lt, Nat.add_sub_cancel_left]
    rfl
  exact slt_irrefl _ (slt_trans (h p x y ex ey) (r p y x e1 e2))
theorem dup_bad {xs : List Str} {p : Nat} {x : Str} (ex : xs[p]? = some x) : ¬ Rising (xs.take (p + 1) ++ xs.drop p) := fun r => by
  have pl := (List.getElem?_eq_some_iff.mp ex).1
  have lt : (xs.take (p + 1)).length = p + 1 := by rw [List.length_take]; omega
  have e1 : (xs.take (p + 1) ++ xs.drop p)[p]? = some x := by
    rw [List.getElem?_append_left (by omega), List.getElem?_take_of_lt (by omega)]
    exact ex
  have e2 : (xs.take (p + 1) ++ xs.drop p)[p + 1]? = some x := by
    rw [List.getElem?_append_right (by omega), lt, Nat.sub_self, List.getElem?_drop]
    exact ex
  exact slt_irrefl _ (r p x x e1 e2)
theorem ba_bad : ¬ Rising [("b" : Str), ("a" : Str)] := fun r => absurd (r 0 _ _ rfl rfl) (by decide +kernel)
def spSpoilt : Sp := fun vs H Q _ => ∃ (a : Addr) (xs : List Str) (wy sp : Int), vs = [.ref a, .int wy, .int sp] ∧ H a = some (.lst (xs.map V.str)) ∧ xs.length ≤ 100 ∧ Rising xs ∧
  ∀ (l : Addr) (ys : List Str) (H' : Hp), ¬ Rising ys → ys.length ≤ 102 → (∀ y ∈ ys, y ∈ xs ∨ y = ("a" : Str) ∨ y = ("b" : Str)) → H l = none → H' l = some (.lst (ys.map V.str)) → Same H H' → Q (.ref l) H'
theorem scSpoilt : FnScope ["_law_row", "_law_way", "_law_spot", "_law_place"] ["_law_row", "_law_way", "_law_spot"] (defScope sSpoilt) := ⟨rfl, rfl, rfl, by decide +kernel, rfl, by decide +kernel, by decide +kernel⟩
theorem cut_lo (xs : List Str) {t : Nat} (h : t ≤ xs.length) : cutV (xs.map V.str) none (some (t : Int)) = (xs.take t).map V.str := by rw [cut_to _ (by rw [List.length_map]; exact h), List.map_take]
theorem cut_hi (xs : List Str) {t : Nat} (h : t ≤ xs.length) : cutV (xs.map V.str) (some (t : Int)) none = (xs.drop t).map V.str := by rw [cut_from _ (by rw [List.length_map]; exact h), List.map_drop]
theorem ok_spoilt {f : Addr} {fd : FuncData} (D : IsDef K mg "_law_spoilt" sSpoilt ["_law_row", "_law_way", "_law_spot"] f fd) (T : Txt mg) : FnOk P w K mg base CX0 1 f fd ["_law_row", "_law_way", "_law_spot"] spSpoilt := by
  refine D.F.ok scSpoilt (fun vs H Q E h => ?_) (fun cdv A outer s H vs Q E hr h => ?_)
  · obtain ⟨a, xs, wy, sp, rfl, _⟩ := h
    rfl
  · obtain ⟨a, xs, wy, sp, rfl, ha, lx, rx, q⟩ := h
    have hu := Nat.lt_of_succ_lt (hu_of hr)
    have hsl : sizeLine = 16777216 := sizeLine_eq
    refine ⟨_, pss_cons (ps_if (pt_cmpR (op_eqL hu) (pv 0) (pe_lst pa_nil) (nomark _)) (pss_one (ps_ret (pe_lst (pa_cons pe_str (pa_cons pe_str pa_nil))))) pss_nil)
      (pss_cons (ps_join (ps_if (pw_and (pt_cmpR op_eq (pv 1) pe_int (nomark _)) (pw_and1 (pt_cmpR op_gt (pe_callB call_len_seq (by rfl) T.len bt_len (pa_cons (pv 0) pa_nil)) pe_int (nomark _)))).pt
        (pss_cons (ps_set (i := 3) scSpoilt.nd rfl (Or.inl rfl) (pe_op op_mod (pv 2) (pe_op op_sub (pe_callB call_len_seq (by rfl) T.len bt_len (pa_cons (pv 0) pa_nil)) pe_int)))
        (pss_one (ps_ret (pe_op op_cat (pe_op op_cat (pe_slice sl_list (pv 0) po_none (po_some (pv 3))) (pe_lst (pa_cons (pe_ix ix_list (pv 0) (pe_op op_add (pv 3) pe_int) (fun _ _ => rfl)) (pa_cons (pe_ix ix_list (pv 0) (pv 3) (fun _ _ => rfl)) pa_nil)))) (pe_slice sl_list (pv 0) (po_some (pe_op op_add (pv 3) pe_int)) po_none))))) pss_nil))
      (pss_cons (ps_set (i := 3) scSpoilt.nd rfl (Or.inl rfl) (pe_op op_mod (pv 2) (pe_callB call_len_seq (by rfl) T.len bt_len (pa_cons (pv 0) pa_nil))))
      (pss_one (ps_ret (pe_op op_cat (pe_slice sl_list (pv 0) po_none (po_some (pe_op op_add (pv 3) pe_int))) (pe_slice sl_list (pv 0) (po_some (pv 3)) po_none)))))), ?_⟩
    have la : (xs.map V.str).length = xs.length := List.length_map _
    refine ⟨_, rfl, Nat.zero_le _, fun p hp => ⟨a, p, _, _, rfl, rfl, sq_of (same_upd hp _ _ ha), sq_of upd_same, fun _ => ⟨flat_texts _, rfl⟩, _, rfl, ?_⟩⟩
    have s1 : Same H (upd H p (.lst [])) := same_upd hp
    cases xs with
    | nil =>
      refine iteT ?_
      exact ⟨by show 2 ≤ sizeLine; omega, fun l hl => q l [("b" : Str), ("a" : Str)] _ ba_bad (by decide) (fun y hy => by
        rcases List.mem_cons.mp hy with e | e
        · exact .inr (.inr e)
        · exact .inr (.inl (List.mem_singleton.mp e))) (s1.free hl) upd_same (same_put s1 (s1.free hl))⟩
    | cons x0 xr =>
      refine iteF ?_
      generalize hxs : x0 :: xr = xs at *
      have lp : 1 ≤ xs.length := by rw [← hxs, List.length_cons]; omega
      refine ⟨fun σ' H' => σ' = [some (.ref a), some (.int wy), some (.int sp), none] ∧ Same H H', ?_, ?_⟩
      · refine ⟨_, rfl, rfl, _, rfl, ite2 (fun _ => ?_) (fun _ => iteF ⟨rfl, s1⟩)⟩
        refine ⟨_, rfl, a, _, rfl, .inl (sq_of (s1 _ _ ha)), _, _, rfl, rfl, _, rfl, ite2 (fun h1 => ?_) (fun _ => ⟨rfl, s1⟩)⟩
        have h1 := of_decide_eq_true h1
        rw [la] at h1
        have h0 : (0 : Int) < (xs.length : Int) - 1 := by omega
        have m0 := Int.emod_nonneg sp (Int.ne_of_gt h0)
        have m1 := Int.emod_lt_of_pos sp h0
        obtain ⟨t, et⟩ : ∃ t : Nat, sp % ((xs.length : Int) - 1) = (t : Int) := ⟨_, int_nat m0⟩
        have tl : t + 1 < xs.length := by omega
        obtain ⟨x, ex⟩ := at_len (show t < xs.length by omega)
        obtain ⟨y, ey⟩ := at_len tl
        refine ⟨_, rfl, _, rfl, a, _, rfl, .inl (sq_of (s1 _ _ ha)), _, _, rfl, rfl, _, _, rfl, rfl, by rw [la]; exact h0, ?_⟩
        simp only [la, et]
        refine ⟨_, rfl, _, rfl, _, rfl, a, _, rfl, sq_of (s1 _ _ ha), fun p1 f1 => ?_⟩
        rw [cut_lo xs (by omega)]
        have s2 : Same H (upd (upd H p (.lst [])) p1 (.lst ((xs.take t).map V.str))) := same_put s1 (s1.free f1)
        refine ⟨_, rfl, _, rfl, _, _, rfl, rfl, a, _, _, _, rfl, rfl, sq_of (s2 _ _ ha), ix_map (j := t + 1) (by omega) ey, _, rfl, _, rfl, a, _, _, _, rfl, rfl, sq_of (s2 _ _ ha), ix_map (j := t) rfl ex, by show 2 ≤ sizeLine; omega, fun p2 f2 => ?_⟩
        have n12 : p1 ≠ p2 := ne_of_none upd_same f2
        have s3 := same_put (o := .lst [V.str y, V.str x]) s2 (s2.free f2)
        refine ⟨p1, p2, _, _, rfl, rfl, by rw [upd_ne n12]; exact upd_same, upd_same, by rw [List.length_map, List.length_take]; show min t xs.length + 2 ≤ sizeLine; omega, fun p3 f3 => ?_⟩
        have s4 := same_put (o := .lst ((xs.take t).map V.str ++ [V.str y, V.str x])) s3 (s3.free f3)
        refine ⟨_, rfl, _, rfl, _, _, rfl, rfl, _, rfl, a, _, rfl, sq_of (s4 _ _ ha), fun p4 f4 => ?_⟩
        have n34 : p3 ≠ p4 := ne_of_none upd_same f4
        have e2 : ((t : Int) + 2) = ((t + 2 : Nat) : Int) := by omega
        rw [e2, cut_hi xs (by omega)]
        have s5 := same_put (o := .lst ((xs.drop (t + 2)).map V.str)) s4 (s4.free f4)
        refine ⟨p3, p4, _, _, rfl, rfl, by rw [upd_ne n34]; exact upd_same, upd_same, by rw [List.length_append, List.length_map, List.length_map, List.length_take, List.length_drop]; show min t xs.length + 2 + _ ≤ sizeLine; omega, fun l hl => ?_⟩
        refine q l (xs.take t ++ [y, x] ++ xs.drop (t + 2)) _ (swap_bad rx ex ey) ?_ (fun z hz => .inl ?_) (s5.free hl) ?_ (same_put s5 (s5.free hl))
        · rw [List.length_append, List.length_append, List.length_take, List.length_drop]
          show min t xs.length + 2 + _ ≤ 102
          omega
        · rcases List.mem_append.mp hz with hz | hz
          · rcases List.mem_append.mp hz with hz | hz
            · exact List.mem_of_mem_take hz
            · rcases List.mem_cons.mp hz with rfl | hz
              · exact List.mem_of_getElem? ey
              · rw [List.mem_singleton.mp hz]
                exact List.mem_of_getElem? ex
          · exact List.mem_of_mem_drop hz
        · rw [upd_same, List.map_append, List.map_append]
          rfl
      · rintro σ' H1 ⟨rfl, z1⟩
        have h0 : (0 : Int) < (xs.length : Int) := by omega
        have m0 := Int.emod_nonneg sp (Int.ne_of_gt h0)
        have m1 := Int.emod_lt_of_pos sp h0
        obtain ⟨t, et⟩ : ∃ t : Nat, sp % (xs.length : Int) = (t : Int) := ⟨_, int_nat m0⟩
        have tl : t < xs.length := by omega
        obtain ⟨x, ex⟩ := at_len tl
        refine ⟨_, rfl, _, rfl, a, _, rfl, .inl (sq_of (z1 _ _ ha)), _, _, rfl, rfl, by rw [la]; exact h0, ?_⟩
        simp only [la, et]
        refine ⟨_, rfl, _, rfl, _, _, rfl, rfl, _, rfl, a, _, rfl, sq_of (z1 _ _ ha), fun p1 f1 => ?_⟩
        have e1 : ((t : Int) + 1) = ((t + 1 : Nat) : Int) := by omega
        rw [e1, cut_lo xs (by omega)]
        have s2 := same_put (o := .lst ((xs.take (t + 1)).map V.str)) z1 (z1.free f1)
        refine ⟨_, rfl, _, rfl, _, rfl, a, _, rfl, sq_of (s2 _ _ ha), fun p2 f2 => ?_⟩
        have n12 : p1 ≠ p2 := ne_of_none upd_same f2
        rw [cut_hi xs (by omega)]
        have s3 := same_put (o := .lst ((xs.drop t).map V.str)) s2 (s2.free f2)
        refine ⟨p1, p2, _, _, rfl, rfl, by rw [upd_ne n12]; exact upd_same, upd_same, by rw [List.length_map, List.length_map, List.length_take, List.length_drop]; omega, fun l hl => ?_⟩
        refine q l (xs.take (t + 1) ++ xs.drop t) _ (dup_bad ex) ?_ (fun z hz => .inl ?_) (s3.free hl) ?_ (same_put s3 (s3.free hl))
        · rw [List.length_append, List.length_take, List.length_drop]
          omega
        · rcases List.mem_append.mp hz with hz | hz
          · exact List.mem_of_mem_take hz
          · exact List.mem_of_mem_drop hz
        · rw [upd_same, List.map_append]
end
end K08
end
section
namespace K08
open PySem L2 CM LB
abbrev sWanted : Stmt := top 33
abbrev sToldBy : Stmt := top 34
section
variable {P : Program} {w : World} {K : PySem.W.Frag} {mg : Str → Option Value} {base : Heap}
def spWanted : Sp := fun vs H Q _ => ∃ (way : Nat) (k : Int) (a : Addr) (rs : List Addr) (LL : List (List Str)) (y : Str), vs = [.int way, .ref a, .str y, .int k] ∧ way ≤ 8 ∧ way ≠ 4 ∧ Rolls H a rs LL ∧ 2 ≤ LL.length ∧ LL.length ≤ 1000 ∧ ∀ H', Same H H' → Q (.bl (wantB way LL k y)) H'
abbrev NW : List Str := ["_law_way", "_law_rows", "_law_name", "_law_number", "_law_count", "_law_here", "_law_there"]
theorem scWanted : FnScope NW ["_law_way", "_law_rows", "_law_name", "_law_number"] (defScope sWanted) := ⟨rfl, rfl, rfl, by decide +kernel, rfl, by decide +kernel, by decide +kernel⟩
theorem ok_wanted {f : Addr} {fd : FuncData} (D : IsDef K mg "_law_wanted" sWanted ["_law_way", "_law_rows", "_law_name", "_law_number"] f fd) (T : Txt mg) : FnOk P w K mg base CX0 1 f fd ["_law_way", "_law_rows", "_law_name", "_law_number"] spWanted := by
  refine D.F.ok scWanted (fun vs H Q E h => ?_) (fun cdv A outer s H vs Q E hr h => ?_)
  · obtain ⟨way, k, a, rs, LL, y, rfl, _⟩ := h
    rfl
  · obtain ⟨way, k, a, rs, LL, y, rfl, w8, w4, R, l2, l1000, q⟩ := h
    have hsl : sizeLine = 16777216 := sizeLine_eq
    refine ⟨_, pss_cons (ps_set (i := 4) scWanted.nd rfl (Or.inl rfl) (pe_callB call_len_seq (by rfl) T.len bt_len (pa_cons (pe_comp (j := 0) (tt := tTest (tOp (rIn K false) (tVar 1) (tVar 0))) (te := tVar 0) (N' := ["_law_row", "_law_name"]) (emb := [none, some 2]) rfl
        (pi_list (pv 1)) rfl (by decide +kernel) (by decide +kernel) (free_of ["_law_name"] (by decide +kernel) (all_cons rfl all_nil)) ⟨rfl, .inl rfl, .inl rfl, trivial⟩ rfl (by decide +kernel) rfl rfl
        (fun _ _ _ _ => pts_one (pt_cmpR op_in_seq (pv 1) (pv 0) (by rfl))) (fun _ _ _ _ => pv 0)) pa_nil)))
      (pss_cons (ps_set (i := 5) scWanted.nd rfl (Or.inl rfl) (pe_cmpR op_in_seq (pv 2) (pe_ix ix_list (pv 1) pe_int (fun _ _ => rfl)) (by rfl)))
      (pss_cons (ps_set (i := 6) scWanted.nd rfl (Or.inl rfl) (pe_cmpR op_in_seq (pv 2) (pe_ix ix_list (pv 1) pe_int (fun _ _ => rfl)) (by rfl)))
      (pss_cons (ps_if (pt_cmpR op_eq (pv 0) pe_int (nomark _)) (pss_one (ps_ret (pe_or (pv 5) (pe_one (pv 6))))) pss_nil)
      (pss_cons (ps_if (pt_cmpR op_lt (pv 0) pe_int (nomark _)) (pss_one (ps_ret (pe_ix ix_list (pe_lst (pa_cons (pe_and (pv 5) (pe_one (pv 6))) (pa_cons (pe_and (pv 5) (pe_one (pe_not (pv 6)))) (pa_cons (pe_cmpR op_ne (pv 5) (pv 6) (nomark _)) pa_nil)))) (pe_op op_sub (pv 0) pe_int) (fun _ _ => rfl)))) pss_nil)
      (pss_one (ps_ret (pe_ix ix_list (pe_lst (pa_cons pe_bl (pa_cons (pe_cmpR op_gt (pv 4) pe_int (nomark _)) (pa_cons (pe_cmpR op_eq (pv 4) (pe_callB call_len_seq (by rfl) T.len bt_len (pa_cons (pv 1) pa_nil)) (nomark _)) (pa_cons (pe_cmpR op_eq (pv 4) (pv 3) (nomark _)) (pa_cons pe_bl pa_nil)))))) (pe_op op_sub (pv 0) pe_int) (fun _ _ => rfl)))))))), ?_⟩
    have lr := R.len
    obtain ⟨r0, e0⟩ := at_len (show 0 < rs.length by omega)
    obtain ⟨r1, e1⟩ := at_len (show 1 < rs.length by omega)
    obtain ⟨xs0, x0, h0⟩ := R.at e0
    obtain ⟨xs1, x1, h1⟩ := R.at e1
    have g0 := getD_at x0
    have g1 := getD_at x1
    refine ⟨_, rfl, a, rfl, ⟨_, sq_of R.tab.head⟩, fun e he => ?_⟩
    refine comp_list (K := K) (a := a) (xs := rs.map V.ref) (j := 0) (emb := [none, some 2]) (tt := tTest (tOp (rIn K false) (tVar 1) (tVar 0))) (te := tVar 0) (Q := fun v H1 => ∃ (p : Addr) (ys : List V), [v] = [V.ref p] ∧ (SqL K H1 p ys ∨ SqT K H1 p ys) ∧ gName 4 (V.int ys.length) _ H1 _) (σ := [some (.int way), some (.ref a), some (.str y), some (.int k), none, none, none])
      (fun i ys H4 => ys.length = cnt (LL.take i) y ∧ Same H H4 ∧ H4 e = some (.lst ys)) ⟨rfl, same_upd he, upd_same⟩ (fun i ys H4 _ ⟨_, z, _⟩ => sq_of (z _ _ R.tab.head)) ?_ ?_
    · rintro i x ys H4 hi ⟨z1, z2, z3⟩
      obtain ⟨r, er, rfl⟩ := refs_at hi
      obtain ⟨xs, ex, hx⟩ := R.at er
      have ct := cnt_take ex y
      have il := (List.getElem?_eq_some_iff.mp ex).1
      have cl := cnt_le (LL.take i) y
      rw [List.length_take] at cl
      refine ⟨_, rfl, _, rfl, r, _, rfl, .inl (sq_of (z2 _ _ hx)), rfl, flat_texts _, _, rfl, ?_⟩
      rw [show (if false = true then !inV (V.str y) (xs.map V.str) else inV (V.str y) (xs.map V.str)) = decide (y ∈ xs) from in_strs]
      refine ite2 (fun hb => ?_) (fun hb => ?_)
      · have hb := of_decide_eq_true hb
        refine ⟨_, rfl, z3, by omega, ?_, same_put z2 he, upd_same⟩
        rw [List.length_append, ct, if_pos hb, z1]
        rfl
      · have hb : ¬ y ∈ xs := fun z => hb (decide_eq_true z)
        refine ⟨?_, z2, z3⟩
        rw [ct, if_neg hb, z1]
        rfl
    · rintro ys H4 ⟨z1, z2, z3⟩
      rw [List.length_map, lr, List.take_length] at z1
      refine ⟨e, _, rfl, .inl (sq_of z3), ?_⟩
      refine ⟨_, rfl, _, rfl, a, _, _, _, rfl, rfl, sq_of (z2 _ _ R.tab.head), ix_refs (j := 0) rfl e0, r0, _, rfl, .inl (sq_of (z2 _ _ h0)), rfl, flat_texts _, ?_⟩
      refine ⟨_, rfl, _, rfl, a, _, _, _, rfl, rfl, sq_of (z2 _ _ R.tab.head), ix_refs (j := 1) rfl e1, r1, _, rfl, .inl (sq_of (z2 _ _ h1)), rfl, flat_texts _, ?_⟩
      have d0 : (if false = true then !inV (V.str y) (xs0.map V.str) else inV (V.str y) (xs0.map V.str)) = decide (y ∈ LL.getD 0 []) := by rw [g0]; exact in_strs
      have d1 : (if false = true then !inV (V.str y) (xs1.map V.str) else inV (V.str y) (xs1.map V.str)) = decide (y ∈ LL.getD 1 []) := by rw [g1]; exact in_strs
      simp only [d0, d1, z1]
      have lm : (rs.map V.ref).length = LL.length := by rw [List.length_map, lr]
      have two : ∀ n : Nat, n = 1 ∨ n = 2 ∨ n = 3 → way = n → (∀ (b0 b1 : Bool), decide (y ∈ LL.getD 0 []) = b0 → decide (y ∈ LL.getD 1 []) = b1 → wantB way LL k y = (if n = 1 then b0 && b1 else if n = 2 then b0 && !b1 else b0 != b1)) := fun n hn e b0 b1 h0 h1 => by
        subst e
        rcases hn with rfl | rfl | rfl
        · rw [← h0, ← h1]
          rfl
        · rw [← h0, ← h1]
          rfl
        · rw [← h0, ← h1]
          rfl
      have c4 : decide ((0 : Int) < ((cnt LL y : Nat) : Int)) = decide (0 < cnt LL y) := by
        rw [decide_eq_decide]
        omega
      by_cases c0 : way = 0
      · subst c0
        refine ⟨_, rfl, rfl, _, rfl, ite2 (fun _ => ?_) (fun h => absurd (decide_eq_true rfl) h)⟩
        have qq : Q (.bl (decide (y ∈ LL.getD 0 []) || decide (y ∈ LL.getD 1 []))) H4 := q _ z2
        refine ⟨_, rfl, _, rfl, ?_⟩
        generalize decide (y ∈ LL.getD 0 []) = b0 at *
        cases b0 with
        | true => exact iteT qq
        | false => exact iteF ⟨_, rfl, qq⟩
      refine ⟨_, rfl, rfl, _, rfl, ite2 (fun h => absurd (of_decide_eq_true h) (fun z => c0 (by have := V.int.inj z; omega))) (fun _ => ?_)⟩
      by_cases c3 : way < 4
      · refine ⟨_, rfl, _, _, rfl, rfl, _, rfl, ite2 (fun _ => ?_) (fun h => absurd (decide_eq_true (by omega)) h)⟩
        have w3 : way = 1 ∨ way = 2 ∨ way = 3 := by omega
        have tw := two way w3 rfl _ _ rfl rfl
        rw [tw] at q
        clear two tw
        generalize decide (y ∈ LL.getD 0 []) = b0 at *
        generalize decide (y ∈ LL.getD 1 []) = b1 at *
        have fin : ∀ p, H4 p = none → ∃ (v : V), atI [V.bl (b0 && b1), V.bl (b0 && !b1), V.bl (b0 != b1)] ((way : Int) - 1) = some v ∧ Q v (upd H4 p (.lst [V.bl (b0 && b1), V.bl (b0 && !b1), V.bl (b0 != b1)])) := fun p hp => by
          have qq := q _ (same_put (o := .lst [V.bl (b0 && b1), V.bl (b0 && !b1), V.bl (b0 != b1)]) z2 (z2.free hp))
          rcases w3 with rfl | rfl | rfl
          · exact ⟨_, rfl, qq⟩
          · exact ⟨_, rfl, qq⟩
          · exact ⟨_, rfl, qq⟩
        cases b0 <;> cases b1
        · refine ⟨_, rfl, _, rfl, iteF ⟨_, rfl, _, rfl, iteF ⟨_, rfl, _, rfl, rfl, by show 3 ≤ sizeLine; omega, fun p hp => ?_⟩⟩⟩
          obtain ⟨v, v1, v2⟩ := fin p hp
          exact ⟨_, rfl, _, _, rfl, rfl, p, _, _, v, rfl, rfl, sq_of upd_same, v1, v2⟩
        · refine ⟨_, rfl, _, rfl, iteF ⟨_, rfl, _, rfl, iteF ⟨_, rfl, _, rfl, rfl, by show 3 ≤ sizeLine; omega, fun p hp => ?_⟩⟩⟩
          obtain ⟨v, v1, v2⟩ := fin p hp
          exact ⟨_, rfl, _, _, rfl, rfl, p, _, _, v, rfl, rfl, sq_of upd_same, v1, v2⟩
        · refine ⟨_, rfl, _, rfl, iteT ⟨_, rfl, _, rfl, _, rfl, iteT ⟨_, rfl, _, rfl, _, rfl, _, rfl, rfl, by show 3 ≤ sizeLine; omega, fun p hp => ?_⟩⟩⟩
          obtain ⟨v, v1, v2⟩ := fin p hp
          exact ⟨_, rfl, _, _, rfl, rfl, p, _, _, v, rfl, rfl, sq_of upd_same, v1, v2⟩
        · refine ⟨_, rfl, _, rfl, iteT ⟨_, rfl, _, rfl, _, rfl, iteT ⟨_, rfl, _, rfl, _, rfl, _, rfl, rfl, by show 3 ≤ sizeLine; omega, fun p hp => ?_⟩⟩⟩
          obtain ⟨v, v1, v2⟩ := fin p hp
          exact ⟨_, rfl, _, _, rfl, rfl, p, _, _, v, rfl, rfl, sq_of upd_same, v1, v2⟩
      · refine ⟨_, rfl, _, _, rfl, rfl, _, rfl, ite2 (fun h => absurd (of_decide_eq_true h) (by omega)) (fun _ => ?_)⟩
        refine ⟨_, rfl, _, _, rfl, rfl, _, rfl, _, rfl, a, _, rfl, .inl (sq_of (z2 _ _ R.tab.head)), rfl, _, rfl, _, rfl, rfl, by show 5 ≤ sizeLine; omega, fun p hp => ?_⟩
        have s5 := fun o => q _ (same_put (o := o) z2 (z2.free hp))
        rcases (show way = 5 ∨ way = 6 ∨ way = 7 ∨ way = 8 by omega) with rfl | rfl | rfl | rfl
        · have s5 : ∀ o, Q (.bl (decide (0 < cnt LL y))) (upd H4 p o) := s5
          rw [← c4] at s5
          exact ⟨_, rfl, _, _, rfl, rfl, p, _, _, _, rfl, rfl, sq_of upd_same, rfl, s5 _⟩
        · have s5 : ∀ o, Q (.bl (decide ((cnt LL y : Int) = LL.length))) (upd H4 p o) := s5
          rw [← dec_i, ← lm] at s5
          exact ⟨_, rfl, _, _, rfl, rfl, p, _, _, _, rfl, rfl, sq_of upd_same, rfl, s5 _⟩
        · have s5 : ∀ o, Q (.bl (decide ((cnt LL y : Int) = k))) (upd H4 p o) := s5
          rw [← dec_i] at s5
          exact ⟨_, rfl, _, _, rfl, rfl, p, _, _, _, rfl, rfl, sq_of upd_same, rfl, s5 _⟩
        · exact ⟨_, rfl, _, _, rfl, rfl, p, _, _, _, rfl, rfl, sq_of upd_same, rfl, s5 _⟩
end
end K08
end
section
namespace K08
open PySem L2 CM LB
section
variable {P : Program} {w : World} {K : PySem.W.Frag} {mg : Str → Option Value} {base : Heap}
def spTold : Sp := fun vs H Q _ => ∃ (way : Nat) (k : Int) (a : Addr) (rs : List Addr) (LL : List (List Str)), vs = [.int way, .ref a, .int k] ∧ way ≤ 8 ∧ Rolls H a rs LL ∧ Good LL ∧ 2 ≤ LL.length ∧
  (way = 4 → ∀ (l : Addr) (ts : List Addr) (H' : Hp), PairsAt H' ts (prod (LL.getD 0 []) (LL.getD 1 [])) → H l = none → H' l = some (.lst (ts.map V.ref)) → Same H H' → Q (.ref l) H') ∧
  (way ≠ 4 → ∀ (l : Addr) (zs : List Str) (H' : Hp), Rising zs → (∀ y, y ∈ zs ↔ 0 < cnt LL y ∧ wantB way LL k y = true) → H l = none → H' l = some (.lst (zs.map V.str)) → Same H H' → Q (.ref l) H')
abbrev NTB : List Str := ["_law_way", "_law_rows", "_law_number", "_law_made", "_law_one", "_law_other", "_law_names", "_law_row", "_law_name"]
theorem scToldBy : FnScope NTB ["_law_way", "_law_rows", "_law_number"] (defScope sToldBy) := ⟨rfl, rfl, rfl, by decide +kernel, rfl, by decide +kernel, by decide +kernel⟩
def Has (kvs : List (Key × V)) (f : Str → Prop) : Prop := (∀ i : Int, valV kvs (Sum.inl i) = none) ∧ ∀ y, (valV kvs (Sum.inr y)).isSome = true ↔ f y
theorem Has.put {kvs : List (Key × V)} {f g : Str → Prop} {x : Str} {v : V} (h : Has kvs f) (e : ∀ y, g y ↔ y = x ∨ f y) : Has (putK kvs (Sum.inr x) v) g := by
  refine ⟨fun i => ?_, fun y => ?_⟩
  · rw [valV_put, if_neg (by intro z; cases z)]
    exact h.1 i
  · rw [valV_put, e y]
    by_cases c : y = x
    · rw [if_pos (by rw [c])]
      exact ⟨fun _ => .inl c, fun _ => rfl⟩
    · rw [if_neg (fun z => c (Sum.inr.inj z)), h.2 y]
      exact ⟨.inr, fun z => z.elim (fun z => absurd z c) id⟩
theorem ok_told_by {f fW : Addr} {fd dW : FuncData} (D : IsDef K mg "_law_told_by" sToldBy ["_law_way", "_law_rows", "_law_number"] f fd) (T : Txt mg) (DW : IsDef K mg "_law_wanted" sWanted ["_law_way", "_law_rows", "_law_name", "_law_number"] fW dW) : FnOk P w K mg base CX0 2 f fd ["_law_way", "_law_rows", "_law_number"] spTold := by
  have GW : FnOk P w K mg base CX0 1 fW dW ["_law_way", "_law_rows", "_law_name", "_law_number"] spWanted := ok_wanted DW T
  refine D.F.ok scToldBy (fun vs H Q E h => ?_) (fun cdv A outer s H vs Q E hr h => ?_)
  · obtain ⟨way, k, a, rs, LL, rfl, _⟩ := h
    rfl
  · obtain ⟨way, k, a, rs, LL, rfl, w8, R, ⟨F, F100⟩, l2, q4, qn⟩ := h
    have hsl : sizeLine = 16777216 := sizeLine_eq
    have hu := hu_of hr
    refine ⟨_, pss_cons (ps_if (pt_cmpR op_eq (pv 0) pe_int (nomark _))
        (pss_cons (ps_set (i := 3) scToldBy.nd rfl (Or.inl rfl) (pe_lst pa_nil))
        (pss_cons (ps_for PassesOwn.never rfl (pi_list (pe_ix ix_list (pv 1) pe_int (fun _ _ => rfl))) (pg_name (i := 4) scToldBy.nd rfl (Or.inl rfl)) (pss_one (ps_for PassesOwn.never rfl (pi_list (pe_ix ix_list (pv 1) pe_int (fun _ _ => rfl))) (pg_name (i := 5) scToldBy.nd rfl (Or.inl rfl))
          (pss_one (ps_expr (pe_bm PySem.F.plainAttrs_list PySem.F.slot_list_append PySem.F.type_list_append mt_append (pv 3) (pa_cons (pe_tup (pa_cons (pv 4) (pa_cons (pv 5) pa_nil))) pa_nil)))))))
        (pss_one (ps_ret (pv 3))))) pss_nil)
      (pss_cons (ps_set (i := 6) scToldBy.nd rfl (Or.inl rfl) pe_dnewK)
      (pss_cons (ps_for PassesOwn.never rfl (pi_list (pv 1)) (pg_name (i := 7) scToldBy.nd rfl (Or.inl rfl)) (pss_one (ps_for PassesOwn.never rfl (pi_list (pv 7)) (pg_name (i := 8) scToldBy.nd rfl (Or.inl rfl))
        (pss_one (ps_dput hu (pv 6) (pv 8) pe_bl rfl)))))
      (pss_cons (ps_set (i := 3) scToldBy.nd rfl (Or.inl rfl) (pe_lst pa_nil))
      (pss_cons (ps_for PassesOwn.never rfl (pi_list (pe_callB call_sortedS (by rfl) T.sorted bt_sorted (pa_cons (pe_callTy (call_listD rfl) (by rfl) T.list bt_list (pa_cons (pv 6) pa_nil)) pa_nil))) (pg_name (i := 8) scToldBy.nd rfl (Or.inl rfl))
        (pss_one (ps_if (pt_val (pe_call GW hr (by rfl) DW.m DW.F.kp DW.b .nil pass0 (pa_cons (pv 0) (pa_cons (pv 1) (pa_cons (pv 8) (pa_cons (pv 2) pa_nil)))))) (pss_one (ps_expr (pe_bm PySem.F.plainAttrs_list PySem.F.slot_list_append PySem.F.type_list_append mt_append (pv 3) (pa_cons (pv 8) pa_nil)))) pss_nil)))
      (pss_one (ps_ret (pv 3))))))), ?_⟩
    have lr := R.len
    obtain ⟨r0, e0⟩ := at_len (show 0 < rs.length by omega)
    obtain ⟨r1, e1⟩ := at_len (show 1 < rs.length by omega)
    obtain ⟨xs, x0, h0⟩ := R.at e0
    obtain ⟨ys, x1, h1⟩ := R.at e1
    have g0 := getD_at x0
    have g1 := getD_at x1
    have lx := F100 xs (List.mem_of_getElem? x0)
    have ly := F100 ys (List.mem_of_getElem? x1)
    by_cases c4 : way = 4
    · subst c4
      refine ⟨_, rfl, rfl, _, rfl, ite2 (fun _ => ?_) (fun h => absurd (decide_eq_true rfl) h)⟩
      refine ⟨Nat.zero_le _, fun d hd => ?_⟩
      have s0 : Same H (upd H d (.lst [])) := same_upd hd
      refine ⟨_, rfl, a, _, _, _, rfl, rfl, sq_of (s0 _ _ R.tab.head), ix_refs (j := 0) rfl e0, r0, rfl, ⟨_, sq_of (s0 _ _ h0)⟩, for_list (K := K) (a := r0) (xs := xs.map V.str)
        (fun i σ H' => ∃ (o3 o4 : Option V) (ts : List Addr), σ = [some (.int (4 : Nat)), some (.ref a), some (.int k), some (.ref d), o3, o4, none, none, none] ∧ Same H H' ∧ H' d = some (.lst (ts.map V.ref)) ∧ PairsAt H' ts (prod (xs.take i) ys))
        ⟨none, none, [], rfl, s0, upd_same, ⟨by simp [prod], fun i t p e => by simp at e⟩⟩ (fun i σ H' _ ⟨_, _, _, _, z, _⟩ => sq_of (z _ _ h0)) ?_ ?_⟩
      · rintro i x σ H' hi ⟨o3, o4, ts, rfl, z1, z2, z3⟩
        obtain ⟨y, ey, rfl⟩ := str_at hi
        have il := (List.getElem?_eq_some_iff.mp ey).1
        have et : prod (xs.take (i + 1)) ys = prod (xs.take i) ys ++ ys.map (fun z => (y, z)) := by
          rw [List.take_add_one, ey]
          unfold prod
          rw [List.flatMap_append]
          simp
        refine ⟨_, rfl, a, _, _, _, rfl, rfl, sq_of (z1 _ _ R.tab.head), ix_refs (j := 1) rfl e1, r1, rfl, ⟨_, sq_of (z1 _ _ h1)⟩, for_list (K := K) (a := r1) (xs := ys.map V.str)
          (fun j σ H' => ∃ (o4 : Option V) (ts : List Addr), σ = [some (.int (4 : Nat)), some (.ref a), some (.int k), some (.ref d), some (.str y), o4, none, none, none] ∧ Same H H' ∧ H' d = some (.lst (ts.map V.ref)) ∧ PairsAt H' ts (prod (xs.take i) ys ++ (ys.take j).map (fun z => (y, z))))
          ⟨o4, ts, rfl, z1, z2, by rw [List.take_zero, List.map_nil, List.append_nil]; exact z3⟩ (fun i σ H' _ ⟨_, _, _, z, _⟩ => sq_of (z _ _ h1)) ?_ ?_⟩
        · rintro j x σ H' hj ⟨o4, ts, rfl, z1, z2, z3⟩
          obtain ⟨z, ez, rfl⟩ := str_at hj
          have jl := (List.getElem?_eq_some_iff.mp ez).1
          have tlen : ts.length ≤ 110 * 110 + 110 := by
            rw [z3.len, List.length_append, prod_len, List.length_map]
            have m1 : (xs.take i).length * ys.length ≤ 110 * 110 := Nat.mul_le_mul (by rw [List.length_take]; omega) (by omega)
            have m2 : (ys.take j).length ≤ 110 := by rw [List.length_take]; omega
            omega
          refine ⟨_, rfl, .inl ⟨rfl, _, sq_of z2⟩, _, rfl, _, rfl, by rw [hsl]; show 2 ≤ 16777216; decide, fun t ft => ?_⟩
          have ntd : t ≠ d := fun e => by rw [e, z2] at ft; cases ft
          refine ⟨d, _, _, rfl, rfl, by rw [upd_ne (Ne.symm ntd)]; exact z2, by rw [List.length_map]; omega, ?_⟩
          refine ⟨_, ts ++ [t], rfl, same_put (same_put z1 (z1.free ft)) hd, by rw [upd_same, List.map_append]; rfl, ?_⟩
          have e2 : (ys.take (j + 1)).map (fun z => (y, z)) = (ys.take j).map (fun z => (y, z)) ++ [(y, z)] := by
            rw [List.take_add_one, ez, List.map_append]
            rfl
          rw [e2, ← List.append_assoc]
          exact pairs_snoc (p := (y, z)) z3 ft ntd ⟨_, z2⟩
        · rintro σ H' ⟨o4, ts, rfl, z1, z2, z3⟩
          refine ⟨_, _, ts, rfl, z1, z2, ?_⟩
          rw [List.length_map, List.take_length] at z3
          rw [et]
          exact z3
      · rintro σ H' ⟨o3, o4, ts, rfl, z1, z2, z3⟩
        rw [List.length_map, List.take_length] at z3
        exact ⟨_, rfl, q4 rfl d ts H' (by rw [g0, g1]; exact z3) hd z2 z1⟩
    · refine ⟨_, rfl, rfl, _, rfl, ite2 (fun h => absurd (of_decide_eq_true h) (fun z => c4 (by have := V.int.inj z; omega))) (fun _ => ?_)⟩
      refine fun d hd => ?_
      have s0 : Same H (upd H d (.dK [])) := same_upd hd
      refine ⟨_, rfl, a, rfl, ⟨_, sq_of (s0 _ _ R.tab.head)⟩, for_list (K := K) (a := a) (xs := rs.map V.ref)
        (fun i σ H' => ∃ (o7 o8 : Option V) (kvs : List (Key × V)), σ = [some (.int way), some (.ref a), some (.int k), none, none, none, some (.ref d), o7, o8] ∧ Same H H' ∧ H' d = some (.dK kvs) ∧ kvs.length ≤ i * 1000 ∧ Has kvs (fun y => ∃ xs ∈ LL.take i, y ∈ xs))
        ⟨none, none, [], rfl, s0, upd_same, Nat.zero_le _, fun i => valV_nil, fun y => ⟨fun z => (by cases z), fun ⟨xs, z, _⟩ => by simp at z⟩⟩ (fun i σ H' _ ⟨_, _, _, _, z, _⟩ => sq_of (z _ _ R.tab.head)) ?_ ?_⟩
      · rintro i x σ H' hi ⟨o7, o8, kvs, rfl, z1, z2, z3, z4⟩
        obtain ⟨r, er, rfl⟩ := refs_at hi
        obtain ⟨xs, ex, hx⟩ := R.at er
        have il : i < LL.length := (List.getElem?_eq_some_iff.mp ex).1
        have lx := F100 xs (List.mem_of_getElem? ex)
        have lL := F.1.1
        refine ⟨_, rfl, r, rfl, ⟨_, sq_of (z1 _ _ hx)⟩, for_list (K := K) (a := r) (xs := xs.map V.str)
          (fun j σ H' => ∃ (o8 : Option V) (kvs : List (Key × V)), σ = [some (.int way), some (.ref a), some (.int k), none, none, none, some (.ref d), some (.ref r), o8] ∧ Same H H' ∧ H' d = some (.dK kvs) ∧ kvs.length ≤ i * 1000 + j ∧ Has kvs (fun y => (∃ xs ∈ LL.take i, y ∈ xs) ∨ y ∈ xs.take j))
          ⟨o8, kvs, rfl, z1, z2, z3, z4.1, fun y => by rw [z4.2 y]; simp⟩ (fun j σ H' _ ⟨_, _, _, z, _⟩ => sq_of (z _ _ hx)) ?_ ?_⟩
        · rintro j x σ H' hj ⟨o8, kvs, rfl, z1, z2, z3, z4⟩
          obtain ⟨y, ey, rfl⟩ := str_at hj
          have jl := (List.getElem?_eq_some_iff.mp ey).1
          refine ⟨_, rfl, _, rfl, d, _, rfl, DPut.k (k := Sum.inr y) z2 (by omega), ?_⟩
          refine ⟨_, _, rfl, same_put z1 hd, upd_same, Nat.le_trans (putK_len _ _ _) (by omega), z4.put fun y' => ?_⟩
          rw [List.take_add_one, ey]
          simp
          exact ⟨fun z => z.elim (fun z => .inr (.inl z)) (fun z => z.elim (fun z => .inr (.inr z)) .inl), fun z => z.elim (fun z => .inr (.inr z)) (fun z => z.elim .inl (fun z => .inr (.inl z)))⟩
        · rintro σ H' ⟨o8, kvs, rfl, z1, z2, z3, z4⟩
          rw [List.length_map] at z3 z4
          refine ⟨_, _, kvs, rfl, z1, z2, by rw [Nat.add_mul]; omega, z4.1, fun y => ?_⟩
          rw [z4.2 y, List.take_length, List.take_add_one, ex]
          constructor
          · rintro (⟨zs, hz, hy⟩ | hy)
            · exact ⟨zs, List.mem_append_left _ hz, hy⟩
            · exact ⟨xs, List.mem_append_right _ (List.mem_singleton.mpr rfl), hy⟩
          · rintro ⟨zs, hz, hy⟩
            rcases List.mem_append.mp hz with hz | hz
            · exact .inl ⟨zs, hz, hy⟩
            · rw [List.mem_singleton.mp hz] at hy
              exact .inr hy
      · rintro σ H1 ⟨o7, o8, kvs, rfl, z1, z2, z3, z4⟩
        rw [List.length_map, lr, List.take_length] at z4
        rw [List.length_map] at z3
        have lL := F.1.1
        have l4 : rs.length * 1000 ≤ 1000 * 1000 := Nat.mul_le_mul (by omega) (Nat.le_refl _)
        refine ⟨Nat.zero_le _, fun m hm => ?_⟩
        have fm : H m = none := z1.free hm
        have s2 : Same H (upd H1 m (.lst [])) := same_put z1 fm
        have nmd : d ≠ m := ne_of_none z2 hm
        refine ⟨_, rfl, d, kvs, rfl, by rw [upd_ne nmd]; exact z2, z4.1, fun zs0 l0 n0 m0 lz0 f0 => ?_⟩
        have s3 := same_put (o := .lst (zs0.map V.str)) s2 (s2.free f0)
        have n0m : m ≠ l0 := ne_of_none upd_same f0
        refine ⟨l0, zs0, rfl, sq_of upd_same, F.few n0 fun y hy => cnt_any.mpr ((z4.2 y).mp ((m0 y).mp hy)), fun zs l hp hs fl => ?_⟩
        have nlm : m ≠ l := fun e => by
          rw [← e, upd_ne n0m, upd_same] at fl
          cases fl
        have rz : Rising zs := rising_of_sorted hs (hp.nodup_iff.mpr n0)
        have mz : ∀ y, y ∈ zs ↔ 0 < cnt LL y := fun y => by rw [hp.mem_iff, m0 y, z4.2 y, cnt_any]
        have lz : zs.length ≤ 1000000 := by rw [hp.length_eq, lz0]; omega
        have s4 := same_put (o := .lst (zs.map V.str)) s3 (s3.free fl)
        have hl4 : (upd (upd (upd H1 m (.lst [])) l0 (.lst (zs0.map V.str))) l (.lst (zs.map V.str))) m = some (.lst []) := by rw [upd_ne nlm, upd_ne n0m, upd_same]
        generalize hH5 : upd (upd (upd H1 m (.lst [])) l0 (.lst (zs0.map V.str))) l (.lst (zs.map V.str)) = H5 at *
        have hl5 : H5 l = some (.lst (zs.map V.str)) := by rw [← hH5]; exact upd_same
        refine ⟨l, rfl, ⟨_, sq_of hl5⟩, for_list (K := K) (a := l) (xs := zs.map V.str)
          (fun i σ H' => ∃ (o8 : Option V), σ = [some (.int way), some (.ref a), some (.int k), some (.ref m), none, none, some (.ref d), o7, o8] ∧ Same H H' ∧ H' l = some (.lst (zs.map V.str)) ∧ H' m = some (.lst (((zs.take i).filter fun y => wantB way LL k y).map V.str)))
          ⟨o8, rfl, s4, hl5, hl4⟩ (fun i σ H' _ ⟨_, _, _, z, _⟩ => sq_of z) ?_ ?_⟩
        · rintro i x σ H' hi ⟨o8, rfl, y1, y2, y3⟩
          obtain ⟨y, ey, rfl⟩ := str_at hi
          have il := (List.getElem?_eq_some_iff.mp ey).1
          have fl2 := List.length_filter_le (fun y => wantB way LL k y) (zs.take i)
          rw [List.length_take] at fl2
          have et : (zs.take (i + 1)).filter (fun y => wantB way LL k y) = (zs.take i).filter (fun y => wantB way LL k y) ++ (if wantB way LL k y = true then [y] else []) := by
            rw [List.take_add_one, ey, List.filter_append]
            congr 1
            by_cases c : wantB way LL k y = true <;> simp [c]
          refine ⟨_, rfl, _, rfl, _, rfl, _, rfl, way, k, a, rs, LL, y, rfl, w8, c4, R.same y1, l2, F.1.1, fun H6 y6 => ⟨_, rfl, ite2 (fun hb => ?_) (fun hb => ?_)⟩⟩
          · refine ⟨_, rfl, .inl ⟨rfl, _, sq_of (y6 _ _ y3)⟩, _, rfl, m, _, _, rfl, rfl, y6 _ _ y3, by rw [List.length_map]; omega, ?_⟩
            refine ⟨_, rfl, same_put (y1.trans y6) fm, by rw [upd_ne (Ne.symm nlm)]; exact y6 _ _ y2, ?_⟩
            rw [upd_same, et, if_pos hb, List.map_append]
            rfl
          · refine ⟨_, rfl, y1.trans y6, y6 _ _ y2, ?_⟩
            rw [y6 _ _ y3, et, if_neg hb, List.append_nil]
        · rintro σ H' ⟨o8, rfl, y1, y2, y3⟩
          rw [List.length_map, List.take_length] at y3
          refine ⟨_, rfl, qn c4 m _ H' (rising_of_pw (rz.pw.filter _)) (fun y => ?_) fm y3 y1⟩
          rw [List.mem_filter, mz y]
end
end K08
end
section
namespace K08
open PySem L2 CM LB
abbrev sAsked : Stmt := top 32
abbrev sBase : Stmt := top 35
abbrev sRight : Stmt := top 40
section
variable {P : Program} {w : World} {K : PySem.W.Frag} {mg : Str → Option Value} {base : Heap}
theorem scAsked : FnScope ["_law_way", "_law_rows", "_law_number"] ["_law_way", "_law_rows", "_law_number"] (defScope sAsked) := ⟨rfl, rfl, rfl, by decide +kernel, rfl, by decide +kernel, by decide +kernel⟩
theorem two_cnt {p : Bool → Bool → Bool} (hp : p false false = false) {xs ys : List Str} {y : Str} : p (decide (y ∈ xs)) (decide (y ∈ ys)) = true ↔ 0 < cnt [xs, ys] y ∧ p (decide (y ∈ xs)) (decide (y ∈ ys)) = true := by
  refine ⟨fun h => ⟨cnt_two.mpr ?_, h⟩, fun h => h.2⟩
  by_cases a : y ∈ xs
  · exact .inl a
  · by_cases b : y ∈ ys
    · exact .inr b
    · rw [decide_eq_false a, decide_eq_false b, hp] at h
      cases h
structure Asks (P : Program) (w : World) (K : PySem.W.Frag) (mg : Str → Option Value) (base : Heap) : Prop where
  U : HasFn P w K mg base 4 "union" sUnion ["one", "other"] (spTwo fun x y => x || y)
  B : HasFn P w K mg base 4 "both" sBoth ["one", "other"] (spTwo fun x y => x && y)
  S : HasFn P w K mg base 4 "less" sLess ["one", "other"] (spTwo fun x y => x && !y)
  T : HasFn P w K mg base 4 "apart" sApart ["one", "other"] (spTwo fun x y => x != y)
  R : HasFn P w K mg base 4 "pairs" sPairs ["one", "other"] (spPairs)
  A : HasFn P w K mg base 4 "in_any" sInAny ["rolls"] (spInAny)
  L : HasFn P w K mg base 4 "in_all" sInAll ["rolls"] (spInAll)
  J : HasFn P w K mg base 4 "in_just" sInJust ["rolls", "count"] (spInJust)
  H : HasFn P w K mg base 4 "shares" sShares ["rolls"] (spShares)
structure AsksBad (P : Program) (w : World) (C : Addr) (K : PySem.W.Frag) (mg : Str → Option Value) (base : Heap) : Prop where
  U : HasFn1 P w C K mg base 4 "union" sUnion ["one", "other"] spBad2
  B : HasFn1 P w C K mg base 4 "both" sBoth ["one", "other"] spBad2
  S : HasFn1 P w C K mg base 4 "less" sLess ["one", "other"] spBad2
  T : HasFn1 P w C K mg base 4 "apart" sApart ["one", "other"] spBad2
  R : HasFn1 P w C K mg base 4 "pairs" sPairs ["one", "other"] spBad2
  A : HasFn1 P w C K mg base 4 "in_any" sInAny ["rolls"] spBad
  L : HasFn1 P w C K mg base 4 "in_all" sInAll ["rolls"] spBad
  J : HasFn1 P w C K mg base 4 "in_just" sInJust ["rolls", "count"] spBadK
  H : HasFn1 P w C K mg base 4 "shares" sShares ["rolls"] spBad
theorem ok_asked {f : Addr} {fd : FuncData} (D : IsDef K mg "_law_asked" sAsked ["_law_way", "_law_rows", "_law_number"] f fd) (G : Asks P w K mg base) : FnOk P w K mg base CX0 5 f fd ["_law_way", "_law_rows", "_law_number"] spAskGood := by
  obtain ⟨⟨fU, dU, DU, GU⟩, ⟨fB, dB, DB, GB⟩, ⟨fS, dS, DS, GS⟩, ⟨fT, dT, DT, GT⟩, ⟨fR, dR, DR, GR⟩, ⟨fA, dA, DA, GA⟩, ⟨fL, dL, DL, GL⟩, ⟨fJ, dJ, DJ, GJ⟩, ⟨fH, dH, DH, GH⟩⟩ := G
  refine D.F.ok scAsked (fun vs H Q E h => ?_) (fun cdv A outer s H vs Q E hr h => ?_)
  · obtain ⟨way, k, a, rs, LL, rfl, _⟩ := h
    rfl
  · obtain ⟨way, k, a, rs, LL, rfl, w8, R, ⟨F, F100⟩, l2, w2, q⟩ := h
    refine ⟨_, pss_cons (ps_if (pt_cmpR op_eq (pv 0) pe_int (nomark _)) (pss_one (ps_ret (pe_call GU hr (by rfl) DU.m DU.F.kp DU.b .nil pass0 (pa_cons (pe_ix ix_list (pv 1) pe_int (fun _ _ => rfl)) (pa_cons (pe_ix ix_list (pv 1) pe_int (fun _ _ => rfl)) pa_nil))))) pss_nil)
      (pss_cons (ps_if (pt_cmpR op_eq (pv 0) pe_int (nomark _)) (pss_one (ps_ret (pe_call GB hr (by rfl) DB.m DB.F.kp DB.b .nil pass0 (pa_cons (pe_ix ix_list (pv 1) pe_int (fun _ _ => rfl)) (pa_cons (pe_ix ix_list (pv 1) pe_int (fun _ _ => rfl)) pa_nil))))) pss_nil)
      (pss_cons (ps_if (pt_cmpR op_eq (pv 0) pe_int (nomark _)) (pss_one (ps_ret (pe_call GS hr (by rfl) DS.m DS.F.kp DS.b .nil pass0 (pa_cons (pe_ix ix_list (pv 1) pe_int (fun _ _ => rfl)) (pa_cons (pe_ix ix_list (pv 1) pe_int (fun _ _ => rfl)) pa_nil))))) pss_nil)
      (pss_cons (ps_if (pt_cmpR op_eq (pv 0) pe_int (nomark _)) (pss_one (ps_ret (pe_call GT hr (by rfl) DT.m DT.F.kp DT.b .nil pass0 (pa_cons (pe_ix ix_list (pv 1) pe_int (fun _ _ => rfl)) (pa_cons (pe_ix ix_list (pv 1) pe_int (fun _ _ => rfl)) pa_nil))))) pss_nil)
      (pss_cons (ps_if (pt_cmpR op_eq (pv 0) pe_int (nomark _)) (pss_one (ps_ret (pe_call GR hr (by rfl) DR.m DR.F.kp DR.b .nil pass0 (pa_cons (pe_ix ix_list (pv 1) pe_int (fun _ _ => rfl)) (pa_cons (pe_ix ix_list (pv 1) pe_int (fun _ _ => rfl)) pa_nil))))) pss_nil)
      (pss_cons (ps_if (pt_cmpR op_eq (pv 0) pe_int (nomark _)) (pss_one (ps_ret (pe_call GA hr (by rfl) DA.m DA.F.kp DA.b .nil pass0 (pa_cons (pv 1) pa_nil)))) pss_nil)
      (pss_cons (ps_if (pt_cmpR op_eq (pv 0) pe_int (nomark _)) (pss_one (ps_ret (pe_call GL hr (by rfl) DL.m DL.F.kp DL.b .nil pass0 (pa_cons (pv 1) pa_nil)))) pss_nil)
      (pss_cons (ps_if (pt_cmpR op_eq (pv 0) pe_int (nomark _)) (pss_one (ps_ret (pe_call GJ hr (by rfl) DJ.m DJ.F.kp DJ.b .nil pass0 (pa_cons (pv 1) (pa_cons (pv 2) pa_nil))))) pss_nil)
      (pss_one (ps_ret (pe_call GH hr (by rfl) DH.m DH.F.kp DH.b .nil pass0 (pa_cons (pv 1) pa_nil))))))))))), ?_⟩
    have lr := R.len
    obtain ⟨r0, e0⟩ := at_len (show 0 < rs.length by omega)
    obtain ⟨r1, e1⟩ := at_len (show 1 < rs.length by omega)
    obtain ⟨xs, x0, h0⟩ := R.at e0
    obtain ⟨ys, x1, h1⟩ := R.at e1
    have two : LL.length = 2 → LL = [xs, ys] := fun e => by
      match LL, e, x0, x1 with
      | [a, b], _, x0, x1 =>
        cases x0
        cases x1
        rfl
    have px := F.2 xs (List.mem_of_getElem? x0)
    have py := F.2 ys (List.mem_of_getElem? x1)
    have lx := F100 xs (List.mem_of_getElem? x0)
    have ly := F100 ys (List.mem_of_getElem? x1)
    refine ⟨_, rfl, rfl, _, rfl, ite2 (fun h => ?_) (fun h => ?_)⟩
    · obtain rfl : way = 0 := by have := V.int.inj (of_decide_eq_true h); omega
      obtain rfl := two (w2 (by decide))
      exact ⟨_, rfl, a, _, _, _, rfl, rfl, sq_of R.tab.head, ix_refs (j := 0) rfl e0, _, rfl, a, _, _, _, rfl, rfl, sq_of R.tab.head, ix_refs (j := 1) rfl e1, r0, r1, xs, ys, rfl, h0, h1, px.2, py.2, lx, ly, fun l zs H' rz mz _ hl e => q _ H' e (.inr (.inr ⟨by decide, by decide, l, zs, rfl, hl, rz, fun y => (mz y).trans (two_cnt (p := fun x y => x || y) rfl)⟩))⟩
    have n0 : way ≠ 0 := fun z => h (decide_eq_true (by rw [z]; rfl))
    refine ⟨_, rfl, rfl, _, rfl, ite2 (fun h => ?_) (fun h => ?_)⟩
    · obtain rfl : way = 1 := by have := V.int.inj (of_decide_eq_true h); omega
      obtain rfl := two (w2 (by decide))
      exact ⟨_, rfl, a, _, _, _, rfl, rfl, sq_of R.tab.head, ix_refs (j := 0) rfl e0, _, rfl, a, _, _, _, rfl, rfl, sq_of R.tab.head, ix_refs (j := 1) rfl e1, r0, r1, xs, ys, rfl, h0, h1, px.2, py.2, lx, ly, fun l zs H' rz mz _ hl e => q _ H' e (.inr (.inr ⟨by decide, by decide, l, zs, rfl, hl, rz, fun y => (mz y).trans (two_cnt (p := fun x y => x && y) rfl)⟩))⟩
    have n1 : way ≠ 1 := fun z => h (decide_eq_true (by rw [z]; rfl))
    refine ⟨_, rfl, rfl, _, rfl, ite2 (fun h => ?_) (fun h => ?_)⟩
    · obtain rfl : way = 2 := by have := V.int.inj (of_decide_eq_true h); omega
      obtain rfl := two (w2 (by decide))
      exact ⟨_, rfl, a, _, _, _, rfl, rfl, sq_of R.tab.head, ix_refs (j := 0) rfl e0, _, rfl, a, _, _, _, rfl, rfl, sq_of R.tab.head, ix_refs (j := 1) rfl e1, r0, r1, xs, ys, rfl, h0, h1, px.2, py.2, lx, ly, fun l zs H' rz mz _ hl e => q _ H' e (.inr (.inr ⟨by decide, by decide, l, zs, rfl, hl, rz, fun y => (mz y).trans (two_cnt (p := fun x y => x && !y) rfl)⟩))⟩
    have n2 : way ≠ 2 := fun z => h (decide_eq_true (by rw [z]; rfl))
    refine ⟨_, rfl, rfl, _, rfl, ite2 (fun h => ?_) (fun h => ?_)⟩
    · obtain rfl : way = 3 := by have := V.int.inj (of_decide_eq_true h); omega
      obtain rfl := two (w2 (by decide))
      exact ⟨_, rfl, a, _, _, _, rfl, rfl, sq_of R.tab.head, ix_refs (j := 0) rfl e0, _, rfl, a, _, _, _, rfl, rfl, sq_of R.tab.head, ix_refs (j := 1) rfl e1, r0, r1, xs, ys, rfl, h0, h1, px.2, py.2, lx, ly, fun l zs H' rz mz _ hl e => q _ H' e (.inr (.inr ⟨by decide, by decide, l, zs, rfl, hl, rz, fun y => (mz y).trans (two_cnt (p := fun x y => x != y) rfl)⟩))⟩
    have n3 : way ≠ 3 := fun z => h (decide_eq_true (by rw [z]; rfl))
    refine ⟨_, rfl, rfl, _, rfl, ite2 (fun h => ?_) (fun h => ?_)⟩
    · obtain rfl : way = 4 := by have := V.int.inj (of_decide_eq_true h); omega
      obtain rfl := two (w2 (by decide))
      exact ⟨_, rfl, a, _, _, _, rfl, rfl, sq_of R.tab.head, ix_refs (j := 0) rfl e0, _, rfl, a, _, _, _, rfl, rfl, sq_of R.tab.head, ix_refs (j := 1) rfl e1, r0, r1, xs, ys, rfl, h0, h1, px.2, py.2, by omega, by omega, fun l ts H' pa _ hl e => q _ H' e (.inl ⟨rfl, l, ts, rfl, hl, pa⟩)⟩
    have n4 : way ≠ 4 := fun z => h (decide_eq_true (by rw [z]; rfl))
    refine ⟨_, rfl, rfl, _, rfl, ite2 (fun h => ?_) (fun h => ?_)⟩
    · obtain rfl : way = 5 := by have := V.int.inj (of_decide_eq_true h); omega
      exact ⟨_, rfl, a, rs, LL, rfl, R, F, fun l zs H' rz mz _ hl e => q _ H' e (.inr (.inr ⟨by decide, by decide, l, zs, rfl, hl, rz, fun y => (mz y).trans ⟨fun z => ⟨z, decide_eq_true z⟩, fun z => z.1⟩⟩))⟩
    have n5 : way ≠ 5 := fun z => h (decide_eq_true (by rw [z]; rfl))
    refine ⟨_, rfl, rfl, _, rfl, ite2 (fun h => ?_) (fun h => ?_)⟩
    · obtain rfl : way = 6 := by have := V.int.inj (of_decide_eq_true h); omega
      exact ⟨_, rfl, a, rs, LL, rfl, R, F, fun l zs H' rz mz _ hl e => q _ H' e (.inr (.inr ⟨by decide, by decide, l, zs, rfl, hl, rz, fun y => (mz y).trans ⟨fun z => ⟨z.1, decide_eq_true z.2⟩, fun z => ⟨z.1, of_decide_eq_true z.2⟩⟩⟩))⟩
    have n6 : way ≠ 6 := fun z => h (decide_eq_true (by rw [z]; rfl))
    refine ⟨_, rfl, rfl, _, rfl, ite2 (fun h => ?_) (fun h => ?_)⟩
    · obtain rfl : way = 7 := by have := V.int.inj (of_decide_eq_true h); omega
      exact ⟨_, rfl, _, rfl, a, rs, LL, k, rfl, R, F, fun l zs H' rz mz _ hl e => q _ H' e (.inr (.inr ⟨by decide, by decide, l, zs, rfl, hl, rz, fun y => (mz y).trans ⟨fun z => ⟨z.1, decide_eq_true z.2⟩, fun z => ⟨z.1, of_decide_eq_true z.2⟩⟩⟩))⟩
    have n7 : way ≠ 7 := fun z => h (decide_eq_true (by rw [z]; rfl))
    obtain rfl : way = 8 := by omega
    exact ⟨_, rfl, a, rs, LL, rfl, R, F, fun l ts zs H' rz mz _ hl sh e => q _ H' e (.inr (.inl ⟨rfl, l, ts, zs, rfl, hl, rz, fun y => (mz y).trans cnt_any.symm, sh⟩))⟩
theorem ok_asked_bad {C f : Addr} {fd : FuncData} (D : IsDef K mg "_law_asked" sAsked ["_law_way", "_law_rows", "_law_number"] f fd) (G : AsksBad P w C K mg base) : FnOk P w K mg base (CX1 P w C) 5 f fd ["_law_way", "_law_rows", "_law_number"] spAskBad := by
  obtain ⟨⟨fU, dU, DU, GU⟩, ⟨fB, dB, DB, GB⟩, ⟨fS, dS, DS, GS⟩, ⟨fT, dT, DT, GT⟩, ⟨fR, dR, DR, GR⟩, ⟨fA, dA, DA, GA⟩, ⟨fL, dL, DL, GL⟩, ⟨fJ, dJ, DJ, GJ⟩, ⟨fH, dH, DH, GH⟩⟩ := G
  refine D.F.ok1 scAsked (fun vs H Q E h => ?_) (fun cdv A outer s H vs Q E hr h => ?_)
  · obtain ⟨way, k, a, rs, LL, rfl, _⟩ := h
    rfl
  · obtain ⟨way, k, a, rs, LL, rfl, w8, R, B, l2, w2, q⟩ := h
    refine ⟨_, pss_cons (ps_if (pt_cmpR op_eq (pv 0) pe_int (nomark _)) (pss_one (ps_ret (pe_call GU hr (by rfl) DU.m DU.F.kp DU.b .nil pass1 (pa_cons (pe_ix ix_list (pv 1) pe_int (fun _ _ => rfl)) (pa_cons (pe_ix ix_list (pv 1) pe_int (fun _ _ => rfl)) pa_nil))))) pss_nil)
      (pss_cons (ps_if (pt_cmpR op_eq (pv 0) pe_int (nomark _)) (pss_one (ps_ret (pe_call GB hr (by rfl) DB.m DB.F.kp DB.b .nil pass1 (pa_cons (pe_ix ix_list (pv 1) pe_int (fun _ _ => rfl)) (pa_cons (pe_ix ix_list (pv 1) pe_int (fun _ _ => rfl)) pa_nil))))) pss_nil)
      (pss_cons (ps_if (pt_cmpR op_eq (pv 0) pe_int (nomark _)) (pss_one (ps_ret (pe_call GS hr (by rfl) DS.m DS.F.kp DS.b .nil pass1 (pa_cons (pe_ix ix_list (pv 1) pe_int (fun _ _ => rfl)) (pa_cons (pe_ix ix_list (pv 1) pe_int (fun _ _ => rfl)) pa_nil))))) pss_nil)
      (pss_cons (ps_if (pt_cmpR op_eq (pv 0) pe_int (nomark _)) (pss_one (ps_ret (pe_call GT hr (by rfl) DT.m DT.F.kp DT.b .nil pass1 (pa_cons (pe_ix ix_list (pv 1) pe_int (fun _ _ => rfl)) (pa_cons (pe_ix ix_list (pv 1) pe_int (fun _ _ => rfl)) pa_nil))))) pss_nil)
      (pss_cons (ps_if (pt_cmpR op_eq (pv 0) pe_int (nomark _)) (pss_one (ps_ret (pe_call GR hr (by rfl) DR.m DR.F.kp DR.b .nil pass1 (pa_cons (pe_ix ix_list (pv 1) pe_int (fun _ _ => rfl)) (pa_cons (pe_ix ix_list (pv 1) pe_int (fun _ _ => rfl)) pa_nil))))) pss_nil)
      (pss_cons (ps_if (pt_cmpR op_eq (pv 0) pe_int (nomark _)) (pss_one (ps_ret (pe_call GA hr (by rfl) DA.m DA.F.kp DA.b .nil pass1 (pa_cons (pv 1) pa_nil)))) pss_nil)
      (pss_cons (ps_if (pt_cmpR op_eq (pv 0) pe_int (nomark _)) (pss_one (ps_ret (pe_call GL hr (by rfl) DL.m DL.F.kp DL.b .nil pass1 (pa_cons (pv 1) pa_nil)))) pss_nil)
      (pss_cons (ps_if (pt_cmpR op_eq (pv 0) pe_int (nomark _)) (pss_one (ps_ret (pe_call GJ hr (by rfl) DJ.m DJ.F.kp DJ.b .nil pass1 (pa_cons (pv 1) (pa_cons (pv 2) pa_nil))))) pss_nil)
      (pss_one (ps_ret (pe_call GH hr (by rfl) DH.m DH.F.kp DH.b .nil pass1 (pa_cons (pv 1) pa_nil))))))))))), ?_⟩
    have lr := R.len
    obtain ⟨r0, e0⟩ := at_len (show 0 < rs.length by omega)
    obtain ⟨r1, e1⟩ := at_len (show 1 < rs.length by omega)
    obtain ⟨xs, x0, h0⟩ := R.at e0
    obtain ⟨ys, x1, h1⟩ := R.at e1
    have two : LL.length = 2 → LL = [xs, ys] := fun e => by
      match LL, e, x0, x1 with
      | [a, b], _, x0, x1 =>
        cases x0
        cases x1
        rfl
    refine ⟨_, rfl, rfl, _, rfl, ite2 (fun h => ?_) (fun h => ?_)⟩
    · obtain rfl : way = 0 := by have := V.int.inj (of_decide_eq_true h); omega
      obtain rfl := two (w2 (by decide))
      exact ⟨_, rfl, a, _, _, _, rfl, rfl, sq_of R.tab.head, ix_refs (j := 0) rfl e0, _, rfl, a, _, _, _, rfl, rfl, sq_of R.tab.head, ix_refs (j := 1) rfl e1, r0, r1, xs, ys, rfl, h0, h1, B, q⟩
    have n0 : way ≠ 0 := fun z => h (decide_eq_true (by rw [z]; rfl))
    refine ⟨_, rfl, rfl, _, rfl, ite2 (fun h => ?_) (fun h => ?_)⟩
    · obtain rfl : way = 1 := by have := V.int.inj (of_decide_eq_true h); omega
      obtain rfl := two (w2 (by decide))
      exact ⟨_, rfl, a, _, _, _, rfl, rfl, sq_of R.tab.head, ix_refs (j := 0) rfl e0, _, rfl, a, _, _, _, rfl, rfl, sq_of R.tab.head, ix_refs (j := 1) rfl e1, r0, r1, xs, ys, rfl, h0, h1, B, q⟩
    have n1 : way ≠ 1 := fun z => h (decide_eq_true (by rw [z]; rfl))
    refine ⟨_, rfl, rfl, _, rfl, ite2 (fun h => ?_) (fun h => ?_)⟩
    · obtain rfl : way = 2 := by have := V.int.inj (of_decide_eq_true h); omega
      obtain rfl := two (w2 (by decide))
      exact ⟨_, rfl, a, _, _, _, rfl, rfl, sq_of R.tab.head, ix_refs (j := 0) rfl e0, _, rfl, a, _, _, _, rfl, rfl, sq_of R.tab.head, ix_refs (j := 1) rfl e1, r0, r1, xs, ys, rfl, h0, h1, B, q⟩
    have n2 : way ≠ 2 := fun z => h (decide_eq_true (by rw [z]; rfl))
    refine ⟨_, rfl, rfl, _, rfl, ite2 (fun h => ?_) (fun h => ?_)⟩
    · obtain rfl : way = 3 := by have := V.int.inj (of_decide_eq_true h); omega
      obtain rfl := two (w2 (by decide))
      exact ⟨_, rfl, a, _, _, _, rfl, rfl, sq_of R.tab.head, ix_refs (j := 0) rfl e0, _, rfl, a, _, _, _, rfl, rfl, sq_of R.tab.head, ix_refs (j := 1) rfl e1, r0, r1, xs, ys, rfl, h0, h1, B, q⟩
    have n3 : way ≠ 3 := fun z => h (decide_eq_true (by rw [z]; rfl))
    refine ⟨_, rfl, rfl, _, rfl, ite2 (fun h => ?_) (fun h => ?_)⟩
    · obtain rfl : way = 4 := by have := V.int.inj (of_decide_eq_true h); omega
      obtain rfl := two (w2 (by decide))
      exact ⟨_, rfl, a, _, _, _, rfl, rfl, sq_of R.tab.head, ix_refs (j := 0) rfl e0, _, rfl, a, _, _, _, rfl, rfl, sq_of R.tab.head, ix_refs (j := 1) rfl e1, r0, r1, xs, ys, rfl, h0, h1, B, q⟩
    have n4 : way ≠ 4 := fun z => h (decide_eq_true (by rw [z]; rfl))
    refine ⟨_, rfl, rfl, _, rfl, ite2 (fun h => ?_) (fun h => ?_)⟩
    · obtain rfl : way = 5 := by have := V.int.inj (of_decide_eq_true h); omega
      exact ⟨_, rfl, a, rs, LL, rfl, R, B, q⟩
    have n5 : way ≠ 5 := fun z => h (decide_eq_true (by rw [z]; rfl))
    refine ⟨_, rfl, rfl, _, rfl, ite2 (fun h => ?_) (fun h => ?_)⟩
    · obtain rfl : way = 6 := by have := V.int.inj (of_decide_eq_true h); omega
      exact ⟨_, rfl, a, rs, LL, rfl, R, B, q⟩
    have n6 : way ≠ 6 := fun z => h (decide_eq_true (by rw [z]; rfl))
    refine ⟨_, rfl, rfl, _, rfl, ite2 (fun h => ?_) (fun h => ?_)⟩
    · obtain rfl : way = 7 := by have := V.int.inj (of_decide_eq_true h); omega
      exact ⟨_, rfl, _, rfl, a, rs, LL, k, rfl, R, B, q⟩
    have n7 : way ≠ 7 := fun z => h (decide_eq_true (by rw [z]; rfl))
    obtain rfl : way = 8 := by omega
    exact ⟨_, rfl, a, rs, LL, rfl, R, B, q⟩
def spBase : Sp := fun vs H Q _ => ∃ (a : Addr) (rs : List Addr) (LL : List (List Str)), vs = [.ref a] ∧ Rolls H a rs LL ∧ ((Good LL ∧ ∀ H', Same H H' → Q (.bl false) H') ∨ (Bad LL ∧ ∀ H', Same H H' → Q (.bl true) H'))
theorem scBase : FnScope ["_law_rows", "e"] ["_law_rows"] (defScope sBase) := ⟨rfl, rfl, rfl, by decide +kernel, rfl, by decide +kernel, by decide +kernel⟩
theorem ok_base {C CR f fA : Addr} {fd dA : FuncData} (D : IsDef K mg "_law_base_tells" sBase ["_law_rows"] f fd) (T : Txt mg) (hv : mg "ValueError" = none) (hc : Catch K mg C "RollError" CR) (hsub : PySem.W.subIn K (.ref C) (.type "ValueError") = some true)
    (DA : IsDef K mg "in_any" sInAny ["rolls"] fA dA) (GA : FnOk P w K mg base (CX1 P w C) 4 fA dA ["rolls"] (fun vs H Q E => spInAny vs H Q E ∨ spBad vs H Q E)) : FnOk P w K mg base CX0 5 f fd ["_law_rows"] spBase := by
  refine D.F.ok scBase (fun vs H Q E h => ?_) (fun cdv A outer s H vs Q E hr h => ?_)
  · obtain ⟨a, rs, LL, rfl, _⟩ := h
    rfl
  · obtain ⟨a, rs, LL, rfl, R, h⟩ := h
    refine ⟨_, pss_cons (ps_try2 (i := 1) GA hr (by rfl) DA.m DA.F.kp DA.b (pa_cons (pv 0) pa_nil) (fun _ _ z => z) scBase.nd rfl rfl rfl rfl hc (by rfl) hsub (by rfl) T.isi (by rfl) hv) (pss_one (ps_ret pe_bl)), ?_⟩
    rcases h with ⟨g, q⟩ | ⟨b, q⟩
    · exact ⟨_, rfl, .inl ⟨a, rs, LL, rfl, R, g.1, fun l zs H' _ _ _ _ e => q H' e⟩⟩
    · exact ⟨_, rfl, .inr ⟨a, rs, LL, rfl, R, b, fun _ _ H' e => q H' e⟩⟩
end
end K08
end
section
namespace K08
open PySem L2 CM LB
section
variable {P : Program} {w : World} {K : PySem.W.Frag} {mg : Str → Option Value} {base : Heap}
theorem three_sum {α : Type} : ∀ xs : List α, (xs.map fun _ => 3).sum = 3 * xs.length
  | [] => rfl
  | x :: r => by
    rw [List.map_cons, List.sum_cons, three_sum r, List.length_cons]
    omega
def Due (way : Nat) (LL : List (List Str)) (k : Int) (H : Hp) (v : V) : Prop :=
  (way = 4 ∧ ∃ (l : Addr) (ts : List Addr), v = .ref l ∧ H l = some (.lst (ts.map V.ref)) ∧ PairsAt H ts (prod (LL.getD 0 []) (LL.getD 1 []))) ∨
  (way ≠ 4 ∧ ∃ (l : Addr) (zs : List Str), v = .ref l ∧ H l = some (.lst (zs.map V.str)) ∧ Rising zs ∧ ∀ y, y ∈ zs ↔ 0 < cnt LL y ∧ wantB way LL k y = true)
def spRight : Sp := fun vs H Q _ => ∃ (way : Nat) (k : Int) (LL : List (List Str)) (u v : V), vs = [.int way, u, v] ∧ way ≤ 8 ∧ Good LL ∧ 2 ≤ LL.length ∧ Told way LL k H u ∧ Due way LL k H v ∧ ∀ H', Same H H' → Q (.bl true) H'
abbrev NRN : List Str := ["_law_way", "_law_found", "_law_due", "_law_told", "_law_part"]
theorem scRight : FnScope NRN ["_law_way", "_law_found", "_law_due"] (defScope sRight) := ⟨rfl, rfl, rfl, by decide +kernel, rfl, by decide +kernel, by decide +kernel⟩
theorem all_nd {f : Str → List Nat} {zs : List Str} {G : Grp} (g : GOk f zs G) (nz : zs.Nodup) : (G.flatMap (·.2)).Nodup := by
  unfold List.Nodup
  rw [List.pairwise_flatMap]
  refine ⟨fun p hp => ?_, ?_⟩
  · rw [(g.names p hp).2]
    exact nz.filter _
  · have nd := g.nd
    unfold List.Nodup at nd
    rw [List.pairwise_map] at nd
    refine List.Pairwise.imp_of_mem (fun {p q} hp hq ne x hx y hy e => ?_) nd
    subst e
    exact ne ((g.mem hp hx).2.symm.trans (g.mem hq hy).2)
theorem all_mem {f : Str → List Nat} {zs : List Str} {G : Grp} (g : GOk f zs G) {y : Str} : y ∈ G.flatMap (·.2) ↔ y ∈ zs := by
  rw [List.mem_flatMap]
  constructor
  · rintro ⟨p, hp, hy⟩
    exact (g.mem hp hy).1
  · intro hy
    obtain ⟨p, hp, e⟩ := g.all y hy
    refine ⟨p, hp, ?_⟩
    rw [(g.names p hp).2]
    exact List.mem_filter.mpr ⟨hy, decide_eq_true e.symm⟩
theorem ok_right {f fF fS : Addr} {fd dF dS : FuncData} (D : IsDef K mg "_law_right_names" sRight ["_law_way", "_law_found", "_law_due"] f fd) (T : Txt mg) (DF : IsDef K mg "_law_form" sForm ["_law_part"] fF dF) (GF : FnOk P w K mg base CX0 2 fF dF ["_law_part"] spForm) (DS : IsDef K mg "_law_so" sSo ["_law_found", "_law_due"] fS dS) (GS : FnOk P w K mg base CX0 2 fS dS ["_law_found", "_law_due"] spSo) : FnOk P w K mg base CX0 3 f fd ["_law_way", "_law_found", "_law_due"] spRight := by
  refine D.F.ok scRight (fun vs H Q E h => ?_) (fun cdv A outer s H vs Q E hr h => ?_)
  · obtain ⟨way, k, LL, u, v, rfl, _⟩ := h
    rfl
  · obtain ⟨way, k, LL, u, v, rfl, w8, g, l2, tu, dv, q⟩ := h
    have hsl : sizeLine = 16777216 := sizeLine_eq
    refine ⟨_, pss_cons (ps_if (pt_cmpR op_eq (pv 0) pe_int (nomark _))
        (pss_cons (ps_set (i := 3) scRight.nd rfl (Or.inl rfl) (pe_lst pa_nil))
        (pss_cons (ps_for PassesOwn.never rfl (pi_list (pv 1)) (pg_name (i := 4) scRight.nd rfl (Or.inl rfl))
          (pss_cons (ps_if (pt_not (pt_val (pe_call GF hr (by rfl) DF.m DF.F.kp DF.b .nil pass0 (pa_cons (pv 4) pa_nil)))) (pss_one (ps_ret pe_bl)) pss_nil)
          (pss_one (ps_set (i := 3) scRight.nd rfl (Or.inl rfl) (pe_op op_cat (pv 3) (pe_ix ix_tup (pv 4) pe_int (fun _ _ => rfl)))))))
        (pss_one (ps_set (i := 1) scRight.nd rfl (Or.inl rfl) (pe_callB call_sortedS (by rfl) T.sorted bt_sorted (pa_cons (pv 3) pa_nil)))))) pss_nil)
      (pss_one (ps_ret (pe_call GS hr (by rfl) DS.m DS.F.kp DS.b .nil pass0 (pa_cons (pv 1) (pa_cons (pv 2) pa_nil))))), ?_⟩
    rcases tu with ⟨rfl, l, ts, rfl, hl, pa⟩ | ⟨rfl, l, ts, zs, rfl, hl, rz, mz, sh⟩ | ⟨n4, n8, l, zs, rfl, hl, rz, mz⟩
    · obtain ⟨_, l', ts', rfl, hl', pa'⟩ : (4 : Nat) = 4 ∧ ∃ (l : Addr) (ts : List Addr), v = .ref l ∧ H l = some (.lst (ts.map V.ref)) ∧ PairsAt H ts (prod (LL.getD 0 []) (LL.getD 1 [])) := by
        rcases dv with z | z
        · exact z
        · exact absurd rfl z.1
      refine ⟨_, rfl, rfl, _, rfl, ite2 (fun h => absurd (of_decide_eq_true h) (by decide)) (fun _ => ?_)⟩
      refine ⟨_, rfl, _, rfl, _, _, .twos (prod (LL.getD 0 []) (LL.getD 1 [])), rfl, ⟨l, ts, rfl, hl, pa⟩, ⟨l', ts', rfl, hl', pa'⟩, ?_, q⟩
      obtain ⟨xs, x0⟩ := at_len (show 0 < LL.length by omega)
      obtain ⟨ys, x1⟩ := at_len (show 1 < LL.length by omega)
      have lx := g.2 xs (List.mem_of_getElem? x0)
      have ly := g.2 ys (List.mem_of_getElem? x1)
      rw [getD_at x0, getD_at x1]
      show 1 + ((prod xs ys).map fun _ => 3).sum ≤ 1000000
      rw [three_sum, prod_len]
      have : xs.length * ys.length ≤ 100 * 100 := Nat.mul_le_mul (by omega) (by omega)
      omega
    · obtain ⟨_, l', zs', rfl, hl', rz', mz'⟩ : (8 : Nat) ≠ 4 ∧ ∃ (l : Addr) (zs : List Str), v = .ref l ∧ H l = some (.lst (zs.map V.str)) ∧ Rising zs ∧ ∀ y, y ∈ zs ↔ 0 < cnt LL y ∧ wantB 8 LL k y = true := by
        rcases dv with z | z
        · exact absurd z.1 (by decide)
        · exact z
      have ez : zs' = zs := rising_same rz' rz fun y => by
        rw [mz y, mz' y]
        exact ⟨fun z => z.1, fun z => ⟨z, rfl⟩⟩
      subst ez
      have lz := g.1.few rz'.nodup fun y hy => (mz y).mp hy
      have gok := grp_ok (f := pos LL) rz'
      generalize hG : grp (pos LL) zs' = G at *
      refine ⟨_, rfl, rfl, _, rfl, ite2 (fun _ => ?_) (fun h => absurd (decide_eq_true rfl) h)⟩
      refine ⟨Nat.zero_le _, fun d hd => ?_⟩
      have s0 : Same H (upd H d (.lst [])) := same_upd hd
      refine ⟨_, rfl, l, rfl, ⟨_, sq_of (s0 _ _ hl)⟩, for_list (K := K) (a := l) (xs := ts.map V.ref)
        (fun i σ H' => ∃ (o4 : Option V) (d : Addr), σ = [some (.int (8 : Nat)), some (.ref l), some (.ref l'), some (.ref d), o4] ∧ Same H H' ∧ H' d = some (.lst (((G.take i).flatMap (·.2)).map V.str)))
        ⟨none, d, rfl, s0, upd_same⟩ (fun i σ H' _ ⟨_, _, _, z, _⟩ => sq_of (z _ _ hl)) ?_ ?_⟩
      · rintro i x σ H' hi ⟨o4, d, rfl, z1, z2⟩
        obtain ⟨t, et, rfl⟩ := refs_at hi
        have il := (List.getElem?_eq_some_iff.mp et).1
        obtain ⟨p, ep⟩ := at_len (show i < G.length by rw [← sh.len]; exact il)
        obtain ⟨a, b, b1, b2, b3⟩ := sh.at_ i t p et ep
        have ne := (gok.names p (List.mem_of_getElem? ep)).1
        have ef : (G.take (i + 1)).flatMap (·.2) = (G.take i).flatMap (·.2) ++ p.2 := by
          rw [List.take_add_one, ep, List.flatMap_append]
          simp
        have el : ((G.take i).flatMap (·.2)).length + p.2.length ≤ 100000 := by
          have h1 : (G.flatMap (·.2)).length ≤ zs'.length := nodup_len (all_nd gok rz'.nodup) fun y hy => (all_mem gok).mp hy
          have h2 : G.flatMap (·.2) = (G.take (i + 1)).flatMap (·.2) ++ (G.drop (i + 1)).flatMap (·.2) := by rw [← List.flatMap_append, List.take_append_drop]
          rw [h2, ef, List.length_append, List.length_append] at h1
          omega
        refine ⟨_, rfl, t, a, b, p.1, p.2, rfl, z1 _ _ b1, z1 _ _ b2, z1 _ _ b3, ne, fun H6 y6 => ⟨_, rfl, iteF ?_⟩⟩
        have s6 := z1.trans y6
        refine ⟨_, rfl, _, rfl, t, _, _, _, rfl, rfl, .inl (.inl (s6 _ _ b1)), rfl, d, b, _, _, rfl, rfl, y6 _ _ z2, s6 _ _ b3, by rw [List.length_map, List.length_map]; omega, fun d' hd' => ?_⟩
        refine ⟨_, d', rfl, same_put s6 (s6.free hd'), ?_⟩
        rw [upd_same, ef, List.map_append]
      · rintro σ H1 ⟨o4, d, rfl, z1, z2⟩
        rw [List.length_map, sh.len, List.take_length] at z2
        refine ⟨_, rfl, d, _, rfl, sq_of z2, Nat.lt_of_le_of_lt (nodup_len (all_nd gok rz'.nodup) fun y hy => (all_mem gok).mp hy) lz, fun ws l2 hp hs fl => ?_⟩
        have ew : ws = zs' := rising_same (rising_of_sorted hs (hp.nodup_iff.mpr (all_nd gok rz'.nodup))) rz' fun y => hp.mem_iff.trans (all_mem gok)
        subst ew
        have s2 := same_put (o := .lst (ws.map V.str)) z1 (z1.free fl)
        refine ⟨_, rfl, _, rfl, _, _, .strs ws, rfl, ⟨l2, rfl, upd_same⟩, ⟨l', rfl, s2 _ _ hl'⟩, ?_, fun H' e => q H' (s2.trans e)⟩
        show 1 + ws.length ≤ 1000000
        omega
    · obtain ⟨_, l', zs', rfl, hl', rz', mz'⟩ : way ≠ 4 ∧ ∃ (l : Addr) (zs : List Str), v = .ref l ∧ H l = some (.lst (zs.map V.str)) ∧ Rising zs ∧ ∀ y, y ∈ zs ↔ 0 < cnt LL y ∧ wantB way LL k y = true := by
        rcases dv with z | z
        · exact absurd z.1 n4
        · exact z
      have ez : zs' = zs := rising_same rz' rz fun y => by rw [mz y, mz' y]
      subst ez
      have lz := g.1.few rz'.nodup fun y hy => ((mz y).mp hy).1
      refine ⟨_, rfl, rfl, _, rfl, ite2 (fun h => absurd (of_decide_eq_true h) (fun z => by have := V.int.inj z; omega)) (fun _ => ?_)⟩
      refine ⟨_, rfl, _, rfl, _, _, .strs zs', rfl, ⟨l, rfl, hl⟩, ⟨l', rfl, hl'⟩, ?_, q⟩
      show 1 + zs'.length ≤ 1000000
      omega
end
end K08
end
section
namespace K08
open PySem L2 CM LB
section
variable {P : Program} {w : World} {K : PySem.W.Frag} {mg : Str → Option Value} {base : Heap}
theorem word_small : ∀ (n c : Nat), c ≤ n → ∀ x ∈ word c, x < 16 ^ 8
  | n, 0, _, x, hx => by
    rw [word_zero] at hx
    cases hx
  | 0, c + 1, h, x, hx => absurd h (by omega)
  | n + 1, c + 1, h, x, hx => by
    rw [word_pos (by omega)] at hx
    rcases List.mem_append.mp hx with hx | hx
    · exact word_small n _ (Nat.le_trans (Nat.div_le_self _ _) (by omega)) x hx
    · rw [List.mem_singleton.mp hx]
      have := Nat.mod_lt (c + 1 - 1) (show 0 < 26 by decide)
      have : 97 + 26 < 16 ^ 8 := by decide
      omega
theorem word_short {c : Nat} (h : c + 1 ≤ 2 ^ 210) : Short (wordS c) := by
  have h1 := wordS_short h
  have h2 := StrLaws.reprText_len (wordS c) (fun x hx => word_small c c (Nat.le_refl _) x (by simpa [wordS] using hx))
  show (reprText (wordS c)).length ≤ 3000
  omega
def spDictW : Sp := fun vs H Q _ => ∃ n st : Int, vs = [.int n, .int st] ∧ 0 ≤ n ∧ n ≤ 60 ∧ 1 ≤ st ∧ st ≤ 10 ^ 59 ∧ ∀ (l : Addr) (zs : List Str) (H' : Hp), Rising zs → zs.length = n.toNat → (∀ y ∈ zs, Short y) → H l = none → H' l = some (.lst (zs.map V.str)) → Same H H' → Q (.ref l) H'
theorem ok_dictW {f fP : Addr} {fd dP : FuncData} (D : IsDef K mg "_law_dictionary" sDict ["_law_span", "_law_step"] f fd) (T : Txt mg) (DP : IsDef K mg "_law_spelt" sSpelt ["_law_cell"] fP dP) : FnOk P w K mg base CX0 2 f fd ["_law_span", "_law_step"] spDictW := by
  have GP : FnOk P w K mg base CX0 1 fP dP ["_law_cell"] spSpelt := ok_spelt DP T
  refine D.F.ok scDict (fun vs H Q E h => ?_) (fun cdv A outer s H vs Q E hr h => ?_)
  · obtain ⟨n, st, rfl, _⟩ := h
    rfl
  · obtain ⟨n, st, rfl, n0, n1, s0, s1, q⟩ := h
    refine ⟨_, pss_one (ps_ret (pe_callB call_sortedS (by rfl) T.sorted bt_sorted (pa_cons
      (pe_comp (j := 0) (N' := ["_law_k", "_law_step"]) (emb := [none, some 1]) rfl (pi_range1 (by rfl) T.range (pa_cons (pv 0) pa_nil)) rfl (by decide +kernel) (by decide +kernel) (free_of ["_law_step"] (by decide +kernel) (all_cons rfl all_nil)) ⟨rfl, .inl rfl, .inl rfl, trivial⟩ rfl (by decide +kernel) rfl rfl (fun _ _ _ _ => pts_nil)
        (fun _ _ _ _ => pe_call GP hr (by rfl) DP.m DP.F.kp DP.b .nil pass0 (pa_cons (pe_op op_mul (pv 0) (pv 1)) pa_nil))) pa_nil))), ?_⟩
    refine ⟨_, rfl, n, rfl, by omega, by omega, fun d hd => ?_⟩
    refine comp_range (lo := 0) (n := n.toNat) (j := 0) (emb := [none, some 1]) (tt := tAlways) (Q := fun v H1 => ∃ p ys, [v] = [V.ref p] ∧ SqL K H1 p (ys.map V.str) ∧ ys.length < 64 ∧ ∀ (zs : List Str) (l : Addr), zs.Perm ys → PyProof.Rows.sortedS zs = true → H1 l = none → Q (V.ref l) (upd H1 l (HO.lst (zs.map V.str))))
      (fun i ys H3 => ∃ xs : List Str, ys = xs.map V.str ∧ xs = (List.range i).map (fun k : Nat => wordS ((k : Int) * st + 1).toNat) ∧ Same H H3 ∧ H3 d = some (.lst ys)) ⟨[], rfl, rfl, same_upd hd, upd_same⟩ ?_ ?_
    · rintro i ys H3 hi ⟨xs, rfl, ex, z1, z3⟩
      refine always ?_
      obtain ⟨w1, w2⟩ := big_word (m := (i : Int)) (by omega) (by omega) s0 s1
      have hxl : xs.length = i := by rw [ex]; simp
      have hsl : sizeLine = 16777216 := sizeLine_eq
      refine ⟨_, rfl, _, rfl, _, _, rfl, rfl, .inl ⟨by omega, by omega⟩, _, rfl, by rw [Int.zero_add]; exact w1, by rw [Int.zero_add]; exact w2, z3, by rw [List.length_map]; omega, ?_⟩
      refine ⟨xs ++ [_], by rw [List.map_append]; rfl, ?_, same_put z1 hd, upd_same⟩
      rw [List.range_succ, List.map_append, ex, Int.zero_add]
      rfl
    · rintro ys H3 ⟨xs, rfl, ex, z1, z3⟩
      refine ⟨d, xs, rfl, sq_of z3, by rw [ex, List.length_map, List.length_range]; omega, fun zs l hp hs hl => ?_⟩
      have nd : xs.Nodup := by
        rw [ex]
        refine List.Pairwise.map _ (fun a b hab e => hab ?_) List.nodup_range
        have e1 := wordS_inj e
        have a0 : 0 ≤ (a : Int) * st := Int.mul_nonneg (by omega) (by omega)
        have b0 : 0 ≤ (b : Int) * st := Int.mul_nonneg (by omega) (by omega)
        have e2 : (a : Int) * st = (b : Int) * st := by omega
        exact Int.ofNat.inj (Int.eq_of_mul_eq_mul_right (by omega) e2)
      have hxl : xs.length = n.toNat := by rw [ex]; simp
      have hl' : H l = none := by
        cases e : H l with
        | none => rfl
        | some o => rw [z1 _ _ e] at hl; cases hl
      refine q l zs _ (rising_of_sorted hs (hp.nodup_iff.mpr nd)) (by rw [hp.length_eq, hxl]) (fun y hy => ?_) hl' upd_same (same_put z1 hl')
      have my := hp.mem_iff.mp hy
      rw [ex] at my
      obtain ⟨k, hk, rfl⟩ := List.mem_map.mp my
      have hk := List.mem_range.mp hk
      exact word_short (big_word (m := (k : Int)) (by omega) (by omega) s0 s1).2
abbrev NL : List Str := ["_law_script", "_law_way", "_law_span", "_law_count", "_law_menu", "_law_rows", "_law_number", "_law_spoil", "_law_place", "_law_handed", "_law_refused", "_law_found"]
theorem scL : FnScope NL ["_law_script"] (defScope sLaw) := ⟨rfl, rfl, rfl, by decide +kernel, rfl, by decide +kernel, by decide +kernel⟩
structure Fns (P : Program) (w : World) (C : Addr) (K : PySem.W.Frag) (mg : Str → Option Value) (base : Heap) : Prop where
  A : HasFn P w K mg base 5 "_law_at" sAt ["_law_script", "_law_k"] (spAt K)
  S : HasFn P w K mg base 5 "_law_stride" sStride ["_law_script"] (spStride K)
  D : HasFn P w K mg base 5 "_law_dictionary" sDict ["_law_span", "_law_step"] spDictW
  M : HasFn P w K mg base 5 "_law_marked" sMark ["_law_cells", "_law_count", "_law_span"] (spMark K)
  L : HasFn P w K mg base 5 "_law_laid" sLaid ["_law_marks", "_law_menu"] spLaid
  R : HasFn P w K mg base 5 "_law_all_same" sAllSame ["_law_found", "_law_due"] spAllSame
  Cp : HasFn P w K mg base 5 "_law_copies" sCopies ["_law_rows"] spCopies
  O : HasFn P w K mg base 5 "_law_room" sRoom ["_law_script", "_law_most", "_law_bound"] (spRoom K)
  Y : HasFn P w K mg base 5 "_law_any" sAny ["_law_cell"] spAny
  Sp : HasFn P w K mg base 5 "_law_spoilt" sSpoilt ["_law_row", "_law_way", "_law_spot"] spSpoilt
  B : HasFn P w K mg base 5 "_law_base_tells" sBase ["_law_rows"] spBase
  W : HasFn P w K mg base 5 "_law_told_by" sToldBy ["_law_way", "_law_rows", "_law_number"] spTold
  N : HasFn P w K mg base 5 "_law_right_names" sRight ["_law_way", "_law_found", "_law_due"] spRight
  Ka : ∃ (f : Addr) (fd : FuncData), IsDef K mg "_law_asked" sAsked ["_law_way", "_law_rows", "_law_number"] f fd ∧ FnOk P w K mg base (CX1 P w C) 5 f fd ["_law_way", "_law_rows", "_law_number"] (fun vs H Q E => spAskGood vs H Q E ∨ spAskBad vs H Q E)
theorem rolls_set {H : Hp} {b p : Addr} {rs : List Addr} {LL : List (List Str)} {ys : List Str} {j : Nat} (R : Rolls H b rs LL) (nb : b ∉ rs) (hp : H p = some (.lst (ys.map V.str))) (np : p ≠ b) (hj : j < LL.length) :
    Rolls (upd H b (.lst ((rs.set j p).map V.ref))) b (rs.set j p) (LL.set j ys) ∧ b ∉ rs.set j p := by
  refine ⟨⟨⟨upd_same, fun i r e => ?_⟩, by rw [List.length_set, List.length_set, R.len]⟩, fun m => ?_⟩
  · by_cases c : j = i
    · subst c
      rw [List.getElem?_set_self (by rw [R.len]; exact hj)] at e
      cases e
      rw [upd_ne np, hp, getD_at (xs := ys) (List.getElem?_set_self hj)]
    · rw [List.getElem?_set_ne c] at e
      have nr : r ≠ b := fun z => nb (by rw [← z]; exact List.mem_of_getElem? e)
      have := R.tab.row i r e
      rw [upd_ne nr, this]
      congr 3
      rw [List.getD_eq_getElem?_getD, List.getD_eq_getElem?_getD, List.getElem?_set_ne c]
  · rcases List.mem_or_eq_of_mem_set m with m | m
    · exact nb m
    · exact np m.symm
theorem told_mono {way : Nat} {LL : List (List Str)} {k : Int} {H H' : Hp} {v : V} (h : Told way LL k H v) (e : Same H H') : Told way LL k H' v := by
  rcases h with ⟨h1, l, ts, h2, h3, h4⟩ | ⟨h1, l, ts, zs, h2, h3, h4, h5, h6⟩ | ⟨h1, h2, l, zs, h3, h4, h5, h6⟩
  · exact .inl ⟨h1, l, ts, h2, e _ _ h3, h4.len, fun i t p e1 e2 => e _ _ (h4.at_ i t p e1 e2)⟩
  · exact .inr (.inl ⟨h1, l, ts, zs, h2, e _ _ h3, h4, h5, h6.mono e⟩)
  · exact .inr (.inr ⟨h1, h2, l, zs, h3, e _ _ h4, h5, h6⟩)
theorem told_list {way : Nat} {LL : List (List Str)} {k : Int} {H : Hp} {v : V} (h : Told way LL k H v) : ∃ l xs, v = .ref l ∧ H l = some (.lst xs) := by
  rcases h with ⟨_, l, ts, h2, h3, _⟩ | ⟨_, l, ts, zs, h2, h3, _⟩ | ⟨_, _, l, zs, h3, h4, _⟩
  · exact ⟨l, _, h2, h3⟩
  · exact ⟨l, _, h2, h3⟩
  · exact ⟨l, _, h3, h4⟩
theorem short_ab : Short ("a" : Str) ∧ Short ("b" : Str) := by
  unfold Short
  decide +kernel
structure Laid (W : List Str) (H0 H : Hp) (b : Addr) (rs : List Addr) (LL : List (List Str)) (ct : Nat) : Prop where
  same : Same H0 H
  fb : H0 b = none
  nb : b ∉ rs
  rolls : Rolls H b rs LL
  len : LL.length = ct
  all : ∀ xs ∈ LL, Rising xs ∧ xs.length ≤ 12 ∧ ∀ y ∈ xs, Short y ∧ y ∈ W
theorem Laid.mono {W : List Str} {H0 H H' : Hp} {b : Addr} {rs : List Addr} {LL : List (List Str)} {ct : Nat} (L : Laid W H0 H b rs LL ct) (e : Same H H') : Laid W H0 H' b rs LL ct := ⟨L.same.trans e, L.fb, L.nb, L.rolls.same e, L.len, L.all⟩
theorem ok_law {Cx f : Addr} {fd : FuncData} (D : IsDef K mg "law" sLaw ["_law_script"] f fd) (T : Txt mg) (hc : Catch K mg Cx "NoRoll" Cx) (G : Fns P w Cx K mg base) : FnOk P w K mg base CX0 6 f fd ["_law_script"] (spLaw K) := by
  obtain ⟨⟨fA, dA, DA, GA⟩, ⟨fS, dS, DS, GS⟩, ⟨fD, dD, DD, GD⟩, ⟨fM, dM, DM, GM⟩, ⟨fL, dL, DL, GL⟩, ⟨fR, dR, DR, GR⟩, ⟨fC, dC, DC, GC⟩, ⟨fO, dO, DO, GO⟩, ⟨fY, dY, DY, GY⟩, ⟨fP, dP, DP, GP⟩, ⟨fB, dB, DB, GB⟩, ⟨fW, dW, DW, GW⟩, ⟨fN, dN, DN, GN⟩, ⟨fK, dK, DK, GK⟩⟩ := G
  refine D.F.ok scL (fun vs H Q E h => ?_) (fun cdv A outer s H vs Q E hr h => ?_)
  · obtain ⟨a, ns, rfl, _⟩ := h
    rfl
  · obtain ⟨a, ns, rfl, hS, hlen, kk⟩ := h
    refine ⟨_, pss_cons (ps_set (i := 1) scL.nd rfl (Or.inl rfl) (pe_op op_mod (pe_call GA hr (by rfl) DA.m DA.F.kp DA.b .nil pass0 (pa_cons (pv 0) (pa_cons pe_int pa_nil))) pe_int))
      (pss_cons (ps_set (i := 2) scL.nd rfl (Or.inl rfl) (pe_op op_add pe_int (pe_op op_mod (pe_call GA hr (by rfl) DA.m DA.F.kp DA.b .nil pass0 (pa_cons (pv 0) (pa_cons pe_int pa_nil))) (pe_call GO hr (by rfl) DO.m DO.F.kp DO.b .nil pass0 (pa_cons (pv 0) (pa_cons pe_int (pa_cons pe_int pa_nil)))))))
      (pss_cons (ps_set (i := 3) scL.nd rfl (Or.inl rfl) pe_int)
      (pss_cons (ps_join (ps_if (pt_cmpR op_eq (pv 1) pe_int (nomark _)) (pss_one (ps_set (i := 2) scL.nd rfl (Or.inl rfl) (pe_callB (call_min2 rfl) (by rfl) T.min bt_min (pa_cons (pv 2) (pa_cons pe_int pa_nil))))) pss_nil))
      (pss_cons (ps_join (ps_if (pt_cmpR op_gt (pv 1) pe_int (nomark _)) (pss_one (ps_set (i := 3) scL.nd rfl (Or.inl rfl) (pe_op op_add pe_int (pe_op op_mod (pe_op op_fdiv (pe_call GA hr (by rfl) DA.m DA.F.kp DA.b .nil pass0 (pa_cons (pv 0) (pa_cons pe_int pa_nil))) pe_int) (pe_call GO hr (by rfl) DO.m DO.F.kp DO.b .nil pass0 (pa_cons (pv 0) (pa_cons pe_int (pa_cons pe_int pa_nil)))))))) pss_nil))
      (pss_cons (ps_set (i := 4) scL.nd rfl (Or.inl rfl) (pe_call GD hr (by rfl) DD.m DD.F.kp DD.b .nil pass0 (pa_cons (pv 2) (pa_cons (pe_call GS hr (by rfl) DS.m DS.F.kp DS.b .nil pass0 (pa_cons (pv 0) pa_nil)) pa_nil))))
      (pss_cons (ps_set (i := 5) scL.nd rfl (Or.inl rfl) (pe_call GL hr (by rfl) DL.m DL.F.kp DL.b .nil pass0 (pa_cons (pe_call GM hr (by rfl) DM.m DM.F.kp DM.b .nil pass0 (pa_cons (pe_slice sl_list (pv 0) (po_some pe_int) po_none) (pa_cons (pv 3) (pa_cons (pv 2) pa_nil)))) (pa_cons (pv 4) pa_nil))))
      (pss_cons (ps_join (ps_if (pt_cmpR op_eq (pe_op op_mod (pe_op op_add (pe_call GA hr (by rfl) DA.m DA.F.kp DA.b .nil pass0 (pa_cons (pv 0) (pa_cons pe_int pa_nil))) (pe_call GA hr (by rfl) DA.m DA.F.kp DA.b .nil pass0 (pa_cons (pv 0) (pa_cons pe_int pa_nil)))) pe_int) pe_int (nomark _)) (pss_one (ps_asg (pe_lst pa_nil) (pg_sub (pv 5) pe_int set_list))) pss_nil))
      (pss_cons (ps_set (i := 6) scL.nd rfl (Or.inl rfl) (pe_op op_sub (pe_op op_mod (pe_op op_add (pe_op op_fdiv (pe_call GA hr (by rfl) DA.m DA.F.kp DA.b .nil pass0 (pa_cons (pv 0) (pa_cons pe_int pa_nil))) pe_int) (pe_call GA hr (by rfl) DA.m DA.F.kp DA.b .nil pass0 (pa_cons (pv 0) (pa_cons pe_int pa_nil)))) (pe_op op_add (pv 3) pe_int)) pe_int))
      (pss_cons (ps_join (ps_if (pt_cmpR op_eq (pe_op op_mod (pe_op op_fdiv (pe_call GA hr (by rfl) DA.m DA.F.kp DA.b .nil pass0 (pa_cons (pv 0) (pa_cons pe_int pa_nil))) pe_int) pe_int) pe_int (nomark _)) (pss_one (ps_set (i := 6) scL.nd rfl (Or.inl rfl) (pe_call GY hr (by rfl) DY.m DY.F.kp DY.b .nil pass0 (pa_cons (pe_call GA hr (by rfl) DA.m DA.F.kp DA.b .nil pass0 (pa_cons (pv 0) (pa_cons pe_int pa_nil))) pa_nil)))) pss_nil))
      (pss_cons (ps_set (i := 7) scL.nd rfl (Or.inl rfl) (pe_op op_mod (pe_call GA hr (by rfl) DA.m DA.F.kp DA.b .nil pass0 (pa_cons (pv 0) (pa_cons pe_int pa_nil))) pe_int))
      (pss_cons (ps_set (i := 8) scL.nd rfl (Or.inl rfl) (pe_op op_mod (pe_op op_fdiv (pe_call GA hr (by rfl) DA.m DA.F.kp DA.b .nil pass0 (pa_cons (pv 0) (pa_cons pe_int pa_nil))) pe_int) (pv 3)))
      (pss_cons (ps_join (ps_if (pt_cmpR op_lt (pv 7) pe_int (nomark _)) (pss_one (ps_asg (pe_call GP hr (by rfl) DP.m DP.F.kp DP.b .nil pass0 (pa_cons (pe_ix ix_list (pv 5) (pv 8) (fun _ _ => rfl)) (pa_cons (pv 7) (pa_cons (pe_call GA hr (by rfl) DA.m DA.F.kp DA.b .nil pass0 (pa_cons (pv 0) (pa_cons pe_int pa_nil))) pa_nil)))) (pg_sub (pv 5) (pv 8) set_list))) pss_nil))
      (pss_cons (ps_set (i := 9) scL.nd rfl (Or.inl rfl) (pe_call GC hr (by rfl) DC.m DC.F.kp DC.b .nil pass0 (pa_cons (pv 5) pa_nil)))
      (pss_cons (ps_set (i := 10) scL.nd rfl (Or.inl rfl) pe_bl)
      (pss_cons (ps_set (i := 11) scL.nd rfl (Or.inl rfl) pe_non)
      (pss_cons (ps_try1 (i := 11) GK hr (by rfl) DK.m DK.F.kp DK.b (pa_cons (pv 1) (pa_cons (pv 9) (pa_cons (pv 6) pa_nil))) (fun _ _ z => z) scL.nd rfl (Or.inl rfl) rfl rfl hc (by rfl) (fun ea => pss_one (ps_set (i := 10) scL.nd rfl (Or.inl rfl) pe_bl)))
      (pss_cons (ps_if (pt_cmpR op_ne (pe_call GB hr (by rfl) DB.m DB.F.kp DB.b .nil pass0 (pa_cons (pv 9) pa_nil)) (pv 10) (nomark _)) (pss_one (ps_ret pe_bl)) pss_nil)
      (pss_cons (ps_if (pw_or (pt_cmpR op_ne (pv 10) (pe_cmpR op_lt (pv 7) pe_int (nomark _)) (nomark _)) (pw_or1 (pt_not (pt_val (pe_call GR hr (by rfl) DR.m DR.F.kp DR.b .nil pass0 (pa_cons (pv 9) (pa_cons (pv 5) pa_nil))))))).pt (pss_one (ps_ret pe_bl)) pss_nil)
      (pss_cons (ps_if (pt_val (pv 10)) (pss_one (ps_ret pe_bl)) pss_nil)
      (pss_cons (ps_if (pt_not (pt_val (pe_callB (call_isinst (T := "list")) (by rfl) T.isi bt_isinstance (pa_cons (pv 11) (pa_cons (pe_ty (by rfl) T.list bt_list) pa_nil))))) (pss_one (ps_ret pe_bl)) pss_nil)
      (pss_one (ps_ret (pe_call GN hr (by rfl) DN.m DN.F.kp DN.b .nil pass0 (pa_cons (pv 1) (pa_cons (pv 11) (pa_cons (pe_call GW hr (by rfl) DW.m DW.F.kp DW.b .nil pass0 (pa_cons (pv 1) (pa_cons (pv 5) (pa_cons (pv 6) pa_nil)))) pa_nil)))))))))))))))))))))))))), ?_⟩
    have hsl : sizeLine = 16777216 := sizeLine_eq
    refine ⟨_, rfl, a, 0, ns, rfl, hS, _, _, rfl, rfl, (by show (0 : Int) < 9; decide), ?_⟩
    have w0 : 0 ≤ ns.getD 0 0 % 9 := Int.emod_nonneg _ (by omega)
    have w1 : ns.getD 0 0 % 9 < 9 := Int.emod_lt_of_pos _ (by omega)
    obtain ⟨way, ew⟩ : ∃ way : Nat, ns.getD 0 0 % 9 = (way : Int) := ⟨_, int_nat w0⟩
    have w8 : way ≤ 8 := by omega
    simp only [ew]
    refine ⟨_, rfl, a, 1, ns, rfl, hS, _, rfl, a, ns, _, _, rfl, hS, hlen, _, _, rfl, rfl, (by show (0 : Int) < 12; decide), _, _, rfl, rfl, ?_⟩
    have s1 : 0 ≤ ns.getD 1 0 % 12 := Int.emod_nonneg _ (by omega)
    have s2 : ns.getD 1 0 % 12 < 12 := Int.emod_lt_of_pos _ (by omega)
    obtain ⟨span, es⟩ : ∃ span : Nat, 1 + ns.getD 1 0 % 12 = (span : Int) := ⟨_, int_nat (by omega)⟩
    have sp1 : 1 ≤ span := by omega
    have sp2 : span ≤ 12 := by omega
    simp only [es]
    refine ⟨fun σ' H' => σ' = [some (.ref a), some (.int way), some (.int span), some (.int 2), none, none, none, none, none, none, none, none] ∧ H' = H, ?_, ?_⟩
    · refine ⟨_, rfl, rfl, _, rfl, ite2 (fun _ => ?_) (fun _ => ⟨rfl, rfl⟩)⟩
      refine ⟨_, rfl, _, _, rfl, ?_, rfl⟩
      have em : (if (100 : Int) < (span : Int) then (100 : Int) else (span : Int)) = (span : Int) := if_neg (by omega)
      show [some (V.ref a), some (V.int way), some (V.int (if (100 : Int) < (span : Int) then (100 : Int) else (span : Int))), some (V.int 2), none, none, none, none, none, none, none, none] = _
      rw [em]
    rintro σ' H' ⟨rfl, rfl⟩
    refine ⟨fun σ' H1 => ∃ ct : Nat, σ' = [some (.ref a), some (.int way), some (.int span), some (.int ct), none, none, none, none, none, none, none, none] ∧ H1 = H' ∧ 2 ≤ ct ∧ ct ≤ 12 ∧ (way ≤ 4 → ct = 2), ?_, ?_⟩
    · refine ⟨_, rfl, _, _, rfl, rfl, _, rfl, ite2 (fun h4 => ?_) (fun _ => ⟨2, rfl, rfl, by omega, by omega, fun _ => rfl⟩)⟩
      have h4 := of_decide_eq_true h4
      refine ⟨_, rfl, a, 1, ns, rfl, hS, _, _, rfl, rfl, ⟨by decide, by decide⟩, _, rfl, a, ns, _, _, rfl, hS, hlen, _, _, rfl, rfl, (by show (0 : Int) < 11; decide), _, _, rfl, rfl, ?_⟩
      have c1 : 0 ≤ ns.getD 1 0 / 12 % 11 := Int.emod_nonneg _ (by omega)
      have c2 : ns.getD 1 0 / 12 % 11 < 11 := Int.emod_lt_of_pos _ (by omega)
      obtain ⟨ct, ec⟩ : ∃ ct : Nat, 2 + ns.getD 1 0 / 12 % 11 = (ct : Int) := ⟨_, int_nat (by omega)⟩
      refine ⟨ct, ?_, rfl, by omega, by omega, fun z => by omega⟩
      rw [← ec]
      rfl
    rintro σ' H0 ⟨ct, rfl, rfl, ct2, ct12, ctw⟩
    refine ⟨_, rfl, _, rfl, a, ns, rfl, hS, fun st H1 st1 st2 e1 => ?_⟩
    refine ⟨_, _, rfl, by omega, by omega, st1, st2, fun m zs H2 rz lz shz fm hm e2 => ?_⟩
    have lz' : span = zs.length := by omega
    subst lz'
    have S2 := e2.seq (e1.seq hS)
    obtain ⟨cells, ecl, lc⟩ := cut_ints ns (some 3) none
    refine ⟨_, rfl, _, rfl, a, _, rfl, S2, fun p hp => ?_⟩
    refine ⟨_, rfl, _, rfl, p, cells, ct, zs.length, rfl, by rw [ecl]; exact sq_of upd_same, by omega, by omega, by omega, by omega, fun l0 rs0 H3 nl0 hl0 tl0 e3 => ?_⟩
    have e3' : Same H2 H3 := (same_upd hp).trans e3
    refine ⟨_, rfl, l0, m, rs0, _, zs, rfl, tl0, by omega, e3' _ _ hm, by omega, fun b qs H4 nb hb tb e4 => ?_⟩
    generalize grid cells ct zs.length cells.length = g at tb
    have e03 : Same H0 H3 := (e1.trans e2).trans e3'
    have laid : Laid zs H0 H4 b qs ((List.range qs.length).map fun p => pick (g p) zs zs.length) ct := by
      refine ⟨e03.trans e4, e03.free nb.head, ?_, Rolls.of tb, by rw [List.length_map, List.length_range]; omega, fun xs hx => ?_⟩
      · exact (List.nodup_cons.mp nb.nd).1
      · obtain ⟨p, _, rfl⟩ := List.mem_map.mp hx
        refine ⟨pick_rises rz, Nat.le_trans (pick_len _ _ _) sp2, fun y hy => ?_⟩
        obtain ⟨k, _, _, ek⟩ := pick_mem.mp hy
        exact ⟨shz y (List.mem_of_getElem? ek), List.mem_of_getElem? ek⟩
    generalize ((List.range qs.length).map fun p => pick (g p) zs zs.length) = LL at laid
    have S4 := laid.same.seq hS
    refine ⟨fun σ' H' => ∃ (rs : List Addr) (LL : List (List Str)), σ' = [some (.ref a), some (.int way), some (.int zs.length), some (.int ct), some (.ref m), some (.ref b), none, none, none, none, none, none] ∧ Laid zs H0 H' b rs LL ct, ?_, ?_⟩
    · refine ⟨_, rfl, a, 1, ns, rfl, S4, _, rfl, a, 2, ns, rfl, S4, _, _, rfl, rfl, _, _, rfl, rfl, (by show (0 : Int) < 4; decide), rfl, _, rfl, ite2 (fun _ => ?_) (fun _ => ⟨qs, LL, rfl, laid⟩)⟩
      refine ⟨Nat.zero_le _, fun p hp => ?_⟩
      have ll := laid.len
      have lr := laid.rolls.len
      have np : p ≠ b := (ne_of_none laid.rolls.tab.head hp).symm
      have u1 := same_upd (o := .lst []) hp
      refine ⟨_, rfl, b, _, 0, 0, rfl, rfl, u1 _ _ laid.rolls.tab.head, ixN_nat (j := 0) (by rw [List.length_map]; omega), ?_⟩
      rw [← List.map_set]
      obtain ⟨r1, r2⟩ := rolls_set (j := 0) (ys := []) (laid.rolls.same u1) laid.nb upd_same np (by omega)
      refine ⟨qs.set 0 p, LL.set 0 [], rfl, same_put (laid.same.trans u1) laid.fb, laid.fb, r2, r1, by rw [List.length_set]; exact ll, fun xs hx => ?_⟩
      rcases List.mem_or_eq_of_mem_set hx with hx | rfl
      · exact laid.all xs hx
      · exact ⟨fun j x y e1 _ => by simp at e1, Nat.zero_le _, fun y hy => by cases hy⟩
    rintro σ' H5 ⟨rs, LL, rfl, laid⟩
    have S5 := laid.same.seq hS
    refine ⟨_, rfl, a, 0, ns, rfl, S5, _, _, rfl, rfl, ⟨by decide, by decide⟩, _, rfl, a, 2, ns, rfl, S5, _, _, rfl, rfl, _, rfl, _, _, rfl, rfl, _, _, rfl, rfl, (by show (0 : Int) < (ct : Int) + 3; omega), _, _, rfl, rfl, ?_⟩
    generalize (ns.getD 0 0 / 9 + ns.getD 2 0) % ((ct : Int) + 3) - 1 = num0
    refine ⟨fun σ' H' => ∃ num : Int, σ' = [some (.ref a), some (.int way), some (.int zs.length), some (.int ct), some (.ref m), some (.ref b), some (.int num), none, none, none, none, none] ∧ Laid zs H0 H' b rs LL ct, ?_, ?_⟩
    · refine ⟨_, rfl, a, 0, ns, rfl, S5, _, _, rfl, rfl, ⟨by decide, by decide⟩, _, _, rfl, rfl, (by show (0 : Int) < 7; decide), rfl, _, rfl, ite2 (fun _ => ?_) (fun _ => ⟨_, rfl, laid⟩)⟩
      exact ⟨_, rfl, a, 2, ns, rfl, S5, _, rfl, fun r H' _ _ e => ⟨r, rfl, laid.mono e⟩⟩
    rintro σ' H6 ⟨num, rfl, laid⟩
    have S6 := laid.same.seq hS
    refine ⟨_, rfl, a, 2, ns, rfl, S6, _, _, rfl, rfl, (by show (0 : Int) < 3; decide), ?_⟩
    have p1 : 0 ≤ ns.getD 2 0 % 3 := Int.emod_nonneg _ (by omega)
    have p2 : ns.getD 2 0 % 3 < 3 := Int.emod_lt_of_pos _ (by omega)
    obtain ⟨spl, esp⟩ : ∃ spl : Nat, ns.getD 2 0 % 3 = (spl : Int) := ⟨_, int_nat p1⟩
    simp only [esp]
    refine ⟨_, rfl, a, 2, ns, rfl, S6, _, _, rfl, rfl, ⟨by decide, by decide⟩, _, rfl, _, _, rfl, rfl, (by show (0 : Int) < (ct : Int); omega), ?_⟩
    have p3 : 0 ≤ ns.getD 2 0 / 3 % (ct : Int) := Int.emod_nonneg _ (by omega)
    have p4 : ns.getD 2 0 / 3 % (ct : Int) < ct := Int.emod_lt_of_pos _ (by omega)
    obtain ⟨pl, epl⟩ : ∃ pl : Nat, ns.getD 2 0 / 3 % (ct : Int) = (pl : Int) := ⟨_, int_nat p3⟩
    simp only [epl]
    have ll := laid.len
    have lr := laid.rolls.len
    refine ⟨fun σ' H' => ∃ (rs : List Addr) (LL : List (List Str)), σ' = [some (.ref a), some (.int way), some (.int zs.length), some (.int ct), some (.ref m), some (.ref b), some (.int num), some (.int spl), some (.int pl), none, none, none] ∧ Same H0 H' ∧ Rolls H' b rs LL ∧ LL.length = ct ∧ (∀ xs ∈ LL, xs.length ≤ 1000) ∧ ((spl = 2 ∧ Good LL) ∨ (spl < 2 ∧ Bad LL)), ?_, ?_⟩
    · refine ⟨_, rfl, _, _, rfl, rfl, _, rfl, ite2 (fun h2 => ?_) (fun h2 => ?_)⟩
      · have h2 := of_decide_eq_true h2
        obtain ⟨r, er⟩ := at_len (show pl < rs.length by omega)
        obtain ⟨xs, ex, hx⟩ := laid.rolls.at er
        obtain ⟨ax1, ax2, ax3⟩ := laid.all xs (List.mem_of_getElem? ex)
        refine ⟨_, rfl, _, rfl, b, _, _, _, rfl, rfl, sq_of laid.rolls.tab.head, ix_refs (j := pl) rfl er, _, rfl, _, rfl, a, 3, ns, rfl, S6, r, xs, _, _, rfl, hx, by omega, ax1, fun l ys H7 nr ly my fl hl e7 => ?_⟩
        have np : l ≠ b := (ne_of_none laid.rolls.tab.head fl).symm
        refine ⟨_, rfl, _, rfl, b, _, _, pl, rfl, rfl, e7 _ _ laid.rolls.tab.head, ixN_nat (by rw [List.length_map]; omega), ?_⟩
        rw [← List.map_set]
        obtain ⟨r1, r2⟩ := rolls_set (j := pl) (ys := ys) (laid.rolls.same e7) laid.nb hl np (by omega)
        have sy : ∀ y ∈ ys, Short y := fun y hy => by
          rcases my y hy with h | h | h
          · exact (ax3 y h).1
          · rw [h]; exact short_ab.1
          · rw [h]; exact short_ab.2
        have al : ∀ xs ∈ LL.set pl ys, xs.length ≤ 1000 ∧ ∀ y ∈ xs, Short y := fun zs' hz => by
          rcases List.mem_or_eq_of_mem_set hz with hz | rfl
          · have := laid.all zs' hz
            exact ⟨by omega, fun y hy => (this.2.2 y hy).1⟩
          · exact ⟨by omega, sy⟩
        refine ⟨rs.set pl l, LL.set pl ys, rfl, same_put (laid.same.trans e7) laid.fb, r1, by rw [List.length_set]; exact ll, fun zs' hz => (al zs' hz).1, .inr ⟨by omega, by rw [List.length_set]; omega, al, ys, ?_, nr⟩⟩
        exact List.mem_of_getElem? (List.getElem?_set_self (by omega))
      · have h2 : ¬ (spl : Int) < 2 := fun z => h2 (decide_eq_true z)
        refine ⟨rs, LL, rfl, laid.same, laid.rolls, ll, fun xs hx => by have := laid.all xs hx; omega, .inl ⟨by omega, ⟨⟨by omega, zs, by omega, fun y hy => ?_⟩, fun xs hx => ?_⟩, fun xs hx => ?_⟩⟩
        · obtain ⟨xs, hx, h⟩ := cnt_any.mp hy
          exact ((laid.all xs hx).2.2 y h).2
        · have := laid.all xs hx
          exact ⟨by omega, this.1⟩
        · have := laid.all xs hx
          omega
    clear laid ll lr
    rintro σ' H7 ⟨rs, LL, rfl, s7, R, ll, lx, gb⟩
    have lr := R.len
    refine ⟨_, rfl, b, rs, _, rfl, R.tab, by omega, fun c qs2 H8 nc hc8 tc e8 => ?_⟩
    have Rc : Rolls H8 c qs2 LL := ⟨tc, by omega⟩
    have Rb := R.same e8
    have l2 : 2 ≤ LL.length := by omega
    have lw : way ≤ 4 → LL.length = 2 := fun z => by rw [ll]; exact ctw z
    have lens : ∀ p, (LL.getD p []).length ≤ 100000 := fun p => by
      by_cases q : p < LL.length
      · obtain ⟨xs, ex⟩ := at_len q
        rw [getD_at ex]
        have := lx xs (List.mem_of_getElem? ex)
        omega
      · rw [List.getD_eq_getElem?_getD, List.getElem?_eq_none (by omega)]
        exact Nat.zero_le _
    rcases gb with ⟨e2, good⟩ | ⟨e2, bad⟩
    · subst e2
      refine ⟨_, rfl, _, rfl, _, rfl, .inl ⟨way, num, c, qs2, LL, rfl, w8, Rc, good, l2, lw, fun v H9 e9 told => ?_⟩⟩
      refine ⟨_, rfl, c, qs2, LL, rfl, Rc.same e9, .inl ⟨good, fun H10 e10 => ⟨_, rfl, rfl, _, rfl, iteNS rfl ?_⟩⟩⟩
      have e810 := e9.trans e10
      refine ⟨_, rfl, _, rfl, _, _, rfl, rfl, rfl, _, rfl, iteNS (by decide) ?_⟩
      refine ⟨_, rfl, _, rfl, c, b, qs2, rs, _, _, rfl, (Rc.same e810).tab, (Rb.same e810).tab, lens, by omega, fun r' hr' => ?_⟩
      have er : r' = true := hr'.mpr ⟨by omega, fun _ _ => rfl⟩
      subst er
      refine ⟨_, rfl, iteF ?_⟩
      refine ⟨_, rfl, _, rfl, iteF ?_⟩
      have told10 := told_mono told e10
      obtain ⟨lf, xf, ev, hlf⟩ := told_list told10
      subst ev
      refine ⟨_, rfl, _, _, true, rfl, .lst hlf, rfl, _, rfl, iteF ?_⟩
      refine ⟨_, rfl, _, rfl, _, rfl, _, rfl, _, rfl, way, num, b, rs, LL, rfl, w8, Rb.same e810, good, l2, fun w4 l ts H11 pa fl hl e11 => ?_, fun w4 l zs2 H11 rz2 mz2 fl hl e11 => ?_⟩
      · exact ⟨way, num, LL, _, _, rfl, w8, good, l2, told_mono told10 e11, .inl ⟨w4, l, ts, rfl, hl, pa⟩, fun _ _ => kk _⟩
      · exact ⟨way, num, LL, _, _, rfl, w8, good, l2, told_mono told10 e11, .inr ⟨w4, l, zs2, rfl, hl, rz2, mz2⟩, fun _ _ => kk _⟩
    · refine ⟨_, rfl, _, rfl, _, rfl, .inr ⟨way, num, c, qs2, LL, rfl, w8, Rc, bad, l2, lw, fun _ _ H9 e9 => ?_⟩⟩
      refine ⟨_, rfl, c, qs2, LL, rfl, Rc.same e9, .inr ⟨bad, fun H10 e10 => ⟨_, rfl, rfl, _, rfl, iteNS rfl ?_⟩⟩⟩
      have e810 := e9.trans e10
      refine ⟨_, rfl, _, rfl, _, _, rfl, rfl, rfl, _, rfl, iteNS (by show V.bl true = V.bl (decide ((spl : Int) < 2)); rw [decide_eq_true (show (spl : Int) < 2 by omega)]) ?_⟩
      refine ⟨_, rfl, _, rfl, c, b, qs2, rs, _, _, rfl, (Rc.same e810).tab, (Rb.same e810).tab, lens, by omega, fun r' hr' => ?_⟩
      have er : r' = true := hr'.mpr ⟨by omega, fun _ _ => rfl⟩
      subst er
      refine ⟨_, rfl, iteF ?_⟩
      exact ⟨_, rfl, _, rfl, iteT (kk _)⟩
end
end K08
end
section
namespace K08
open PySem L2 CM LB
theorem len1 {α : Type} : ∀ {us : List α}, us.length = 1 → ∃ a, us = [a]
  | [a], _ => ⟨a, rfl⟩
theorem len2 {α : Type} : ∀ {us : List α}, us.length = 2 → ∃ a b, us = [a, b]
  | [a, b], _ => ⟨a, b, rfl⟩
theorem len3 {α : Type} : ∀ {us : List α}, us.length = 3 → ∃ a b c, us = [a, b, c]
  | [a, b, c], _ => ⟨a, b, c, rfl⟩
theorem len4 {α : Type} : ∀ {us : List α}, us.length = 4 → ∃ a b c d, us = [a, b, c, d]
  | [a, b, c, d], _ => ⟨a, b, c, d, rfl⟩
theorem all_mk {l : PySem.W.OpenLaw} {w : World} {K : PySem.W.Frag} {h : Heap} {mg : Str → Option Value} {fa f1 f2 f3 f4 f5 f6 f7 f8 f9 f10 f11 f12 f13 f14 f15 f16 f17 f18 f19 f20 f21 f22 f23 f24 f25 f26 f27 f28 f29 f30 f31 f32 f33 f34 : Addr} (X : K.In h) (G : h.Ns mainGlobals mg) (hfa : mg "law" = some (.ref fa))
    {od1 an1 od2 an2 od3 an3 od4 an4 od5 an5 od6 an6 od7 an7 od8 an8 od9 an9 od10 an10 od11 an11 od12 an12 od13 an13 od14 an14 od15 an15 od16 an16 od17 an17 od18 an18 od19 an19 od20 an20 od21 an21 od22 an22 od23 an23 od24 an24 od25 an25 od26 an26 od27 an27 od28 an28 od29 an29 od30 an30 od31 an31 od32 an32 od33 an33 od34 an34 : Option Addr} {sl1 sl2 sl3 sl4 sl5 sl6 sl7 sl8 sl9 sl10 sl11 sl12 sl13 sl14 sl15 sl16 sl17 sl18 sl19 sl20 sl21 sl22 sl23 sl24 sl25 sl26 sl27 sl28 sl29 sl30 sl31 sl32 sl33 sl34 : Array (Option Value)}
    {oc1 kV1 dc1 pm1 cd1 ct1 oc2 kV2 dc2 pm2 cd2 ct2 oc3 kV3 dc3 pm3 cd3 ct3 oc4 kV4 dc4 pm4 cd4 ct4 oc5 kV5 dc5 pm5 cd5 ct5 oc6 kV6 dc6 pm6 cd6 ct6 oc7 kV7 dc7 pm7 cd7 ct7 oc8 kV8 dc8 pm8 cd8 ct8 oc9 kV9 dc9 pm9 cd9 ct9 oc10 kV10 dc10 pm10 cd10 ct10 oc11 kV11 dc11 pm11 cd11 ct11 oc12 kV12 dc12 pm12 cd12 ct12 oc13 kV13 dc13 pm13 cd13 ct13 oc14 kV14 dc14 pm14 cd14 ct14 oc15 kV15 dc15 pm15 cd15 ct15 oc16 kV16 dc16 pm16 cd16 ct16 oc17 kV17 dc17 pm17 cd17 ct17 oc18 kV18 dc18 pm18 cd18 ct18 oc19 kV19 dc19 pm19 cd19 ct19 oc20 kV20 dc20 pm20 cd20 ct20 oc21 kV21 dc21 pm21 cd21 ct21 oc22 kV22 dc22 pm22 cd22 ct22 oc23 kV23 dc23 pm23 cd23 ct23 oc24 kV24 dc24 pm24 cd24 ct24 oc25 kV25 dc25 pm25 cd25 ct25 oc26 kV26 dc26 pm26 cd26 ct26 oc27 kV27 dc27 pm27 cd27 ct27 oc28 kV28 dc28 pm28 cd28 ct28 oc29 kV29 dc29 pm29 cd29 ct29 oc30 kV30 dc30 pm30 cd30 ct30 oc31 kV31 dc31 pm31 cd31 ct31 oc32 kV32 dc32 pm32 cd32 ct32 oc33 kV33 dc33 pm33 cd33 ct33 oc34 kV34 dc34 pm34 cd34 ct34 : Value}
    (a1 : PySem.W.nsIn K mainGlobals "is_roll" = some (some (.ref f1))) (l1 : K.lookup f1 = some ⟨oc1, od1, .func (PySem.W.fnOf "is_roll" "is_roll" (defArgs sIsRoll) (defBody sIsRoll) (defScope sIsRoll) .none kV1 dc1 pm1 an1 cd1 ct1), sl1⟩) (c1 : PySem.W.codeIn K cd1 "is_roll" = true) (k1 : PySem.W.keepIn K (.ref f1) = true)
    (a2 : PySem.W.nsIn K mainGlobals "check_rolls" = some (some (.ref f2))) (l2 : K.lookup f2 = some ⟨oc2, od2, .func (PySem.W.fnOf "check_rolls" "check_rolls" (defArgs sCheck) (defBody sCheck) (defScope sCheck) .none kV2 dc2 pm2 an2 cd2 ct2), sl2⟩) (c2 : PySem.W.codeIn K cd2 "check_rolls" = true) (k2 : PySem.W.keepIn K (.ref f2) = true)
    (a3 : PySem.W.nsIn K mainGlobals "roll_counts" = some (some (.ref f3))) (l3 : K.lookup f3 = some ⟨oc3, od3, .func (PySem.W.fnOf "roll_counts" "roll_counts" (defArgs sCounts) (defBody sCounts) (defScope sCounts) .none kV3 dc3 pm3 an3 cd3 ct3), sl3⟩) (c3 : PySem.W.codeIn K cd3 "roll_counts" = true) (k3 : PySem.W.keepIn K (.ref f3) = true)
    (a4 : PySem.W.nsIn K mainGlobals "in_any" = some (some (.ref f4))) (l4 : K.lookup f4 = some ⟨oc4, od4, .func (PySem.W.fnOf "in_any" "in_any" (defArgs sInAny) (defBody sInAny) (defScope sInAny) .none kV4 dc4 pm4 an4 cd4 ct4), sl4⟩) (c4 : PySem.W.codeIn K cd4 "in_any" = true) (k4 : PySem.W.keepIn K (.ref f4) = true)
    (a5 : PySem.W.nsIn K mainGlobals "in_all" = some (some (.ref f5))) (l5 : K.lookup f5 = some ⟨oc5, od5, .func (PySem.W.fnOf "in_all" "in_all" (defArgs sInAll) (defBody sInAll) (defScope sInAll) .none kV5 dc5 pm5 an5 cd5 ct5), sl5⟩) (c5 : PySem.W.codeIn K cd5 "in_all" = true) (k5 : PySem.W.keepIn K (.ref f5) = true)
    (a6 : PySem.W.nsIn K mainGlobals "in_just" = some (some (.ref f6))) (l6 : K.lookup f6 = some ⟨oc6, od6, .func (PySem.W.fnOf "in_just" "in_just" (defArgs sInJust) (defBody sInJust) (defScope sInJust) .none kV6 dc6 pm6 an6 cd6 ct6), sl6⟩) (c6 : PySem.W.codeIn K cd6 "in_just" = true) (k6 : PySem.W.keepIn K (.ref f6) = true)
    (a7 : PySem.W.nsIn K mainGlobals "union" = some (some (.ref f7))) (l7 : K.lookup f7 = some ⟨oc7, od7, .func (PySem.W.fnOf "union" "union" (defArgs sUnion) (defBody sUnion) (defScope sUnion) .none kV7 dc7 pm7 an7 cd7 ct7), sl7⟩) (c7 : PySem.W.codeIn K cd7 "union" = true) (k7 : PySem.W.keepIn K (.ref f7) = true)
    (a8 : PySem.W.nsIn K mainGlobals "both" = some (some (.ref f8))) (l8 : K.lookup f8 = some ⟨oc8, od8, .func (PySem.W.fnOf "both" "both" (defArgs sBoth) (defBody sBoth) (defScope sBoth) .none kV8 dc8 pm8 an8 cd8 ct8), sl8⟩) (c8 : PySem.W.codeIn K cd8 "both" = true) (k8 : PySem.W.keepIn K (.ref f8) = true)
    (a9 : PySem.W.nsIn K mainGlobals "less" = some (some (.ref f9))) (l9 : K.lookup f9 = some ⟨oc9, od9, .func (PySem.W.fnOf "less" "less" (defArgs sLess) (defBody sLess) (defScope sLess) .none kV9 dc9 pm9 an9 cd9 ct9), sl9⟩) (c9 : PySem.W.codeIn K cd9 "less" = true) (k9 : PySem.W.keepIn K (.ref f9) = true)
    (a10 : PySem.W.nsIn K mainGlobals "apart" = some (some (.ref f10))) (l10 : K.lookup f10 = some ⟨oc10, od10, .func (PySem.W.fnOf "apart" "apart" (defArgs sApart) (defBody sApart) (defScope sApart) .none kV10 dc10 pm10 an10 cd10 ct10), sl10⟩) (c10 : PySem.W.codeIn K cd10 "apart" = true) (k10 : PySem.W.keepIn K (.ref f10) = true)
    (a11 : PySem.W.nsIn K mainGlobals "pairs" = some (some (.ref f11))) (l11 : K.lookup f11 = some ⟨oc11, od11, .func (PySem.W.fnOf "pairs" "pairs" (defArgs sPairs) (defBody sPairs) (defScope sPairs) .none kV11 dc11 pm11 an11 cd11 ct11), sl11⟩) (c11 : PySem.W.codeIn K cd11 "pairs" = true) (k11 : PySem.W.keepIn K (.ref f11) = true)
    (a12 : PySem.W.nsIn K mainGlobals "places_by_name" = some (some (.ref f12))) (l12 : K.lookup f12 = some ⟨oc12, od12, .func (PySem.W.fnOf "places_by_name" "places_by_name" (defArgs sPlaces) (defBody sPlaces) (defScope sPlaces) .none kV12 dc12 pm12 an12 cd12 ct12), sl12⟩) (c12 : PySem.W.codeIn K cd12 "places_by_name" = true) (k12 : PySem.W.keepIn K (.ref f12) = true)
    (a13 : PySem.W.nsIn K mainGlobals "shares" = some (some (.ref f13))) (l13 : K.lookup f13 = some ⟨oc13, od13, .func (PySem.W.fnOf "shares" "shares" (defArgs sShares) (defBody sShares) (defScope sShares) .none kV13 dc13 pm13 an13 cd13 ct13), sl13⟩) (c13 : PySem.W.codeIn K cd13 "shares" = true) (k13 : PySem.W.keepIn K (.ref f13) = true)
    (a14 : PySem.W.nsIn K mainGlobals "_law_at" = some (some (.ref f14))) (l14 : K.lookup f14 = some ⟨oc14, od14, .func (PySem.W.fnOf "_law_at" "_law_at" (defArgs sAt) (defBody sAt) (defScope sAt) .none kV14 dc14 pm14 an14 cd14 ct14), sl14⟩) (c14 : PySem.W.codeIn K cd14 "_law_at" = true) (k14 : PySem.W.keepIn K (.ref f14) = true)
    (a15 : PySem.W.nsIn K mainGlobals "_law_spelt" = some (some (.ref f15))) (l15 : K.lookup f15 = some ⟨oc15, od15, .func (PySem.W.fnOf "_law_spelt" "_law_spelt" (defArgs sSpelt) (defBody sSpelt) (defScope sSpelt) .none kV15 dc15 pm15 an15 cd15 ct15), sl15⟩) (c15 : PySem.W.codeIn K cd15 "_law_spelt" = true) (k15 : PySem.W.keepIn K (.ref f15) = true)
    (a16 : PySem.W.nsIn K mainGlobals "_law_stride" = some (some (.ref f16))) (l16 : K.lookup f16 = some ⟨oc16, od16, .func (PySem.W.fnOf "_law_stride" "_law_stride" (defArgs sStride) (defBody sStride) (defScope sStride) .none kV16 dc16 pm16 an16 cd16 ct16), sl16⟩) (c16 : PySem.W.codeIn K cd16 "_law_stride" = true) (k16 : PySem.W.keepIn K (.ref f16) = true)
    (a17 : PySem.W.nsIn K mainGlobals "_law_dictionary" = some (some (.ref f17))) (l17 : K.lookup f17 = some ⟨oc17, od17, .func (PySem.W.fnOf "_law_dictionary" "_law_dictionary" (defArgs sDict) (defBody sDict) (defScope sDict) .none kV17 dc17 pm17 an17 cd17 ct17), sl17⟩) (c17 : PySem.W.codeIn K cd17 "_law_dictionary" = true) (k17 : PySem.W.keepIn K (.ref f17) = true)
    (a18 : PySem.W.nsIn K mainGlobals "_law_marked" = some (some (.ref f18))) (l18 : K.lookup f18 = some ⟨oc18, od18, .func (PySem.W.fnOf "_law_marked" "_law_marked" (defArgs sMark) (defBody sMark) (defScope sMark) .none kV18 dc18 pm18 an18 cd18 ct18), sl18⟩) (c18 : PySem.W.codeIn K cd18 "_law_marked" = true) (k18 : PySem.W.keepIn K (.ref f18) = true)
    (a19 : PySem.W.nsIn K mainGlobals "_law_laid" = some (some (.ref f19))) (l19 : K.lookup f19 = some ⟨oc19, od19, .func (PySem.W.fnOf "_law_laid" "_law_laid" (defArgs sLaid) (defBody sLaid) (defScope sLaid) .none kV19 dc19 pm19 an19 cd19 ct19), sl19⟩) (c19 : PySem.W.codeIn K cd19 "_law_laid" = true) (k19 : PySem.W.keepIn K (.ref f19) = true)
    (a20 : PySem.W.nsIn K mainGlobals "_law_same" = some (some (.ref f20))) (l20 : K.lookup f20 = some ⟨oc20, od20, .func (PySem.W.fnOf "_law_same" "_law_same" (defArgs sSame) (defBody sSame) (defScope sSame) .none kV20 dc20 pm20 an20 cd20 ct20), sl20⟩) (c20 : PySem.W.codeIn K cd20 "_law_same" = true) (k20 : PySem.W.keepIn K (.ref f20) = true)
    (a21 : PySem.W.nsIn K mainGlobals "_law_all_same" = some (some (.ref f21))) (l21 : K.lookup f21 = some ⟨oc21, od21, .func (PySem.W.fnOf "_law_all_same" "_law_all_same" (defArgs sAllSame) (defBody sAllSame) (defScope sAllSame) .none kV21 dc21 pm21 an21 cd21 ct21), sl21⟩) (c21 : PySem.W.codeIn K cd21 "_law_all_same" = true) (k21 : PySem.W.keepIn K (.ref f21) = true)
    (a22 : PySem.W.nsIn K mainGlobals "_law_copies" = some (some (.ref f22))) (l22 : K.lookup f22 = some ⟨oc22, od22, .func (PySem.W.fnOf "_law_copies" "_law_copies" (defArgs sCopies) (defBody sCopies) (defScope sCopies) .none kV22 dc22 pm22 an22 cd22 ct22), sl22⟩) (c22 : PySem.W.codeIn K cd22 "_law_copies" = true) (k22 : PySem.W.keepIn K (.ref f22) = true)
    (a23 : PySem.W.nsIn K mainGlobals "_law_spoilt" = some (some (.ref f23))) (l23 : K.lookup f23 = some ⟨oc23, od23, .func (PySem.W.fnOf "_law_spoilt" "_law_spoilt" (defArgs sSpoilt) (defBody sSpoilt) (defScope sSpoilt) .none kV23 dc23 pm23 an23 cd23 ct23), sl23⟩) (c23 : PySem.W.codeIn K cd23 "_law_spoilt" = true) (k23 : PySem.W.keepIn K (.ref f23) = true)
    (a24 : PySem.W.nsIn K mainGlobals "_law_asked" = some (some (.ref f24))) (l24 : K.lookup f24 = some ⟨oc24, od24, .func (PySem.W.fnOf "_law_asked" "_law_asked" (defArgs sAsked) (defBody sAsked) (defScope sAsked) .none kV24 dc24 pm24 an24 cd24 ct24), sl24⟩) (c24 : PySem.W.codeIn K cd24 "_law_asked" = true) (k24 : PySem.W.keepIn K (.ref f24) = true)
    (a25 : PySem.W.nsIn K mainGlobals "_law_wanted" = some (some (.ref f25))) (l25 : K.lookup f25 = some ⟨oc25, od25, .func (PySem.W.fnOf "_law_wanted" "_law_wanted" (defArgs sWanted) (defBody sWanted) (defScope sWanted) .none kV25 dc25 pm25 an25 cd25 ct25), sl25⟩) (c25 : PySem.W.codeIn K cd25 "_law_wanted" = true) (k25 : PySem.W.keepIn K (.ref f25) = true)
    (a26 : PySem.W.nsIn K mainGlobals "_law_told_by" = some (some (.ref f26))) (l26 : K.lookup f26 = some ⟨oc26, od26, .func (PySem.W.fnOf "_law_told_by" "_law_told_by" (defArgs sToldBy) (defBody sToldBy) (defScope sToldBy) .none kV26 dc26 pm26 an26 cd26 ct26), sl26⟩) (c26 : PySem.W.codeIn K cd26 "_law_told_by" = true) (k26 : PySem.W.keepIn K (.ref f26) = true)
    (a27 : PySem.W.nsIn K mainGlobals "_law_base_tells" = some (some (.ref f27))) (l27 : K.lookup f27 = some ⟨oc27, od27, .func (PySem.W.fnOf "_law_base_tells" "_law_base_tells" (defArgs sBase) (defBody sBase) (defScope sBase) .none kV27 dc27 pm27 an27 cd27 ct27), sl27⟩) (c27 : PySem.W.codeIn K cd27 "_law_base_tells" = true) (k27 : PySem.W.keepIn K (.ref f27) = true)
    (a28 : PySem.W.nsIn K mainGlobals "_law_room" = some (some (.ref f28))) (l28 : K.lookup f28 = some ⟨oc28, od28, .func (PySem.W.fnOf "_law_room" "_law_room" (defArgs sRoom) (defBody sRoom) (defScope sRoom) .none kV28 dc28 pm28 an28 cd28 ct28), sl28⟩) (c28 : PySem.W.codeIn K cd28 "_law_room" = true) (k28 : PySem.W.keepIn K (.ref f28) = true)
    (a29 : PySem.W.nsIn K mainGlobals "_law_any" = some (some (.ref f29))) (l29 : K.lookup f29 = some ⟨oc29, od29, .func (PySem.W.fnOf "_law_any" "_law_any" (defArgs sAny) (defBody sAny) (defScope sAny) .none kV29 dc29 pm29 an29 cd29 ct29), sl29⟩) (c29 : PySem.W.codeIn K cd29 "_law_any" = true) (k29 : PySem.W.keepIn K (.ref f29) = true)
    (a30 : PySem.W.nsIn K mainGlobals "_law_so" = some (some (.ref f30))) (l30 : K.lookup f30 = some ⟨oc30, od30, .func (PySem.W.fnOf "_law_so" "_law_so" (defArgs sSo) (defBody sSo) (defScope sSo) .none kV30 dc30 pm30 an30 cd30 ct30), sl30⟩) (c30 : PySem.W.codeIn K cd30 "_law_so" = true) (k30 : PySem.W.keepIn K (.ref f30) = true)
    (a31 : PySem.W.nsIn K mainGlobals "_law_form" = some (some (.ref f31))) (l31 : K.lookup f31 = some ⟨oc31, od31, .func (PySem.W.fnOf "_law_form" "_law_form" (defArgs sForm) (defBody sForm) (defScope sForm) .none kV31 dc31 pm31 an31 cd31 ct31), sl31⟩) (c31 : PySem.W.codeIn K cd31 "_law_form" = true) (k31 : PySem.W.keepIn K (.ref f31) = true)
    (a32 : PySem.W.nsIn K mainGlobals "_law_right_names" = some (some (.ref f32))) (l32 : K.lookup f32 = some ⟨oc32, od32, .func (PySem.W.fnOf "_law_right_names" "_law_right_names" (defArgs sRight) (defBody sRight) (defScope sRight) .none kV32 dc32 pm32 an32 cd32 ct32), sl32⟩) (c32 : PySem.W.codeIn K cd32 "_law_right_names" = true) (k32 : PySem.W.keepIn K (.ref f32) = true)
    (a33 : PySem.W.nsIn K mainGlobals "_law_whole" = some (some (.ref f33))) (l33 : K.lookup f33 = some ⟨oc33, od33, .func (PySem.W.fnOf "_law_whole" "_law_whole" (defArgs sWhole) (defBody sWhole) (defScope sWhole) .none kV33 dc33 pm33 an33 cd33 ct33), sl33⟩) (c33 : PySem.W.codeIn K cd33 "_law_whole" = true) (k33 : PySem.W.keepIn K (.ref f33) = true)
    (a34 : PySem.W.nsIn K mainGlobals "law" = some (some (.ref f34))) (l34 : K.lookup f34 = some ⟨oc34, od34, .func (PySem.W.fnOf "law" "law" (defArgs sLaw) (defBody sLaw) (defScope sLaw) .none kV34 dc34 pm34 an34 cd34 ct34), sl34⟩) (c34 : PySem.W.codeIn K cd34 "law" = true) (k34 : PySem.W.keepIn K (.ref f34) = true)
    (z1 : PySem.W.nsIn K mainGlobals "len" = some none) (z2 : PySem.W.nsIn K mainGlobals "range" = some none) (z3 : PySem.W.nsIn K mainGlobals "sorted" = some none) (z4 : PySem.W.nsIn K mainGlobals "set" = some none) (z5 : PySem.W.nsIn K mainGlobals "isinstance" = some none) (z6 : PySem.W.nsIn K mainGlobals "list" = some none) (z7 : PySem.W.nsIn K mainGlobals "str" = some none) (z8 : PySem.W.nsIn K mainGlobals "bool" = some none) (z9 : PySem.W.nsIn K mainGlobals "abs" = some none) (z10 : PySem.W.nsIn K mainGlobals "max" = some none) (z11 : PySem.W.nsIn K mainGlobals "min" = some none) (z12 : PySem.W.nsIn K mainGlobals "int" = some none) (z13 : PySem.W.nsIn K mainGlobals "tuple" = some none) (z14 : PySem.W.nsIn K mainGlobals "sum" = some none) (z15 : PySem.W.nsIn K mainGlobals "any" = some none) (z16 : PySem.W.nsIn K mainGlobals "reversed" = some none)
    {cN cR : Addr} (xn : PySem.W.nsIn K mainGlobals "NoRoll" = some (some (.ref cN))) (xr : PySem.W.nsIn K mainGlobals "RollError" = some (some (.ref cR))) (xv : PySem.W.nsIn K mainGlobals "ValueError" = some none) (xe : PySem.W.excIn K cN [.type "ValueError", .type "Exception", .type "BaseException", .type "object"] "ValueError.__new__" = true) (y1 : PySem.W.subIn K (.ref cN) (.type "BaseException") = some true) (y2 : PySem.W.isClsIn K cN = true) (y3 : PySem.W.typeIn K (.ref cN) = some (.type "type")) (y4 : PySem.W.subIn K (.ref cN) (.ref cN) = some true) (y5 : PySem.W.subIn K (.ref cR) (.type "BaseException") = some true) (y6 : PySem.W.isClsIn K cR = true) (y7 : PySem.W.typeIn K (.ref cR) = some (.type "type")) (y8 : PySem.W.subIn K (.ref cN) (.ref cR) = some true) (y9 : PySem.W.subIn K (.ref cN) (.type "ValueError") = some true) :
    ∃ fd : FuncData, (∀ (s : Shared) (v : Value), BindsTo s fd ⟨[v], []⟩ [("_law_script", v)]) ∧ ∀ base : Heap, K.In base → base.Ns mainGlobals mg → FnOk l.prog w K mg base CX0 6 fa fd ["_law_script"] (spLaw K) := by
  have e := hfa.symm.trans (PySem.W.mg_of X G a34)
  cases e
  have T : Txt mg := ⟨PySem.W.mg_none_of X G z1, PySem.W.mg_none_of X G z2, PySem.W.mg_none_of X G z3, PySem.W.mg_none_of X G z4, PySem.W.mg_none_of X G z5, PySem.W.mg_none_of X G z6, PySem.W.mg_none_of X G z7, PySem.W.mg_none_of X G z8, PySem.W.mg_none_of X G z9, PySem.W.mg_none_of X G z10, PySem.W.mg_none_of X G z11, PySem.W.mg_none_of X G z12, PySem.W.mg_none_of X G z13, PySem.W.mg_none_of X G z14, PySem.W.mg_none_of X G z15, PySem.W.mg_none_of X G z16⟩
  have F1 := fun_mk (st := sIsRoll) l1 c1 k1
  have Dis_roll : IsDef K mg "is_roll" sIsRoll ["names"] f1 _ := ⟨F1, F1.binds (ps := ["names"]) fun _ _ _ _ _ _ us hl => (by obtain ⟨_, rfl⟩ := len1 hl; rfl), PySem.W.mg_of X G a1⟩
  have F2 := fun_mk (st := sCheck) l2 c2 k2
  have Dcheck_rolls : IsDef K mg "check_rolls" sCheck ["rolls"] f2 _ := ⟨F2, F2.binds (ps := ["rolls"]) fun _ _ _ _ _ _ us hl => (by obtain ⟨_, rfl⟩ := len1 hl; rfl), PySem.W.mg_of X G a2⟩
  have F3 := fun_mk (st := sCounts) l3 c3 k3
  have Droll_counts : IsDef K mg "roll_counts" sCounts ["rolls"] f3 _ := ⟨F3, F3.binds (ps := ["rolls"]) fun _ _ _ _ _ _ us hl => (by obtain ⟨_, rfl⟩ := len1 hl; rfl), PySem.W.mg_of X G a3⟩
  have F4 := fun_mk (st := sInAny) l4 c4 k4
  have Din_any : IsDef K mg "in_any" sInAny ["rolls"] f4 _ := ⟨F4, F4.binds (ps := ["rolls"]) fun _ _ _ _ _ _ us hl => (by obtain ⟨_, rfl⟩ := len1 hl; rfl), PySem.W.mg_of X G a4⟩
  have F5 := fun_mk (st := sInAll) l5 c5 k5
  have Din_all : IsDef K mg "in_all" sInAll ["rolls"] f5 _ := ⟨F5, F5.binds (ps := ["rolls"]) fun _ _ _ _ _ _ us hl => (by obtain ⟨_, rfl⟩ := len1 hl; rfl), PySem.W.mg_of X G a5⟩
  have F6 := fun_mk (st := sInJust) l6 c6 k6
  have Din_just : IsDef K mg "in_just" sInJust ["rolls", "count"] f6 _ := ⟨F6, F6.binds (ps := ["rolls", "count"]) fun _ _ _ _ _ _ us hl => (by obtain ⟨_, _, rfl⟩ := len2 hl; rfl), PySem.W.mg_of X G a6⟩
  have F7 := fun_mk (st := sUnion) l7 c7 k7
  have Dunion : IsDef K mg "union" sUnion ["one", "other"] f7 _ := ⟨F7, F7.binds (ps := ["one", "other"]) fun _ _ _ _ _ _ us hl => (by obtain ⟨_, _, rfl⟩ := len2 hl; rfl), PySem.W.mg_of X G a7⟩
  have F8 := fun_mk (st := sBoth) l8 c8 k8
  have Dboth : IsDef K mg "both" sBoth ["one", "other"] f8 _ := ⟨F8, F8.binds (ps := ["one", "other"]) fun _ _ _ _ _ _ us hl => (by obtain ⟨_, _, rfl⟩ := len2 hl; rfl), PySem.W.mg_of X G a8⟩
  have F9 := fun_mk (st := sLess) l9 c9 k9
  have Dless : IsDef K mg "less" sLess ["one", "other"] f9 _ := ⟨F9, F9.binds (ps := ["one", "other"]) fun _ _ _ _ _ _ us hl => (by obtain ⟨_, _, rfl⟩ := len2 hl; rfl), PySem.W.mg_of X G a9⟩
  have F10 := fun_mk (st := sApart) l10 c10 k10
  have Dapart : IsDef K mg "apart" sApart ["one", "other"] f10 _ := ⟨F10, F10.binds (ps := ["one", "other"]) fun _ _ _ _ _ _ us hl => (by obtain ⟨_, _, rfl⟩ := len2 hl; rfl), PySem.W.mg_of X G a10⟩
  have F11 := fun_mk (st := sPairs) l11 c11 k11
  have Dpairs : IsDef K mg "pairs" sPairs ["one", "other"] f11 _ := ⟨F11, F11.binds (ps := ["one", "other"]) fun _ _ _ _ _ _ us hl => (by obtain ⟨_, _, rfl⟩ := len2 hl; rfl), PySem.W.mg_of X G a11⟩
  have F12 := fun_mk (st := sPlaces) l12 c12 k12
  have Dplaces_by_name : IsDef K mg "places_by_name" sPlaces ["rolls"] f12 _ := ⟨F12, F12.binds (ps := ["rolls"]) fun _ _ _ _ _ _ us hl => (by obtain ⟨_, rfl⟩ := len1 hl; rfl), PySem.W.mg_of X G a12⟩
  have F13 := fun_mk (st := sShares) l13 c13 k13
  have Dshares : IsDef K mg "shares" sShares ["rolls"] f13 _ := ⟨F13, F13.binds (ps := ["rolls"]) fun _ _ _ _ _ _ us hl => (by obtain ⟨_, rfl⟩ := len1 hl; rfl), PySem.W.mg_of X G a13⟩
  have F14 := fun_mk (st := sAt) l14 c14 k14
  have D_law_at : IsDef K mg "_law_at" sAt ["_law_script", "_law_k"] f14 _ := ⟨F14, F14.binds (ps := ["_law_script", "_law_k"]) fun _ _ _ _ _ _ us hl => (by obtain ⟨_, _, rfl⟩ := len2 hl; rfl), PySem.W.mg_of X G a14⟩
  have F15 := fun_mk (st := sSpelt) l15 c15 k15
  have D_law_spelt : IsDef K mg "_law_spelt" sSpelt ["_law_cell"] f15 _ := ⟨F15, F15.binds (ps := ["_law_cell"]) fun _ _ _ _ _ _ us hl => (by obtain ⟨_, rfl⟩ := len1 hl; rfl), PySem.W.mg_of X G a15⟩
  have F16 := fun_mk (st := sStride) l16 c16 k16
  have D_law_stride : IsDef K mg "_law_stride" sStride ["_law_script"] f16 _ := ⟨F16, F16.binds (ps := ["_law_script"]) fun _ _ _ _ _ _ us hl => (by obtain ⟨_, rfl⟩ := len1 hl; rfl), PySem.W.mg_of X G a16⟩
  have F17 := fun_mk (st := sDict) l17 c17 k17
  have D_law_dictionary : IsDef K mg "_law_dictionary" sDict ["_law_span", "_law_step"] f17 _ := ⟨F17, F17.binds (ps := ["_law_span", "_law_step"]) fun _ _ _ _ _ _ us hl => (by obtain ⟨_, _, rfl⟩ := len2 hl; rfl), PySem.W.mg_of X G a17⟩
  have F18 := fun_mk (st := sMark) l18 c18 k18
  have D_law_marked : IsDef K mg "_law_marked" sMark ["_law_cells", "_law_count", "_law_span"] f18 _ := ⟨F18, F18.binds (ps := ["_law_cells", "_law_count", "_law_span"]) fun _ _ _ _ _ _ us hl => (by obtain ⟨_, _, _, rfl⟩ := len3 hl; rfl), PySem.W.mg_of X G a18⟩
  have F19 := fun_mk (st := sLaid) l19 c19 k19
  have D_law_laid : IsDef K mg "_law_laid" sLaid ["_law_marks", "_law_menu"] f19 _ := ⟨F19, F19.binds (ps := ["_law_marks", "_law_menu"]) fun _ _ _ _ _ _ us hl => (by obtain ⟨_, _, rfl⟩ := len2 hl; rfl), PySem.W.mg_of X G a19⟩
  have F20 := fun_mk (st := sSame) l20 c20 k20
  have D_law_same : IsDef K mg "_law_same" sSame ["_law_found", "_law_due"] f20 _ := ⟨F20, F20.binds (ps := ["_law_found", "_law_due"]) fun _ _ _ _ _ _ us hl => (by obtain ⟨_, _, rfl⟩ := len2 hl; rfl), PySem.W.mg_of X G a20⟩
  have F21 := fun_mk (st := sAllSame) l21 c21 k21
  have D_law_all_same : IsDef K mg "_law_all_same" sAllSame ["_law_found", "_law_due"] f21 _ := ⟨F21, F21.binds (ps := ["_law_found", "_law_due"]) fun _ _ _ _ _ _ us hl => (by obtain ⟨_, _, rfl⟩ := len2 hl; rfl), PySem.W.mg_of X G a21⟩
  have F22 := fun_mk (st := sCopies) l22 c22 k22
  have D_law_copies : IsDef K mg "_law_copies" sCopies ["_law_rows"] f22 _ := ⟨F22, F22.binds (ps := ["_law_rows"]) fun _ _ _ _ _ _ us hl => (by obtain ⟨_, rfl⟩ := len1 hl; rfl), PySem.W.mg_of X G a22⟩
  have F23 := fun_mk (st := sSpoilt) l23 c23 k23
  have D_law_spoilt : IsDef K mg "_law_spoilt" sSpoilt ["_law_row", "_law_way", "_law_spot"] f23 _ := ⟨F23, F23.binds (ps := ["_law_row", "_law_way", "_law_spot"]) fun _ _ _ _ _ _ us hl => (by obtain ⟨_, _, _, rfl⟩ := len3 hl; rfl), PySem.W.mg_of X G a23⟩
  have F24 := fun_mk (st := sAsked) l24 c24 k24
  have D_law_asked : IsDef K mg "_law_asked" sAsked ["_law_way", "_law_rows", "_law_number"] f24 _ := ⟨F24, F24.binds (ps := ["_law_way", "_law_rows", "_law_number"]) fun _ _ _ _ _ _ us hl => (by obtain ⟨_, _, _, rfl⟩ := len3 hl; rfl), PySem.W.mg_of X G a24⟩
  have F25 := fun_mk (st := sWanted) l25 c25 k25
  have D_law_wanted : IsDef K mg "_law_wanted" sWanted ["_law_way", "_law_rows", "_law_name", "_law_number"] f25 _ := ⟨F25, F25.binds (ps := ["_law_way", "_law_rows", "_law_name", "_law_number"]) fun _ _ _ _ _ _ us hl => (by obtain ⟨_, _, _, _, rfl⟩ := len4 hl; rfl), PySem.W.mg_of X G a25⟩
  have F26 := fun_mk (st := sToldBy) l26 c26 k26
  have D_law_told_by : IsDef K mg "_law_told_by" sToldBy ["_law_way", "_law_rows", "_law_number"] f26 _ := ⟨F26, F26.binds (ps := ["_law_way", "_law_rows", "_law_number"]) fun _ _ _ _ _ _ us hl => (by obtain ⟨_, _, _, rfl⟩ := len3 hl; rfl), PySem.W.mg_of X G a26⟩
  have F27 := fun_mk (st := sBase) l27 c27 k27
  have D_law_base_tells : IsDef K mg "_law_base_tells" sBase ["_law_rows"] f27 _ := ⟨F27, F27.binds (ps := ["_law_rows"]) fun _ _ _ _ _ _ us hl => (by obtain ⟨_, rfl⟩ := len1 hl; rfl), PySem.W.mg_of X G a27⟩
  have F28 := fun_mk (st := sRoom) l28 c28 k28
  have D_law_room : IsDef K mg "_law_room" sRoom ["_law_script", "_law_most", "_law_bound"] f28 _ := ⟨F28, F28.binds (ps := ["_law_script", "_law_most", "_law_bound"]) fun _ _ _ _ _ _ us hl => (by obtain ⟨_, _, _, rfl⟩ := len3 hl; rfl), PySem.W.mg_of X G a28⟩
  have F29 := fun_mk (st := sAny) l29 c29 k29
  have D_law_any : IsDef K mg "_law_any" sAny ["_law_cell"] f29 _ := ⟨F29, F29.binds (ps := ["_law_cell"]) fun _ _ _ _ _ _ us hl => (by obtain ⟨_, rfl⟩ := len1 hl; rfl), PySem.W.mg_of X G a29⟩
  have F30 := fun_mk (st := sSo) l30 c30 k30
  have D_law_so : IsDef K mg "_law_so" sSo ["_law_found", "_law_due"] f30 _ := ⟨F30, F30.binds (ps := ["_law_found", "_law_due"]) fun _ _ _ _ _ _ us hl => (by obtain ⟨_, _, rfl⟩ := len2 hl; rfl), PySem.W.mg_of X G a30⟩
  have F31 := fun_mk (st := sForm) l31 c31 k31
  have D_law_form : IsDef K mg "_law_form" sForm ["_law_part"] f31 _ := ⟨F31, F31.binds (ps := ["_law_part"]) fun _ _ _ _ _ _ us hl => (by obtain ⟨_, rfl⟩ := len1 hl; rfl), PySem.W.mg_of X G a31⟩
  have F32 := fun_mk (st := sRight) l32 c32 k32
  have D_law_right_names : IsDef K mg "_law_right_names" sRight ["_law_way", "_law_found", "_law_due"] f32 _ := ⟨F32, F32.binds (ps := ["_law_way", "_law_found", "_law_due"]) fun _ _ _ _ _ _ us hl => (by obtain ⟨_, _, _, rfl⟩ := len3 hl; rfl), PySem.W.mg_of X G a32⟩
  have F33 := fun_mk (st := sWhole) l33 c33 k33
  have D_law_whole : IsDef K mg "_law_whole" sWhole ["_law_found"] f33 _ := ⟨F33, F33.binds (ps := ["_law_found"]) fun _ _ _ _ _ _ us hl => (by obtain ⟨_, rfl⟩ := len1 hl; rfl), PySem.W.mg_of X G a33⟩
  have F34 := fun_mk (st := sLaw) l34 c34 k34
  have Dlaw : IsDef K mg "law" sLaw ["_law_script"] _ _ := ⟨F34, F34.binds (ps := ["_law_script"]) fun _ _ _ _ _ _ us hl => (by obtain ⟨_, rfl⟩ := len1 hl; rfl), PySem.W.mg_of X G a34⟩
  refine ⟨PySem.W.fnOf "law" "law" (defArgs sLaw) (defBody sLaw) (defScope sLaw) .none kV34 dc34 pm34 an34 cd34 ct34, fun s v => .of_eq rfl, fun base _ _ => ?_⟩
  have O : Own K mg "NoRoll" cN := ⟨PySem.W.mg_of X G xn, xe⟩
  have hcN : Catch K mg cN "NoRoll" cN := ⟨PySem.W.mg_of X G xn, y1, y2, y3, y4⟩
  have hcR : Catch K mg cN "RollError" cR := ⟨PySem.W.mg_of X G xr, y5, y6, y7, y8⟩
  have hv : mg "ValueError" = none := PySem.W.mg_none_of X G xv
  have g0 : FnOk l.prog w K mg base CX0 2 _ _ ["rolls"] spCheck := ok_check Dcheck_rolls T Dis_roll
  have g1 : FnOk l.prog w K mg base (CX1 l.prog w cN) 2 _ _ ["rolls"] spBad := ok_check_bad O Dcheck_rolls T Dis_roll
  have j0 : FnOk l.prog w K mg base CX0 3 _ _ ["rolls", "count"] spInJust := ok_in_just Din_just T Dcheck_rolls g0 Droll_counts
  have j1 : FnOk l.prog w K mg base (CX1 l.prog w cN) 3 _ _ ["rolls", "count"] spBadK := ok_in_just_bad Din_just Dcheck_rolls g1
  have i0 : FnOk l.prog w K mg base CX0 4 _ _ ["rolls"] spInAny := (ok_in_any Din_any T Dcheck_rolls g0 Droll_counts).mono (by decide)
  have i1 : FnOk l.prog w K mg base (CX1 l.prog w cN) 4 _ _ ["rolls"] spBad := (ok_in_any_bad Din_any Dcheck_rolls g1).mono (by decide)
  have as0 : Asks l.prog w K mg base := ⟨⟨_, _, Dunion, (ok_union Dunion T Dcheck_rolls g0).mono (by decide)⟩, ⟨_, _, Dboth, (ok_both Dboth T Dcheck_rolls g0).mono (by decide)⟩, ⟨_, _, Dless, (ok_less Dless T Dcheck_rolls g0).mono (by decide)⟩, ⟨_, _, Dapart, (ok_apart Dapart T Dcheck_rolls g0).mono (by decide)⟩, ⟨_, _, Dpairs, (ok_pairs Dpairs T Dcheck_rolls g0).mono (by decide)⟩, ⟨_, _, Din_any, i0⟩, ⟨_, _, Din_all, ok_in_all Din_all T Din_just j0⟩, ⟨_, _, Din_just, j0.mono (by decide)⟩, ⟨_, _, Dshares, (ok_shares Dshares T Dcheck_rolls g0 Dplaces_by_name).mono (by decide)⟩⟩
  have as1 : AsksBad l.prog w cN K mg base := ⟨⟨_, _, Dunion, (ok_union_bad Dunion Dcheck_rolls g1).mono (by decide)⟩, ⟨_, _, Dboth, (ok_both_bad Dboth Dcheck_rolls g1).mono (by decide)⟩, ⟨_, _, Dless, (ok_less_bad Dless Dcheck_rolls g1).mono (by decide)⟩, ⟨_, _, Dapart, (ok_apart_bad Dapart Dcheck_rolls g1).mono (by decide)⟩, ⟨_, _, Dpairs, (ok_pairs_bad Dpairs Dcheck_rolls g1).mono (by decide)⟩, ⟨_, _, Din_any, i1⟩, ⟨_, _, Din_all, ok_in_all_bad Din_all T Din_just j1⟩, ⟨_, _, Din_just, j1.mono (by decide)⟩, ⟨_, _, Dshares, (ok_shares_bad Dshares Dcheck_rolls g1).mono (by decide)⟩⟩
  exact ok_law Dlaw T hcN ⟨⟨_, _, D_law_at, (ok_at D_law_at T).mono (by decide)⟩, ⟨_, _, D_law_stride, (ok_stride D_law_stride T D_law_at D_law_any).mono (by decide)⟩, ⟨_, _, D_law_dictionary, (ok_dictW D_law_dictionary T D_law_spelt).mono (by decide)⟩, ⟨_, _, D_law_marked, (ok_mark D_law_marked T).mono (by decide)⟩, ⟨_, _, D_law_laid, (ok_laid D_law_laid T).mono (by decide)⟩, ⟨_, _, D_law_all_same, (ok_all_same D_law_all_same T D_law_same).mono (by decide)⟩, ⟨_, _, D_law_copies, (ok_copies D_law_copies T).mono (by decide)⟩, ⟨_, _, D_law_room, (ok_room D_law_room T).mono (by decide)⟩, ⟨_, _, D_law_any, (ok_any D_law_any T).mono (by decide)⟩, ⟨_, _, D_law_spoilt, (ok_spoilt D_law_spoilt T).mono (by decide)⟩, ⟨_, _, D_law_base_tells, ok_base D_law_base_tells T hv hcR y9 Din_any (FnOk.both i0.calm i1)⟩, ⟨_, _, D_law_told_by, (ok_told_by D_law_told_by T D_law_wanted).mono (by decide)⟩, ⟨_, _, D_law_right_names, (ok_right D_law_right_names T D_law_form (ok_form D_law_form T D_law_whole) D_law_so ((ok_so D_law_so T).mono (by decide))).mono (by decide)⟩, ⟨_, _, D_law_asked, FnOk.both (ok_asked D_law_asked as0).calm (ok_asked_bad D_law_asked as1)⟩⟩
theorem walk {l : PySem.W.OpenLaw} {q : Program} {loose : List Str} {XP : (Str → Option Value) → Heap → Prop} {YP : World → Heap → Prop} {d : DefRec} {K : Params → PySem.W.Frag} (hn : l.most = some 63) (hdf : d.params.defaults = [])
    (hY : ∀ (w : World) (h : Heap), YP w h → (K w.params).In h)
    (F : ∀ (w : World) (mg : Str → Option Value) (fa : Addr) (h : Heap), (K w.params).In h → h.Ns mainGlobals mg → mg d.name = some (.ref fa) →
      ∃ fd : FuncData, (∀ (s : Shared) (u : Value), BindsTo s fd ⟨[u], []⟩ [("_law_script", u)]) ∧ ∀ base : Heap, (K w.params).In base → base.Ns mainGlobals mg → FnOk l.prog w (K w.params) mg base CX0 6 fa fd ["_law_script"] (spLaw (K w.params))) :
    PySem.W.WalkO q loose XP YP l.row.toRowW d [] (fun f vs => PySem.call f vs) :=
  L2.walk_of (n := 63) (k := 6) (x := "_law_script") (CX := fun _ => CX0) (sp := fun w => spLaw (K w.params)) hn (by decide) hdf ⟨rfl, by decide, by decide⟩ hY F (fun _ _ a ns hl _ hS => ⟨a, ns, rfl, hS, hl, fun _ => rfl⟩) fun _ _ _ _ _ z => z
end K08
open PySem PySem.W PyProof.Rows
set_option maxRecDepth 100000 in
set_option maxHeartbeats 0 in
theorem PySem.Challenge.cw_clubroll_k08_no_rolls_holds : PySem.Challenge.rw_clubroll_k08_no_rolls.Holds := by
  w_on; o_law; k_head; (case hw => w_witness2)
  k_fill
  refine K08.walk (l := PySem.Challenge.rw_clubroll_k08_no_rolls) rfl rfl (fun w h Y => PySem.W.kIn_of Y) ?F
  case F =>
    intro w mg fa h KX G hmg
    refine' K08.all_mk KX G hmg ?a1 ?l1 ?c1 ?k1 ?a2 ?l2 ?c2 ?k2 ?a3 ?l3 ?c3 ?k3 ?a4 ?l4 ?c4 ?k4 ?a5 ?l5 ?c5 ?k5 ?a6 ?l6 ?c6 ?k6 ?a7 ?l7 ?c7 ?k7 ?a8 ?l8 ?c8 ?k8 ?a9 ?l9 ?c9 ?k9 ?a10 ?l10 ?c10 ?k10 ?a11 ?l11 ?c11 ?k11 ?a12 ?l12 ?c12 ?k12 ?a13 ?l13 ?c13 ?k13 ?a14 ?l14 ?c14 ?k14 ?a15 ?l15 ?c15 ?k15 ?a16 ?l16 ?c16 ?k16 ?a17 ?l17 ?c17 ?k17 ?a18 ?l18 ?c18 ?k18 ?a19 ?l19 ?c19 ?k19 ?a20 ?l20 ?c20 ?k20 ?a21 ?l21 ?c21 ?k21 ?a22 ?l22 ?c22 ?k22 ?a23 ?l23 ?c23 ?k23 ?a24 ?l24 ?c24 ?k24 ?a25 ?l25 ?c25 ?k25 ?a26 ?l26 ?c26 ?k26 ?a27 ?l27 ?c27 ?k27 ?a28 ?l28 ?c28 ?k28 ?a29 ?l29 ?c29 ?k29 ?a30 ?l30 ?c30 ?k30 ?a31 ?l31 ?c31 ?k31 ?a32 ?l32 ?c32 ?k32 ?a33 ?l33 ?c33 ?k33 ?a34 ?l34 ?c34 ?k34 ?z1 ?z2 ?z3 ?z4 ?z5 ?z6 ?z7 ?z8 ?z9 ?z10 ?z11 ?z12 ?z13 ?z14 ?z15 ?z16 ?xn ?xr ?xv ?xe ?y1 ?y2 ?y3 ?y4 ?y5 ?y6 ?y7 ?y8 ?y9
    (case a1 => k_is); (case l1 => k_is); (case c1 => k_is); (case k1 => k_is)
    (case a2 => k_is); (case l2 => k_is); (case c2 => k_is); (case k2 => k_is)
    (case a3 => k_is); (case l3 => k_is); (case c3 => k_is); (case k3 => k_is)
    (case a4 => k_is); (case l4 => k_is); (case c4 => k_is); (case k4 => k_is)
    (case a5 => k_is); (case l5 => k_is); (case c5 => k_is); (case k5 => k_is)
    (case a6 => k_is); (case l6 => k_is); (case c6 => k_is); (case k6 => k_is)
    (case a7 => k_is); (case l7 => k_is); (case c7 => k_is); (case k7 => k_is)
    (case a8 => k_is); (case l8 => k_is); (case c8 => k_is); (case k8 => k_is)
    (case a9 => k_is); (case l9 => k_is); (case c9 => k_is); (case k9 => k_is)
    (case a10 => k_is); (case l10 => k_is); (case c10 => k_is); (case k10 => k_is)
    (case a11 => k_is); (case l11 => k_is); (case c11 => k_is); (case k11 => k_is)
    (case a12 => k_is); (case l12 => k_is); (case c12 => k_is); (case k12 => k_is)
    (case a13 => k_is); (case l13 => k_is); (case c13 => k_is); (case k13 => k_is)
    (case a14 => k_is); (case l14 => k_is); (case c14 => k_is); (case k14 => k_is)
    (case a15 => k_is); (case l15 => k_is); (case c15 => k_is); (case k15 => k_is)
    (case a16 => k_is); (case l16 => k_is); (case c16 => k_is); (case k16 => k_is)
    (case a17 => k_is); (case l17 => k_is); (case c17 => k_is); (case k17 => k_is)
    (case a18 => k_is); (case l18 => k_is); (case c18 => k_is); (case k18 => k_is)
    (case a19 => k_is); (case l19 => k_is); (case c19 => k_is); (case k19 => k_is)
    (case a20 => k_is); (case l20 => k_is); (case c20 => k_is); (case k20 => k_is)
    (case a21 => k_is); (case l21 => k_is); (case c21 => k_is); (case k21 => k_is)
    (case a22 => k_is); (case l22 => k_is); (case c22 => k_is); (case k22 => k_is)
    (case a23 => k_is); (case l23 => k_is); (case c23 => k_is); (case k23 => k_is)
    (case a24 => k_is); (case l24 => k_is); (case c24 => k_is); (case k24 => k_is)
    (case a25 => k_is); (case l25 => k_is); (case c25 => k_is); (case k25 => k_is)
    (case a26 => k_is); (case l26 => k_is); (case c26 => k_is); (case k26 => k_is)
    (case a27 => k_is); (case l27 => k_is); (case c27 => k_is); (case k27 => k_is)
    (case a28 => k_is); (case l28 => k_is); (case c28 => k_is); (case k28 => k_is)
    (case a29 => k_is); (case l29 => k_is); (case c29 => k_is); (case k29 => k_is)
    (case a30 => k_is); (case l30 => k_is); (case c30 => k_is); (case k30 => k_is)
    (case a31 => k_is); (case l31 => k_is); (case c31 => k_is); (case k31 => k_is)
    (case a32 => k_is); (case l32 => k_is); (case c32 => k_is); (case k32 => k_is)
    (case a33 => k_is); (case l33 => k_is); (case c33 => k_is); (case k33 => k_is)
    (case a34 => k_is); (case l34 => k_is); (case c34 => k_is); (case k34 => k_is)
    (case z1 => k_is); (case z2 => k_is); (case z3 => k_is); (case z4 => k_is); (case z5 => k_is); (case z6 => k_is); (case z7 => k_is); (case z8 => k_is); (case z9 => k_is); (case z10 => k_is); (case z11 => k_is); (case z12 => k_is); (case z13 => k_is); (case z14 => k_is); (case z15 => k_is); (case z16 => k_is)
    (case xn => k_is); (case xr => k_is); (case xv => k_is); (case xe => k_exc); (case y1 => k_is); (case y2 => k_is); (case y3 => k_is); (case y4 => k_is); (case y5 => k_is); (case y6 => k_is); (case y7 => k_is); (case y8 => k_is); (case y9 => k_is)
end
