import PyProof.Rows.All
import Wide.All
import OpenK.AllK
import Wide.FinOn
import PyProof.EqAt
import PyProof.EqKinds
import PyProof.TupleCall
import KE.BitLaws
import Open.SpecLaws
import KE.OsHead
import KE.OsGo
import KE.SpHead
import KE.OsShapes
import KE.KSortTupG
import KE.KSortKeyAny
import PySem.Challenge.RW_exacttimes_s01_answers
set_option Elab.async false
set_option linter.all false
set_option maxRecDepth 100000
set_option maxHeartbeats 1000000
/-! THE HAND LAYER, for ints, bools, texts, own classes, lists, tuples, dicts, comprehensions, walks over dicts, enumerate, zip, reversed, texts, calls, loops. Paste it whole ahead of your own text; what your proof does not reach may be deleted. -/
namespace L2
open PySem PySem.Spec PyProof.Rows

/-- a key: an int or a str -/
abbrev Key := Sum Int Str
def keyIs : Key → Value → Bool
  | .inl k, v => Value.isInt k v
  | .inr x, v => Value.isStrOf x v
def keyH (w : World) : Key → Int
  | .inl k => hashInt k
  | .inr x => hashStr w x
theorem keyIs_shape : ∀ {k : Key} {v : Value}, keyIs k v = true → (∃ i t, k = Sum.inl i ∧ v = Value.int i t) ∨ (∃ x t, k = Sum.inr x ∧ v = Value.str x t)
  | .inl i, v, h => by
    obtain ⟨t, e⟩ := Value.isInt_shape (k := i) (v := v) h
    exact .inl ⟨i, t, rfl, e⟩
  | .inr x, v, h => by
    obtain ⟨t, e⟩ := Value.isStrOf_shape (x := x) (v := v) h
    exact .inr ⟨x, t, rfl, e⟩
theorem keyIs_int (i : Int) (t : Tok) : keyIs (.inl i) (.int i t) = true := by simp [keyIs, Value.isInt]
theorem keyIs_str (x : Str) (t : Tok) : keyIs (.inr x) (.str x t) = true := by simp [keyIs, Value.isStrOf]
theorem key_ll (a b : Int) : decide ((Sum.inl a : Key) = Sum.inl b) = (a == b) := by
  by_cases e : a = b
  · subst e; simp
  · have h : ¬ (Sum.inl a : Key) = Sum.inl b := fun q => e (Sum.inl.inj q)
    rw [decide_eq_false h]
    exact (beq_eq_false_iff_ne.mpr e).symm
theorem key_rr (a b : Str) : decide ((Sum.inr a : Key) = Sum.inr b) = decide (a = b) := by
  by_cases e : a = b
  · subst e; simp
  · have h : ¬ (Sum.inr a : Key) = Sum.inr b := fun q => e (Sum.inr.inj q)
    rw [decide_eq_false h, decide_eq_false e]
theorem key_lr (a : Int) (b : Str) : decide ((Sum.inl a : Key) = Sum.inr b) = false := decide_eq_false (fun q => nomatch q)
theorem key_rl (a : Str) (b : Int) : decide ((Sum.inr a : Key) = Sum.inl b) = false := decide_eq_false (fun q => nomatch q)

def mixKind (prog : Program) (w : World) : PySem.KeyKind prog w Key where
  is := keyIs
  hash := keyH w
  inj := fun v a b ha hb => by
    rcases keyIs_shape ha with ⟨i, t, rfl, rfl⟩ | ⟨x, t, rfl, rfl⟩
    · rcases keyIs_shape hb with ⟨j, u, rfl, e⟩ | ⟨y, u, rfl, e⟩
      · injection e with e1 _; rw [e1]
      · exact nomatch e
    · rcases keyIs_shape hb with ⟨j, u, rfl, e⟩ | ⟨y, u, rfl, e⟩
      · exact nomatch e
      · injection e with e1 _; rw [e1]
  byValue := fun k v h => by
    rcases keyIs_shape h with ⟨i, t, rfl, rfl⟩ | ⟨x, t, rfl, rfl⟩ <;> rfl
  pyHash := fun hv h => by
    rcases keyIs_shape hv with ⟨i, t, rfl, rfl⟩ | ⟨x, t, rfl, rfl⟩
    · exact wpAny_pyHash_int h
    · exact wpAny_pyHash_str h
  eqBool := fun hu hv h => by
    rcases keyIs_shape hu with ⟨i, t, rfl, rfl⟩ | ⟨x, t, rfl, rfl⟩
    · rcases keyIs_shape hv with ⟨j, u, rfl, rfl⟩ | ⟨y, u, rfl, rfl⟩
      · rw [key_ll] at h; exact wpAny_eqBool_int h
      · rw [key_lr] at h; exact SeqAt.EqAt.int_str i t y u _ _ _ _ h
    · rcases keyIs_shape hv with ⟨j, u, rfl, rfl⟩ | ⟨y, u, rfl, rfl⟩
      · rw [key_rl] at h; exact SeqAt.EqAt.str_int x t j u _ _ _ _ h
      · rw [key_rr] at h; exact wpAny_eqBool_str h
  «strs» := fun k x t v h => by
    rcases keyIs_shape h with ⟨i, u, rfl, e⟩ | ⟨y, u, rfl, e⟩
    · exact nomatch e
    · injection e with e1 _
      subst e1
      cases v <;> rfl

theorem mixKind_int (prog : Program) (w : World) (i : Int) (t : Tok) : (mixKind prog w).is (.inl i) (.int i t) = true := keyIs_int i t
theorem mixKind_str (prog : Program) (w : World) (x : Str) (t : Tok) : (mixKind prog w).is (.inr x) (.str x t) = true := keyIs_str x t
end L2

namespace L2
open PySem PySem.Spec PyProof.Rows

/-- a value, without the heap -/
inductive V where
  | non | bl (b : Bool) | int (i : Int) | str (x : Str) | byt (b : Array UInt8) | flt (b : UInt64) | ref (a : Addr) | ty (n : String)
  deriving DecidableEq

def RelV : V → Value → Prop
  | .non, u => u = Value.none
  | .bl b, u => u = Value.bool b
  | .int i, u => ∃ t, u = Value.int i t
  | .str x, u => ∃ t, u = Value.str x t
  | .byt b, u => ∃ t, u = Value.bytes b t
  | .flt b, u => ∃ t, u = Value.float b t
  | .ref a, u => u = Value.ref a
  | .ty n, u => u = Value.type n

abbrev Vals : List V → List Value → Prop := Paired RelV
theorem Vals.length {xs : List V} {us : List Value} (r : Vals xs us) : xs.length = us.length := Paired.length r
theorem Vals.get : ∀ {xs : List V} {us : List Value} {i : Nat} {x : V}, Vals xs us → xs[i]? = some x → ∃ u, us[i]? = some u ∧ RelV x u
  | _, _, _, _, .nil, e => by simp at e
  | _, _, 0, _, .cons r _, e => by simp at e; subst e; exact ⟨_, rfl, r⟩
  | _, _, i + 1, x, .cons _ t, e => by
    obtain ⟨u, h1, h2⟩ := Vals.get (i := i) (x := x) t (by simpa using e)
    exact ⟨u, by simpa using h1, h2⟩
theorem Vals.append : ∀ {xs ys : List V} {us ws : List Value}, Vals xs us → Vals ys ws → Vals (xs ++ ys) (us ++ ws)
  | _, _, _, _, .nil, s => s
  | _, _, _, _, .cons r t, s => .cons r (Vals.append t s)
theorem Vals.take : ∀ {xs : List V} {us : List Value} (n : Nat), Vals xs us → Vals (xs.take n) (us.take n)
  | _, _, 0, _ => .nil
  | _, _, _ + 1, .nil => .nil
  | _, _, n + 1, .cons r t => .cons r (Vals.take n t)
theorem Vals.drop : ∀ {xs : List V} {us : List Value} (n : Nat), Vals xs us → Vals (xs.drop n) (us.drop n)
  | _, _, 0, r => r
  | _, _, _ + 1, .nil => .nil
  | _, _, n + 1, .cons _ t => Vals.drop n t

def RelO : Option V → Option Value → Prop
  | some v, some u => RelV v u
  | none, none => True
  | _, _ => False
def KV {κ : Type} : List (κ × V) → List (κ × Value) → Prop := Paired fun (p : κ × V) (q : κ × Value) => p.1 = q.1 ∧ RelV p.2 q.2

/-- a key of a dict (00_mix): an int or a text -/
def kV : Key → V
  | .inl i => .int i
  | .inr x => .str x

/-- what stands at a tracked address -/
inductive HO where
  /-- a list -/
  | lst (xs : List V)
  /-- a tuple (never changes) -/
  | tup (xs : List V)
  /-- a dict whose keys are ints and texts; one whose keys are tuples of ints and texts (the empty one is both) -/
  | dK (kvs : List (Key × V)) | dT (kvs : List (List Key × V))
  /-- a set of ints: its members, its size -/
  | set (S : Int → Bool) (n : Nat)
  /-- an instance of the class at C, its dict at dx, its attributes -/
  | ins (C dx : Addr) (fs : List (Str × V))
  /-- the dict of the instance at x -/
  | own (x : Addr)
  /-- the dict of an exception -/
  | xd (fs : List (Str × V))
  /-- a bound method, f of x -/
  | met (f x : Addr)
  /-- a range object lo, lo + 1, .. below hi -/
  | rng (lo hi : Int)
  /-- a thing that is known to the object (the script; a dict while a loop walks it): read, never written while it is so -/
  | frz (o : Obj) (u : HO)
  /-- a code object's table -/
  | tbl (ps : Array Value)
  /-- any other thing, by what is true of its one object (a def of one's own: SetO a S n := HO.ext fun h => ..) -/
  | ext (φ : Heap → Prop)

abbrev Hp := Addr → Option HO
def upd (H : Hp) (a : Addr) (o : HO) : Hp := fun b => if b = a then some o else H b
theorem upd_same {H : Hp} {a : Addr} {o : HO} : upd H a o a = some o := by unfold upd; rw [if_pos rfl]
theorem upd_ne {H : Hp} {a b : Addr} {o : HO} (h : b ≠ a) : upd H a o b = H b := by unfold upd; rw [if_neg h]
theorem upd_upd {H : Hp} {a : Addr} {o u : HO} : upd (upd H a o) a u = upd H a u := by
  funext b; unfold upd; split <;> rfl
/-- two objects of different content stand apart -/
theorem ne_of {H : Hp} {a b : Addr} {o u : HO} (h : H a = some o) (h' : H b = some u) (d : o ≠ u) : a ≠ b := by
  intro e; subst e; rw [h] at h'; exact d (Option.some.inj h')
theorem ne_of_none {H : Hp} {a b : Addr} {o : HO} (h : H a = some o) (h' : H b = none) : a ≠ b := by
  intro e; subst e; rw [h] at h'; cases h'

section
variable (P : Program) (w : World)
def ObjOk (H : Hp) (h : Heap) (a : Addr) : HO → Prop
  | .lst xs => xs.length ≤ sizeLine ∧ ∃ (its : List Value) (n : Nat), Vals xs its ∧ h.get? a = some { cls := .type "list", data := .seq its.toArray n }
  | .tup xs => xs.length ≤ sizeLine ∧ ∃ its : List Value, Vals xs its ∧ IsTup h a its.toArray
  | .dK kvs => kvs.length ≤ sizeLine ∧ (a == sysModules) = false ∧ ∃ vs, KV kvs vs ∧ h.DictOf (mixKind P w) a vs
  | .dT kvs => kvs.length ≤ sizeLine ∧ (a == sysModules) = false ∧ ∃ xs : List (List Key × Addr × Value),
      Paired (fun (p : List Key × V) (q : List Key × Addr × Value) => p.1 = q.1 ∧ H q.2.1 = some (.tup (p.1.map kV)) ∧ RelV p.2 q.2.2) kvs xs ∧
      ∃ o es ep, h.get? a = some o ∧ o.ExactDict ∧ o.data = .dict es ep ∧ es.toList = xs.map (entryOfKey (tupleKind (mixKind P w))) ∧ (xs.map (·.1)).Nodup
  | .set S n => h.SetOf (intKind P w) a S n
  | .ins C dx fs => H dx = some (.own a) ∧ fs.length ≤ 1000 ∧ dx ≠ a ∧ h.get? a = some (PySem.W.instObj C dx) ∧
      ∃ mA, h.Ns1 dx mA ∧ (∀ f, RelO (fs.lookup f) (mA f)) ∧ PySem.Within mA (fs.map (·.1))
  | .own _ => ∃ o, h.get? a = some o
  | .xd fs => ∃ mA, h.Ns1 a mA ∧ ∀ f, RelO (fs.lookup f) (mA f)
  | .rng lo hi => ∃ t u v, h.get? a = some { cls := .type "range", data := .fields #[.int lo t, .int hi u, .int 1 v] }
  | .frz o u => h.get? a = some o ∧ ObjOk H h a u
  | .tbl ps => h.get? a = some { cls := .none, data := .fields ps }
  | .met f x => h.get? a = some (PySem.W.methodObj (.ref f) (.ref x))
  | .ext φ => φ h ∧ (∃ o, h.get? a = some o) ∧ ∀ h1 h2 : Heap, φ h1 → (∀ o, h1.get? a = some o → h2.get? a = some o) → φ h2
/-- the abstract heap is held -/
def HOk (H : Hp) (h : Heap) : Prop := ∀ a o, H a = some o → ObjOk P w H h a o
end

section
variable {P : Program} {w : World} {H H' : Hp} {h h' : Heap} {a : Addr} {o : HO}
theorem ObjOk.lt (x : ObjOk P w H h a o) : a < h.objs.size := by
  cases o with
  | lst xs => obtain ⟨_, _, _, _, e⟩ := x; exact Heap.lt_size e
  | tup xs => obtain ⟨_, _, _, p⟩ := x; exact p.lt
  | dK kvs => obtain ⟨_, _, _, _, o, _, _, e, _⟩ := x; exact Heap.lt_size e
  | dT kvs => obtain ⟨_, _, _, _, o, _, _, e, _⟩ := x; exact Heap.lt_size e
  | set S n => obtain ⟨o, _, _, _, e, _⟩ := x; exact Heap.lt_size e
  | ins C dx fs => obtain ⟨_, _, _, e, _⟩ := x; exact Heap.lt_size e
  | own y => obtain ⟨_, e⟩ := x; exact Heap.lt_size e
  | xd fs => obtain ⟨_, ⟨_, _, _, e, _⟩, _⟩ := x; exact Heap.lt_size e
  | rng lo hi => obtain ⟨_, _, _, e⟩ := x; exact Heap.lt_size e
  | frz ob u => obtain ⟨e, _⟩ := x; exact Heap.lt_size e
  | tbl ps => exact Heap.lt_size (show h.get? a = some _ from x)
  | met f y => exact Heap.lt_size (show h.get? a = some _ from x)
  | ext φ => obtain ⟨_, ⟨_, e⟩, _⟩ := x; exact Heap.lt_size e
theorem Paired.mapP {α β : Type} {F G : α → β → Prop} : ∀ {l₁ : List α} {l₂ : List β}, Paired F l₁ l₂ → (∀ a b, F a b → G a b) → Paired G l₁ l₂
  | _, _, .nil, _ => .nil
  | _, _, .cons r t, f => .cons (f _ _ r) (Paired.mapP t f)
/-- what an object's description leans on: its own object, its own dict, the tuples -/
theorem ObjOk.stay (x : ObjOk P w H h a o) (k : ∀ b u, (b = a ∨ H b = some (.own a)) → h.get? b = some u → h'.get? b = some u)
    (ho : ∀ b, H b = some (.own a) → H' b = some (.own a)) (ht : ∀ b xs, H b = some (.tup xs) → H' b = some (.tup xs)) : ObjOk P w H' h' a o := by
  induction o with
  | lst xs => obtain ⟨z, its, n, r, e⟩ := x; exact ⟨z, its, n, r, k _ _ (.inl rfl) e⟩
  | tup xs => obtain ⟨z, its, r, ob, e, c⟩ := x; exact ⟨z, its, r, ob, k _ _ (.inl rfl) e, c⟩
  | dK kvs => obtain ⟨z, y, vs, r, ob, es, ep, e, c⟩ := x; exact ⟨z, y, vs, r, ob, es, ep, k _ _ (.inl rfl) e, c⟩
  | dT kvs =>
    obtain ⟨z, y, xs, r, ob, es, ep, e, c⟩ := x
    exact ⟨z, y, xs, Paired.mapP r fun p q z => ⟨z.1, ht _ _ z.2.1, z.2.2⟩, ob, es, ep, k _ _ (.inl rfl) e, c⟩
  | set S n => obtain ⟨ob, es, ep, t, e, c⟩ := x; exact ⟨ob, es, ep, t, k _ _ (.inl rfl) e, c⟩
  | ins C dx fs =>
    obtain ⟨d, z, ne, e, mA, ⟨od, es, ep, e2, c⟩, r⟩ := x
    exact ⟨ho _ d, z, ne, k _ _ (.inl rfl) e, mA, ⟨od, es, ep, k _ _ (.inr d) e2, c⟩, r⟩
  | own y => obtain ⟨ob, e⟩ := x; exact ⟨ob, k _ _ (.inl rfl) e⟩
  | xd fs => obtain ⟨mA, ⟨od, es, ep, e, c⟩, r⟩ := x; exact ⟨mA, ⟨od, es, ep, k _ _ (.inl rfl) e, c⟩, r⟩
  | rng lo hi => obtain ⟨t, u, v, e⟩ := x; exact ⟨t, u, v, k _ _ (.inl rfl) e⟩
  | frz ob u ih => obtain ⟨e, q⟩ := x; exact ⟨k _ _ (.inl rfl) e, ih q⟩
  | tbl ps =>
    have e : h.get? a = some { cls := .none, data := .fields ps } := x
    show h'.get? a = some { cls := .none, data := .fields ps }
    exact k a _ (.inl rfl) e
  | met f y =>
    have e : h.get? a = some (PySem.W.methodObj (.ref f) (.ref y)) := x
    show h'.get? a = some (PySem.W.methodObj (.ref f) (.ref y))
    exact k a _ (.inl rfl) e
  | ext φ => obtain ⟨p, ⟨o, e⟩, st⟩ := x; exact ⟨st _ _ p fun o q => k _ _ (.inl rfl) q, ⟨o, k _ _ (.inl rfl) e⟩, st⟩
theorem HOk.lt (x : HOk P w H h) (e : H a = some o) : a < h.objs.size := (x a o e).lt
theorem HOk.fresh (x : HOk P w H h) (e : h.objs.size ≤ a) : H a = none := by
  cases q : H a with
  | none => rfl
  | some u => exact absurd (Nat.lt_of_lt_of_le (x.lt q) e) (Nat.lt_irrefl _)
/-- every object of the heap is kept -/
theorem HOk.kept (x : HOk P w H h) (k : ∀ b u, h.get? b = some u → h'.get? b = some u) : HOk P w H h' := fun a o e =>
  (x a o e).stay (fun b u _ q => k b u q) (fun _ q => q) fun _ _ q => q
/-- a new object is laid and tracked -/
theorem HOk.laid (x : HOk P w H h) (k : ∀ b u, h.get? b = some u → h'.get? b = some u) (hp : h.objs.size ≤ a) (new : ObjOk P w (upd H a o) h' a o) : HOk P w (upd H a o) h' := fun b u e => by
  have hn := x.fresh hp
  by_cases hb : b = a
  · subst hb; rw [upd_same] at e; cases e; exact new
  · rw [upd_ne hb] at e
    exact (x b u e).stay (fun c v _ q => k c v q) (fun c q => by rw [upd_ne (ne_of_none q hn)]; exact q) fun c xs q => by rw [upd_ne (ne_of_none q hn)]; exact q
end

/-- what may be read as u: it is u, or a known u -/
def Rd (H : Hp) (a : Addr) (u : HO) : Prop := H a = some u ∨ ∃ o, H a = some (.frz o u)
theorem Rd.ok {P : Program} {w : World} {H : Hp} {h : Heap} {a : Addr} {u : HO} (r : Rd H a u) (x : HOk P w H h) : ObjOk P w H h a u := by
  rcases r with r | ⟨o, r⟩
  · exact x a u r
  · obtain ⟨_, q⟩ := x a _ r
    exact q
/-- what may be written -/
def Mut : Option HO → Prop
  | some (.lst _) => True
  | some (.dK _) => True
  | some (.dT _) => True
  | some (.set _ _) => True
  | some (.ins _ _ _) => True
  | some (.ext _) => True
  | _ => False
section
variable {P : Program} {w : World} {H : Hp} {h h' : Heap} {x e : Addr} {o' : HO}
/-- the object at e is changed: x itself, or the dict of the instance x -/
theorem HOk.write (ok : HOk P w H h) (mu : Mut (H x)) (he : e = x ∨ H e = some (.own x)) (k : ∀ b u, b ≠ e → h.get? b = some u → h'.get? b = some u) (heo : ∃ u, h'.get? e = some u)
    (new : ObjOk P w (upd H x o') h' x o') : HOk P w (upd H x o') h' := fun b u q => by
  have nown : ∀ c y, H c = some (.own y) → c ≠ x := fun c y r z => by subst z; rw [r] at mu; exact mu
  have ntup : ∀ c xs, H c = some (.tup xs) → c ≠ x := fun c xs r z => by subst z; rw [r] at mu; exact mu
  by_cases hb : b = x
  · subst hb; rw [upd_same] at q; cases q; exact new
  · rw [upd_ne hb] at q
    by_cases hbe : b = e
    · have q' : H b = some (.own x) := by
        rcases he with z | z
        · exact absurd (hbe.trans z) hb
        · rw [hbe]; exact z
      rw [q] at q'; cases q'
      obtain ⟨v, hv⟩ := heo
      exact ⟨v, by rw [hbe]; exact hv⟩
    · refine (ok b u q).stay (fun c v hc r => k c v ?_ r) (fun c r => by rw [upd_ne (nown c b r)]; exact r) fun c xs r => by rw [upd_ne (ntup c xs r)]; exact r
      rcases hc with rfl | hc
      · exact hbe
      · rintro rfl
        rcases he with z | z
        · exact nown c b hc z
        · rw [hc] at z; cases z; exact hb rfl
end

/-! ### kept unless tracked; of the frames at fs (the callers') the slots may change (an exception that passes writes there); of the records at ex (iterators) nothing is said -/
structure Un (fs ex : List Addr) (H H' : Hp) (h h' : Heap) : Prop where
  keep : ∀ b o, h.get? b = some o → H b = none → b ∉ fs → b ∉ ex → h'.get? b = some o
  slot : ∀ b o, h.get? b = some o → H b = none → b ∈ fs → b ∉ ex → ∃ sl, h'.get? b = some { o with slots := sl }
  free : ∀ b o, h.get? b = some o → H b = none → b ∉ ex → H' b = none
  there : ∀ b o, h.get? b = some o → b ∉ ex → ∃ o', h'.get? b = some o'
  tups : ∀ b xs, H b = some (.tup xs) → H' b = some (.tup xs)
  frzs : ∀ b o u, H b = some (.frz o u) → H' b = some (.frz o u)
  tbls : ∀ b ps, H b = some (.tbl ps) → ∃ more, H' b = some (.tbl (ps ++ more))
section
variable {fs fs' ex ex' : List Addr} {H H1 H2 : Hp} {h h1 h2 h' : Heap} {a x e : Addr} {o : HO}
theorem Un.any (u : Un fs ex H H1 h h1) {b : Addr} {ob : Obj} (q : h.get? b = some ob) (n : H b = none) (hx : b ∉ ex) : ∃ sl, h1.get? b = some { ob with slots := sl } := by
  by_cases hb : b ∈ fs
  · exact u.slot b ob q n hb hx
  · exact ⟨ob.slots, u.keep b ob q n hb hx⟩
theorem Un.kept (k : ∀ b u, h.get? b = some u → h'.get? b = some u) : Un fs ex H H h h' :=
  ⟨fun b ob q _ _ _ => k b ob q, fun b ob q _ _ _ => ⟨ob.slots, k b ob q⟩, fun _ _ _ n _ => n, fun b ob q _ => ⟨ob, k b ob q⟩, fun _ _ q => q, fun _ _ _ q => q, fun _ ps q => ⟨#[], by rw [q]; simp⟩⟩
theorem Un.refl : Un fs ex H H h h := Un.kept fun _ _ q => q
theorem Un.laid (k : ∀ b u, h.get? b = some u → h'.get? b = some u) (hp : h.objs.size ≤ a) (hn : H a = none) : Un fs ex H (upd H a o) h h' where
  keep := fun b u q _ _ _ => k b u q
  slot := fun b u q _ _ _ => ⟨u.slots, k b u q⟩
  free := fun b u q n _ => by rw [upd_ne (Nat.ne_of_lt (Nat.lt_of_lt_of_le (Heap.lt_size q) hp))]; exact n
  there := fun b u q _ => ⟨u, k b u q⟩
  tups := fun b xs q => by rw [upd_ne (ne_of_none q hn)]; exact q
  frzs := fun b u xs q => by rw [upd_ne (ne_of_none q hn)]; exact q
  tbls := fun b ps q => ⟨#[], by rw [upd_ne (ne_of_none q hn), q]; simp⟩
theorem Un.write (mu : Mut (H x)) (he : e = x ∨ H e = some (.own x)) (k : ∀ b u, b ≠ e → h.get? b = some u → h'.get? b = some u) (heo : ∃ u, h'.get? e = some u) : Un fs ex H (upd H x o) h h' := by
  have hx : ∀ b, H b = none → b ≠ x := fun b n z => by subst z; rw [n] at mu; exact mu
  have hb : ∀ b, H b = none → b ≠ e := fun b n z => by
    subst z
    rcases he with r | r
    · exact hx b n r
    · rw [n] at r; cases r
  have hm : ∀ b u, H b = some u → ¬ Mut (some u) → b ≠ x := fun b u q nm z => by subst z; rw [q] at mu; exact nm mu
  refine ⟨fun b u q n _ _ => k b u (hb b n) q, fun b u q n _ _ => ⟨u.slots, k b u (hb b n) q⟩, fun b u q n _ => by rw [upd_ne (hx b n)]; exact n, fun b u q _ => ?_,
    fun b xs q => by rw [upd_ne (hm b _ q fun z => z)]; exact q, fun b u xs q => by rw [upd_ne (hm b _ q fun z => z)]; exact q, fun b ps q => ⟨#[], by rw [upd_ne (hm b _ q fun z => z), q]; simp⟩⟩
  by_cases hbe : b = e
  · subst hbe; exact heo
  · exact ⟨u, k b u hbe q⟩
end

/-! ### the heap without what is tracked -/
def trk (h : Heap) (H : Hp) : List Addr := (List.range h.objs.size).filter fun a => (H a).isSome
def hidT (h : Heap) (H : Hp) : Heap := PySem.W.hideAll h (trk h H)
theorem hidT_size (h : Heap) (H : Hp) : (hidT h H).objs.size = h.objs.size := PySem.W.hideAll_size _ _
theorem hidT_get {h : Heap} {H : Hp} {b : Addr} {o : Obj} (e : h.get? b = some o) (n : H b = none) : (hidT h H).get? b = some o :=
  PySem.W.hideAll_get _ e fun hm => by
    have q : (H b).isSome = true := (List.mem_filter.mp hm).2
    rw [n] at q; simp at q
theorem of_hidT {h : Heap} {H : Hp} {b : Addr} {o : Obj} (e : (hidT h H).get? b = some o) : h.get? b = some o ∧ H b = none := by
  have e' : h.get? b = some o := PySem.W.of_hideAll (trk h H) e
  refine ⟨e', ?_⟩
  cases q : H b with
  | none => rfl
  | some x =>
    have hm : b ∈ trk h H := List.mem_filter.mpr ⟨List.mem_range.mpr (Heap.lt_size e'), by simp [q]⟩
    have z : (hidT h H).get? b = none := PySem.W.hideAll_none (trk h H) hm
    rw [z] at e; cases e

/-! ### OpenK's ledger, filled with every new object but one -/
end L2

namespace L2
open PySem PySem.Spec PyProof.Rows

/-- the module's facts, over the base: the heap at the law's entry without what is tracked there -/
structure Mod (K : PySem.W.Frag) (mg : Str → Option Value) (base : Heap) : Prop where
  kin : K.In base
  glob : base.Ns mainGlobals mg
  blt : ∃ mb, base.Ns builtinsNs mb ∧ ∀ x : Str, x ≠ "__name__" → mb x = bootBuiltins x
  nolimit : base.NoLimit

/-- the context: a def's body (or a comprehension's block) running. base: fixed through the whole law; s₀, H₀: the entry; outer: the frames whose slots others may change (a def's callers); stack: all frames that run;
   ex: iterators that were made ahead of the entry and are walked here (a comprehension's); fn: the names whose cells were made at the entry (a def: all; a comprehension's block: its own); calm: not within an except suite; pn: pins that every state bears; xe: what is wanted of an exception that leaves the code -/
structure Cx where
  prog : Program
  w : World
  K : PySem.W.Frag
  mg : Str → Option Value
  base : Heap
  A : Around
  N : List Str
  s_0 : Shared
  H_0 : Hp
  env : Env
  outer : List Env
  stack : List Env
  ex : List Addr
  fn : Str → Bool
  calm : Bool
  pn : List (Addr × Obj)
  xe : Value → Shared → Prop
/-- the callers' frames -/
def frs (l : List Env) : List Addr := l.filterMap (·.frame)
abbrev Cx.fs (X : Cx) : List Addr := frs X.outer

def Vis (sc : Scope) (x : Str) : Prop := sc.names.lookup x = some .local ∨ sc.names.lookup x = some .cell ∨ sc.names.lookup x = some .free
def Loc (sc : Scope) (x : Str) : Prop := sc.names.lookup x = some .local ∨ sc.names.lookup x = some .cell
def Look (env : Env) (h : Heap) (m : Str → Option Value) (x : Str) (u : Value) : Prop :=
  (env.kindOf x = some .local ∧ m x = some u) ∨ ((env.kindOf x = some .cell ∨ env.kindOf x = some .free) ∧ ∃ c, env.cells.lookup x = some c ∧ h.IsCell c (some u))

structure Cx.Ok (X : Cx) : Prop where
  mod : Mod X.K X.mg X.base
  kind : X.env.scope.kind = .function
  glob : X.env.globals = mainGlobals
  blt : X.env.builtins = builtinsNs
  above : X.s_0.heap.objs.size ≤ X.env.locals
  inj : ∀ x y c, X.env.cells.lookup x = some c → X.env.cells.lookup y = some c → x = y
  has : ∀ x, (X.env.kindOf x = some .cell ∨ X.env.kindOf x = some .free) → ∃ c, X.env.cells.lookup x = some c
  cab : ∀ x c, X.fn x = true → X.env.cells.lookup x = some c → X.s_0.heap.objs.size ≤ c
  hd : X.calm = true → X.A.handled = none
  frames : X.A.frames = some X.stack
  stk : X.stack = X.outer ∨ (X.stack = X.env :: X.outer ∧ X.env.frame = some X.env.locals)
  exf : ∀ b ∈ X.ex, b ≠ X.env.locals ∧ ∀ x c, X.env.cells.lookup x = some c → c ≠ b
  bs : ∀ b o, X.base.get? b = some o → X.s_0.heap.get? b = some o ∧ X.H_0 b = none
  bsz : X.base.objs.size ≤ X.s_0.heap.objs.size
  noex : ∀ b o, X.base.get? b = some o → b ∉ X.ex
  exfs : ∀ b ∈ X.ex, b ∉ X.fs
  funs : X.s_0.heap.FunFrames X.base X.outer
  frf : ∀ b ∈ X.fs, X.H_0 b = none

structure Inv (X : Cx) (pins : List (Addr × Obj)) (σ : List (Option V)) (H : Hp) (s : Shared) : Prop where
  ok : X.Ok
  os : s.os = X.s_0.os
  bare : AllBare s.gens
  base : Un X.fs X.ex X.H_0 H X.s_0.heap s.heap
  loc : ∃ m, s.heap.Ns X.env.locals m ∧ ∀ (i : Nat) (x : Str) (v : V), X.N[i]? = some x → σ[i]? = some (some v) → Vis X.env.scope x → ∃ u, RelV v u ∧ Look X.env s.heap m x u
  cell : ∀ x c, X.env.cells.lookup x = some c → ∃ v, s.heap.IsCell c v
  free : H X.env.locals = none
  freeC : ∀ x c, X.env.cells.lookup x = some c → H c = none
  pin : ∀ p ∈ X.pn ++ pins, s.heap.get? p.1 = some p.2 ∧ H p.1 = none ∧ p.1 ≠ X.env.locals ∧ p.1 ∉ X.fs ∧ ∀ v, p.2.data ≠ .cell v
  hok : HOk X.prog X.w H s.heap
  len : σ.length = X.N.length

section
variable {X : Cx} {pins : List (Addr × Obj)} {σ : List (Option V)} {H H' : Hp} {s : Shared} {h' : Heap}

theorem Cx.Ok.nofr (ok : X.Ok) {b : Addr} {o : Obj} (e : X.base.get? b = some o) : b ∉ X.fs := fun hb => by
  have := (ok.funs.mem hb).1
  rw [e] at this; cases this
theorem Inv.bs (I : Inv X pins σ H s) : ∀ b o, X.base.get? b = some o → s.heap.get? b = some o ∧ H b = none := fun b o e =>
  ⟨I.base.keep b o (I.ok.bs b o e).1 (I.ok.bs b o e).2 (I.ok.nofr e) (I.ok.noex b o e), I.base.free b o (I.ok.bs b o e).1 (I.ok.bs b o e).2 (I.ok.noex b o e)⟩
theorem Inv.bk (I : Inv X pins σ H s) : ∀ b o, X.base.get? b = some o → s.heap.get? b = some o := fun b o e => (I.bs b o e).1
theorem Inv.mod (I : Inv X pins σ H s) : Mod X.K X.mg X.base := I.ok.mod
theorem Inv.kIn (I : Inv X pins σ H s) : X.K.In s.heap := I.ok.mod.kin.keeps I.bk
theorem Inv.lt (I : Inv X pins σ H s) : X.env.locals < s.heap.objs.size := let ⟨_, hn, _⟩ := I.loc; hn.lt
theorem Inv.sz (I : Inv X pins σ H s) : X.s_0.heap.objs.size ≤ s.heap.objs.size := Nat.le_trans I.ok.above (Nat.le_of_lt I.lt)
theorem Inv.nofs (I : Inv X pins σ H s) {a : Addr} (h : s.heap.objs.size ≤ a) : a ∉ X.fs := fun hb => by
  obtain ⟨_, o, ho, _⟩ := I.ok.funs.mem hb
  exact absurd (Nat.lt_of_lt_of_le (Heap.lt_size ho) (Nat.le_trans I.sz h)) (Nat.lt_irrefl _)
theorem Inv.cne (I : Inv X pins σ H s) : ∀ x c, X.env.cells.lookup x = some c → c ≠ X.env.locals := fun x c e z => by
  obtain ⟨v, o, ho, hd⟩ := I.cell x c e
  obtain ⟨m, ⟨o', es, ep, ho', hd', _⟩, _⟩ := I.loc
  rw [z, ho'] at ho; cases ho; rw [hd'] at hd; cases hd
theorem Inv.funs (I : Inv X pins σ H s) : s.heap.FunFrames X.base X.outer := by
  have all : ∀ (l : List Env), (∀ b ∈ frs l, b ∈ X.fs) → X.s_0.heap.FunFrames X.base l → s.heap.FunFrames X.base l := by
    intro l
    induction l with
    | nil => intro _ _; trivial
    | cons env r ih =>
      intro hs hl
      obtain ⟨hk, ⟨L, o, hf, hn, ho, hd⟩, hr⟩ := hl
      have hL : L ∈ X.fs := hs L (by unfold frs; rw [List.filterMap_cons, hf]; exact List.mem_cons_self)
      obtain ⟨sl, e⟩ := I.base.slot L o ho (I.ok.frf L hL) hL fun z => I.ok.exfs L z hL
      exact ⟨hk, ⟨L, _, hf, hn, e, hd⟩, ih (fun b hb => hs b (by unfold frs; rw [List.filterMap_cons, hf]; exact List.mem_cons_of_mem _ hb)) hr⟩
  exact all X.outer (fun _ hb => hb) I.ok.funs

/-- the frames that run, for a call -/
theorem Inv.stack (I : Inv X pins σ H s) : s.heap.FunFrames X.base X.stack := by
  rcases I.ok.stk with e | ⟨e, hf⟩
  · rw [e]; exact I.funs
  · rw [e]
    obtain ⟨m, hn, _⟩ := I.loc
    refine .cons (by rw [I.ok.kind]; decide) hf hn ?_ I.funs
    exact Heap.get?_none_of_le (Nat.le_trans I.ok.bsz I.ok.above)
theorem Inv.stkSub (I : Inv X pins σ H s) : ∀ b ∈ frs X.stack, b ∈ X.env.locals :: X.fs := fun b hb => by
  rcases I.ok.stk with e | ⟨e, hf⟩
  · rw [e] at hb; exact List.mem_cons_of_mem _ hb
  · rw [e] at hb
    unfold frs at hb
    rw [List.filterMap_cons, hf] at hb
    exact hb
theorem Inv.stkFree (I : Inv X pins σ H s) : ∀ b ∈ frs X.stack, H b = none := fun b hb => by
  rcases List.mem_cons.mp (I.stkSub b hb) with e | hb
  · rw [e]; exact I.free
  · obtain ⟨_, o, ho, _⟩ := I.ok.funs.mem hb
    exact I.base.free b o ho (I.ok.frf b hb) fun z => I.ok.exfs b z hb

/-- THE STEP: the untracked objects but the frame and the records at ch are kept (the callers' frames up to slots), the frame's map is kept, the new abstract heap is held -/
theorem Inv.step {g' : Array GenState} {t' : Nat} {d' : Drawn} {ch : List Addr} (I : Inv X pins σ H s)
    (hch : ∀ b ∈ ch, (b ∈ X.ex ∨ X.s_0.heap.objs.size ≤ b) ∧ b ≠ X.env.locals ∧ (∀ x c, X.env.cells.lookup x = some c → c ≠ b) ∧ ∀ p ∈ X.pn ++ pins, p.1 ≠ b)
    (keep : ∀ b o, b ≠ X.env.locals → b ∉ X.fs → b ∉ ch → s.heap.get? b = some o → H b = none → h'.get? b = some o)
    (slot : ∀ b o, b ≠ X.env.locals → b ∈ X.fs → b ∉ ch → s.heap.get? b = some o → H b = none → ∃ sl, h'.get? b = some { o with slots := sl }) (free : ∀ b o, b ∉ ch → s.heap.get? b = some o → H b = none → H' b = none)
    (there : ∀ b o, b ∉ ch → s.heap.get? b = some o → ∃ o', h'.get? b = some o')
    (tups : ∀ b xs, H b = some (.tup xs) → H' b = some (.tup xs)) (frzs : ∀ b o u, H b = some (.frz o u) → H' b = some (.frz o u)) (tbls : ∀ b ps, H b = some (.tbl ps) → ∃ more, H' b = some (.tbl (ps ++ more)))
    (ns : ∀ m, s.heap.Ns X.env.locals m → h'.Ns X.env.locals m) (hok : HOk X.prog X.w H' h') (hg : AllBare g') :
    Inv X pins σ H' { s with heap := h', gens := g', drawn := d', toks := t' } := by
  have neL : ∀ b o, X.s_0.heap.get? b = some o → b ≠ X.env.locals := fun b o e => Nat.ne_of_lt (Nat.lt_of_lt_of_le (Heap.lt_size e) I.ok.above)
  have neC : ∀ b o, X.s_0.heap.get? b = some o → b ∉ X.ex → b ∉ ch := fun b o e hx hb => by
    rcases (hch b hb).1 with z | z
    · exact hx z
    · exact absurd (Nat.lt_of_lt_of_le (Heap.lt_size e) z) (Nat.lt_irrefl _)
  have cellK : ∀ x c, X.env.cells.lookup x = some c → ∀ v, s.heap.IsCell c v → h'.IsCell c v := fun x c e v ⟨o, ho, hd⟩ => by
    have nch : c ∉ ch := fun z => (hch c z).2.2.1 x c e rfl
    by_cases hc : c ∈ X.fs
    · obtain ⟨sl, q⟩ := slot c o (I.cne x c e) hc nch ho (I.freeC x c e)
      exact ⟨_, q, hd⟩
    · exact ⟨o, keep c o (I.cne x c e) hc nch ho (I.freeC x c e), hd⟩
  refine ⟨I.ok, I.os, hg, ⟨fun b o e n hb hx => ?_, fun b o e n hb hx => ?_, fun b o e n hx => ?_, fun b o e hx => ?_, fun b xs e => tups b xs (I.base.tups b xs e), fun b o xs e => frzs b o xs (I.base.frzs b o xs e), fun b ps e => ?_⟩, ?_, fun x c e => ?_, ?_, fun x c e => ?_, fun p hp => ?_, hok, I.len⟩
  · exact keep b o (neL b o e) hb (neC b o e hx) (I.base.keep b o e n hb hx) (I.base.free b o e n hx)
  · obtain ⟨sl, e1⟩ := I.base.slot b o e n hb hx
    obtain ⟨sl', e2⟩ := slot b _ (neL b o e) hb (neC b o e hx) e1 (I.base.free b o e n hx)
    exact ⟨sl', e2⟩
  · obtain ⟨o', e1⟩ := I.base.there b o e hx
    exact free b o' (neC b o e hx) e1 (I.base.free b o e n hx)
  · obtain ⟨o', e1⟩ := I.base.there b o e hx
    exact there b o' (neC b o e hx) e1
  · obtain ⟨m1, e1⟩ := I.base.tbls b ps e
    obtain ⟨m2, e2⟩ := tbls b _ e1
    exact ⟨m1 ++ m2, by rw [e2, Array.append_assoc]⟩
  · obtain ⟨m, hn, hl⟩ := I.loc
    refine ⟨m, ns m hn, fun i x v e1 e2 e3 => ?_⟩
    obtain ⟨u, r, l⟩ := hl i x v e1 e2 e3
    refine ⟨u, r, ?_⟩
    rcases l with l | ⟨k, c, e, z⟩
    · exact .inl l
    · exact .inr ⟨k, c, e, cellK x c e _ z⟩
  · obtain ⟨v, z⟩ := I.cell x c e
    exact ⟨v, cellK x c e v z⟩
  · obtain ⟨m, ⟨o, _, _, ho, _⟩, _⟩ := I.loc
    exact free _ o (fun z => (hch _ z).2.1 rfl) ho I.free
  · obtain ⟨v, o, ho, hd⟩ := I.cell x c e
    exact free c o (fun z => (hch c z).2.2.1 x c e rfl) ho (I.freeC x c e)
  · obtain ⟨e, n, ne, nf, d⟩ := I.pin p hp
    have nch : p.1 ∉ ch := fun z => (hch p.1 z).2.2.2 p hp rfl
    exact ⟨keep p.1 p.2 ne nf nch e n, free p.1 p.2 nch e n, ne, nf, d⟩
/-- .. where the frame's own object is kept too -/
theorem Inv.un {t' : Nat} (I : Inv X pins σ H s) (u : Un X.fs [] H H' s.heap h') (hok : HOk X.prog X.w H' h') : Inv X pins σ H' { s with heap := h', toks := t' } := by
  obtain ⟨m, ⟨o, es, ep, ho, r⟩, _⟩ := id I.loc
  obtain ⟨sl, hL⟩ := u.any ho I.free (by simp)
  exact I.step (g' := s.gens) (d' := s.drawn) (ch := []) (fun _ z => nomatch z) (fun b o _ hb _ e n => u.keep b o e n hb (by simp)) (fun b o _ hb _ e n => u.slot b o e n hb (by simp)) (fun b o _ e n => u.free b o e n (by simp)) (fun b o _ e => u.there b o e (by simp)) u.tups u.frzs u.tbls (fun m' hm => by
    obtain ⟨o', es', ep', ho', r'⟩ := hm
    rw [ho] at ho'; cases ho'
    exact ⟨_, es', ep', hL, r'⟩) hok I.bare
/-- behind a call (or a comprehension's block): the slots of this frame may have changed too, the records at ch may have turned -/
theorem Inv.call {g' : Array GenState} {t' : Nat} {d' : Drawn} {ch : List Addr} (I : Inv X pins σ H s) (u : Un (frs X.stack) ch H H' s.heap h') (hok : HOk X.prog X.w H' h') (hg : AllBare g')
    (hch : ∀ b ∈ ch, (b ∈ X.ex ∨ X.s_0.heap.objs.size ≤ b) ∧ b ≠ X.env.locals ∧ (∀ x c, X.env.cells.lookup x = some c → c ≠ b) ∧ ∀ p ∈ X.pn ++ pins, p.1 ≠ b) :
    Inv X pins σ H' { s with heap := h', gens := g', drawn := d', toks := t' } := by
  obtain ⟨m, ⟨o, es, ep, ho, r⟩, _⟩ := id I.loc
  obtain ⟨sl, hL⟩ := u.any ho I.free fun z => (hch _ z).2.1 rfl
  exact I.step (ch := ch) hch (fun b o hL hb hc e n => u.keep b o e n (fun z => (List.mem_cons.mp (I.stkSub b z)).elim hL hb) hc) (fun b o _ _ hc e n => u.any e n hc) (fun b o hc e n => u.free b o e n hc) (fun b o hc e => u.there b o e hc) u.tups u.frzs u.tbls (fun m' hm => by
    obtain ⟨o', es', ep', ho', r'⟩ := hm
    rw [ho] at ho'; cases ho'
    exact ⟨_, es', ep', hL, r'⟩) hok hg
/-- an untracked record of ours (an iterator) has turned -/
theorem Inv.turned {t' : Nat} {it : Addr} (I : Inv X pins σ H s) (k : ∀ b o, b ≠ it → s.heap.get? b = some o → h'.get? b = some o) (hn : H it = none) (hL : it ≠ X.env.locals)
    (h1 : it ∈ X.ex ∨ X.s_0.heap.objs.size ≤ it) (h2 : ∀ x c, X.env.cells.lookup x = some c → c ≠ it) (h3 : ∀ p ∈ X.pn ++ pins, p.1 ≠ it) : Inv X pins σ H { s with heap := h', toks := t' } := by
  have nit : ∀ b u, H b = some u → b ≠ it := fun b u e z => by rw [z, hn] at e; cases e
  refine I.step (g' := s.gens) (d' := s.drawn) (ch := [it]) (fun b hb => ?_) (fun b o _ _ hc e _ => k b o (fun z => hc (by simp [z])) e) (fun b o _ _ hc e _ => ⟨o.slots, k b o (fun z => hc (by simp [z])) e⟩) (fun _ _ _ _ n => n)
    (fun b o hc e => ⟨o, k b o (fun z => hc (by simp [z])) e⟩) (fun _ _ e => e) (fun _ _ _ e => e) (fun b ps e => ⟨#[], by rw [e]; simp⟩) (fun m hm => ?_) (fun b u e => ?_) I.bare
  · have e : b = it := by simpa using hb
    subst e
    exact ⟨h1, hL, h2, h3⟩
  · obtain ⟨o, es, ep, ho, r⟩ := hm
    exact ⟨o, es, ep, k _ o (Ne.symm hL) ho, r⟩
  · refine (I.hok b u e).stay (fun c v hc q => k c v ?_ q) (fun _ q => q) fun _ _ q => q
    rcases hc with z | z
    · rw [z]; exact nit b u e
    · exact nit c _ z
theorem Inv.tok (I : Inv X pins σ H s) (t : Nat) : Inv X pins σ H { s with toks := t } := I.un (h' := s.heap) (t' := t) Un.refl I.hok
/-- all objects kept -/
theorem Inv.kept {t' : Nat} (I : Inv X pins σ H s) (k : ∀ b u, s.heap.get? b = some u → h'.get? b = some u) : Inv X pins σ H { s with heap := h', toks := t' } := I.un (Un.kept k) (I.hok.kept k)
/-- a new object laid and tracked -/
theorem Inv.laid {a : Addr} {o : HO} {t' : Nat} (I : Inv X pins σ H s) (k : ∀ b u, s.heap.get? b = some u → h'.get? b = some u) (hp : s.heap.objs.size ≤ a) (new : ObjOk X.prog X.w (upd H a o) h' a o) :
    Inv X pins σ (upd H a o) { s with heap := h', toks := t' } := I.un (Un.laid k hp (I.hok.fresh hp)) (I.hok.laid k hp new)
/-- an object written -/
theorem Inv.write {x e : Addr} {o : HO} {t' : Nat} (I : Inv X pins σ H s) (mu : Mut (H x)) (he : e = x ∨ H e = some (.own x)) (k : ∀ b u, b ≠ e → s.heap.get? b = some u → h'.get? b = some u) (heo : ∃ u, h'.get? e = some u)
    (new : ObjOk X.prog X.w (upd H x o) h' x o) : Inv X pins σ (upd H x o) { s with heap := h', toks := t' } := I.un (Un.write mu he k heo) (I.hok.write mu he k heo new)
/-- forgetting slots, pins -/
theorem Inv.weak {σ' : List (Option V)} (I : Inv X pins σ H s) (hl : σ'.length = σ.length) (w : ∀ (i : Nat) v, σ'[i]? = some (some v) → σ[i]? = some (some v)) : Inv X pins σ' H s :=
  ⟨I.ok, I.os, I.bare, I.base, let ⟨m, hn, hl'⟩ := I.loc; ⟨m, hn, fun i x v e1 e2 e3 => hl' i x v e1 (w i v e2) e3⟩, I.cell, I.free, I.freeC, I.pin, I.hok, hl.trans I.len⟩
theorem Inv.pins_of {pins' : List (Addr × Obj)} (I : Inv X pins σ H s) (h : ∀ p ∈ pins', s.heap.get? p.1 = some p.2 ∧ H p.1 = none ∧ p.1 ≠ X.env.locals ∧ p.1 ∉ X.fs ∧ ∀ v, p.2.data ≠ .cell v) : Inv X pins' σ H s :=
  ⟨I.ok, I.os, I.bare, I.base, I.loc, I.cell, I.free, I.freeC, fun p hp => (List.mem_append.mp hp).elim (fun z => I.pin p (List.mem_append_left _ z)) (h p), I.hok, I.len⟩

theorem nodup_ix {N : List Str} (hN : N.Nodup) {i j : Nat} {x : Str} (a : N[i]? = some x) (b : N[j]? = some x) : i = j := by
  obtain ⟨h1, e1⟩ := List.getElem?_eq_some_iff.mp a
  obtain ⟨h2, e2⟩ := List.getElem?_eq_some_iff.mp b
  exact (List.getElem_inj hN).mp (e1.trans e2.symm)

/-- a name is stored; what changed -/
theorem store_ok2 {M : Model} {A : Around} {E : Value → Shared → Prop} {i : Nat} {x : Str} {v : V} {u : Value} {Q : Unit → Shared → Prop} (I : Inv X pins σ H s) (hN : X.N.Nodup) (hi : X.N[i]? = some x) (hx : Loc X.env.scope x) (r : RelV v u)
    (h : ∀ s', Inv X pins (σ.set i (some v)) H s' → (∃ a, Heap.SameBut a s.heap s'.heap ∧ (a = X.env.locals ∨ X.env.cells.lookup x = some a)) → Q () s') (hf : X.fn x = true ∨ X.env.scope.names.lookup x = some .local := by first | exact .inl rfl | exact .inr rfl | assumption) : wpAny M A (storeName X.env x u) Q E s := by
  obtain ⟨m, hn, hl⟩ := id I.loc
  have hcls : (X.env.scope.kind == .class || (X.env.scope.kind == .module && X.env.locals != X.env.globals)) = false := by rw [I.ok.kind]; rfl
  have hiσ : i < σ.length := by rw [I.len]; exact (List.getElem?_eq_some_iff.mp hi).1
  have cne := I.cne
  have tracked : ∀ {a : Addr} {h' : Heap}, (∃ o, s.heap.get? a = some o ∧ H a = none) → Heap.SameBut a s.heap h' → HOk X.prog X.w H h' := fun {a h'} ha hs b ob e => by
    obtain ⟨_, _, hfree⟩ := ha
    refine (I.hok b ob e).stay (fun c w' hc q => (hs.2 c ?_).trans q) (fun _ q => q) fun _ _ q => q
    rintro rfl
    rcases hc with rfl | hc
    · rw [hfree] at e; cases e
    · rw [hfree] at hc; cases hc
  rcases hx with hk | hk
  · refine wpAny_storeName_local hk hn (fun h' hn' hs => ?_) hcls
    obtain ⟨oL, _, _, hoL, _⟩ := id hn
    refine h _ ⟨I.ok, I.os, I.bare, ⟨fun b o e n hb hx => ?_, fun b o e n hb hx => ?_, I.base.free, fun b o e hx => ?_, I.base.tups, I.base.frzs, I.base.tbls⟩, ⟨_, hn', fun j y v' e1 e2 e3 => ?_⟩, fun y c e => ?_, I.free, I.freeC, fun p hp => ?_, tracked ⟨oL, hoL, I.free⟩ hs, by simpa using I.len⟩ ⟨_, hs, .inl rfl⟩
    · exact (hs.2 b (Nat.ne_of_lt (Nat.lt_of_lt_of_le (Heap.lt_size e) I.ok.above))).trans (I.base.keep b o e n hb hx)
    · obtain ⟨sl, e1⟩ := I.base.slot b o e n hb hx
      exact ⟨sl, (hs.2 b (Nat.ne_of_lt (Nat.lt_of_lt_of_le (Heap.lt_size e) I.ok.above))).trans e1⟩
    · obtain ⟨o', e1⟩ := I.base.there b o e hx
      exact ⟨o', (hs.2 b (Nat.ne_of_lt (Nat.lt_of_lt_of_le (Heap.lt_size e) I.ok.above))).trans e1⟩
    · by_cases hj : j = i
      · subst hj
        rw [hi] at e1; cases e1
        rw [List.getElem?_set_self hiσ] at e2
        cases e2
        exact ⟨u, r, .inl ⟨hk, by simp⟩⟩
      · rw [List.getElem?_set_ne (Ne.symm hj)] at e2
        obtain ⟨u', r', q⟩ := hl j y v' e1 e2 e3
        refine ⟨u', r', ?_⟩
        rcases q with ⟨k, e⟩ | ⟨k, c, e, z⟩
        · refine .inl ⟨k, ?_⟩
          have : y ≠ x := fun e => hj (nodup_ix hN e1 (e ▸ hi))
          simp [this, e]
        · exact .inr ⟨k, c, e, z.sameBut hs (cne y c e)⟩
    · obtain ⟨w', z⟩ := I.cell y c e
      exact ⟨w', z.sameBut hs (cne y c e)⟩
    · obtain ⟨e, n, ne, nf, d⟩ := I.pin p hp
      exact ⟨(hs.2 p.1 ne).trans e, n, ne, nf, d⟩
  · have hfn : X.fn x = true := by
      rcases hf with z | z
      · exact z
      · rw [z] at hk; cases hk
    obtain ⟨c, hc⟩ := I.ok.has x (.inl hk)
    obtain ⟨w', z⟩ := I.cell x c hc
    refine wpAny_storeName_cell I.ok.kind hk hc z (fun h' hc' hs => ?_)
    obtain ⟨oc, hoc, hocd⟩ := id z
    refine h { s with heap := h' } ⟨I.ok, I.os, I.bare, ⟨fun b o e n hb hx => ?_, fun b o e n hb hx => ?_, I.base.free, fun b o e hx => ?_, I.base.tups, I.base.frzs, I.base.tbls⟩, ⟨m, hn.sameBut hs (Ne.symm (cne x c hc)), fun j y v' e1 e2 e3 => ?_⟩, fun y c' e => ?_, I.free, I.freeC, fun p hp => ?_, tracked ⟨oc, hoc, I.freeC x c hc⟩ hs, by simpa using I.len⟩ ⟨c, hs, .inr hc⟩
    · exact (hs.2 b (Nat.ne_of_lt (Nat.lt_of_lt_of_le (Heap.lt_size e) (I.ok.cab x c hfn hc)))).trans (I.base.keep b o e n hb hx)
    · obtain ⟨sl, e1⟩ := I.base.slot b o e n hb hx
      exact ⟨sl, (hs.2 b (Nat.ne_of_lt (Nat.lt_of_lt_of_le (Heap.lt_size e) (I.ok.cab x c hfn hc)))).trans e1⟩
    · obtain ⟨o', e1⟩ := I.base.there b o e hx
      exact ⟨o', (hs.2 b (Nat.ne_of_lt (Nat.lt_of_lt_of_le (Heap.lt_size e) (I.ok.cab x c hfn hc)))).trans e1⟩
    · by_cases hj : j = i
      · subst hj
        rw [hi] at e1; cases e1
        rw [List.getElem?_set_self hiσ] at e2
        cases e2
        exact ⟨u, r, .inr ⟨.inl hk, c, hc, hc'⟩⟩
      · rw [List.getElem?_set_ne (Ne.symm hj)] at e2
        obtain ⟨u', r', q⟩ := hl j y v' e1 e2 e3
        refine ⟨u', r', ?_⟩
        rcases q with q | ⟨k, c', e, z'⟩
        · exact .inl q
        · refine .inr ⟨k, c', e, z'.sameBut hs ?_⟩
          rintro rfl
          exact hj (nodup_ix hN e1 (I.ok.inj _ _ _ e hc ▸ hi))
    · by_cases hcc : c' = c
      · subst hcc; exact ⟨_, hc'⟩
      · obtain ⟨w2, z2⟩ := I.cell y c' e
        exact ⟨w2, z2.sameBut hs hcc⟩
    · obtain ⟨e, n, ne, nf, d⟩ := I.pin p hp
      refine ⟨(hs.2 p.1 ?_).trans e, n, ne, nf, d⟩
      intro q
      rw [q, hoc] at e
      have q' : oc = p.2 := Option.some.inj e
      exact d w' (by rw [← q']; exact hocd)
theorem store_ok {M : Model} {A : Around} {E : Value → Shared → Prop} {i : Nat} {x : Str} {v : V} {u : Value} {Q : Unit → Shared → Prop} (I : Inv X pins σ H s) (hN : X.N.Nodup) (hi : X.N[i]? = some x) (hx : Loc X.env.scope x) (r : RelV v u)
    (h : ∀ s', Inv X pins (σ.set i (some v)) H s' → Q () s') (hf : X.fn x = true ∨ X.env.scope.names.lookup x = some .local := by first | exact .inl rfl | exact .inr rfl | assumption) : wpAny M A (storeName X.env x u) Q E s :=
  store_ok2 I hN hi hx r (fun s' I' _ => h s' I') hf
/-- behind a call or a block, the state as it is -/
theorem Inv.call' {s' : Shared} {ch : List Addr} (I : Inv X pins σ H s) (ho : s'.os = s.os) (u : Un (frs X.stack) ch H H' s.heap s'.heap) (hok : HOk X.prog X.w H' s'.heap) (hg : AllBare s'.gens)
    (hch : ∀ b ∈ ch, (b ∈ X.ex ∨ X.s_0.heap.objs.size ≤ b) ∧ b ≠ X.env.locals ∧ (∀ x c, X.env.cells.lookup x = some c → c ≠ b) ∧ ∀ p ∈ X.pn ++ pins, p.1 ≠ b) : Inv X pins σ H' s' := by
  obtain ⟨h', g', d', t', o'⟩ := s'
  have e : o' = s.os := ho
  subst e
  exact I.call (g' := g') (t' := t') (d' := d') u hok hg hch
end

/-! ### the judgements -/
/-- an exception: its class, its own dict's address (where it has one), the abstract heap behind it -/
abbrev XK := Value → Option Addr → Hp → Prop
abbrev St := List (Option V)
abbrev VK := V → Hp → Prop
/-- an expression's reading; a test's; an argument list's -/
abbrev TE := St → Hp → VK → Prop
abbrev TT := St → Hp → (Bool → Hp → Prop) → Prop
abbrev TA := St → Hp → (List V → Hp → Prop) → Prop
/-- what is wanted behind a statement -/
structure Ends where
  nx : St → Hp → Prop
  rt : VK
  bk : St → Hp → Prop := fun _ _ => False
  ct : St → Hp → Prop := fun _ _ => False
abbrev TS := Ends → St → Hp → Prop

def EP (X : Cx) (pins : List (Addr × Obj)) (σ : St) (Q : VK) (u : Value) (s' : Shared) : Prop := ∃ v H', Inv X pins σ H' s' ∧ RelV v u ∧ Q v H'
def TP (X : Cx) (pins : List (Addr × Obj)) (σ : St) (Q : Bool → Hp → Prop) (b : Bool) (s' : Shared) : Prop := ∃ H', Inv X pins σ H' s' ∧ Q b H'
def AP (X : Cx) (pins : List (Addr × Obj)) (σ : St) (Q : List V → Hp → Prop) (us : List Value) (s' : Shared) : Prop := ∃ vs H', Inv X pins σ H' s' ∧ Vals vs us ∧ Q vs H'
def SP (X : Cx) (pins : List (Addr × Obj)) (D : Ends) (f : Flow) (s' : Shared) : Prop :=
  match f with
  | .next => ∃ σ' H', Inv X pins σ' H' s' ∧ D.nx σ' H'
  | .brk => ∃ σ' H', Inv X pins σ' H' s' ∧ D.bk σ' H'
  | .cont => ∃ σ' H', Inv X pins σ' H' s' ∧ D.ct σ' H'
  | .ret u => ∃ v σ' H', Inv X pins σ' H' s' ∧ RelV v u ∧ D.rt v H'

def PE (X : Cx) (e : Expr) (t : TE) : Prop :=
  ∀ (pins : List (Addr × Obj)) (s : Shared) (σ : St) (H : Hp) (Q : VK), Inv X pins σ H s → t σ H Q → wpAny (model X.prog X.w) X.A (eval e X.env) (EP X pins σ Q) X.xe s
def PT (X : Cx) (e : Expr) (t : TT) : Prop :=
  ∀ (pins : List (Addr × Obj)) (s : Shared) (σ : St) (H : Hp) (Q : Bool → Hp → Prop), Inv X pins σ H s → t σ H Q → wpAny (model X.prog X.w) X.A (isTrue e X.env (eval e X.env)) (TP X pins σ Q) X.xe s
/-- a test whatever its 'whole' is (and, or) -/
def PW (X : Cx) (e : Expr) (t : TT) : Prop :=
  ∀ (whole : Sem Value) (pins : List (Addr × Obj)) (s : Shared) (σ : St) (H : Hp) (Q : Bool → Hp → Prop), Inv X pins σ H s → t σ H Q → wpAny (model X.prog X.w) X.A (isTrue e X.env whole) (TP X pins σ Q) X.xe s
theorem PW.pt {X : Cx} {e : Expr} {t : TT} (h : PW X e t) : PT X e t := h _
/-- an argument list (no star), from the left -/
def PA (X : Cx) (es : List Expr) (t : TA) : Prop :=
  ∀ (pos : Pos) (pins : List (Addr × Obj)) (s : Shared) (σ : St) (H : Hp) (Q : List V → Hp → Prop), Inv X pins σ H s → t σ H Q → wpAny (model X.prog X.w) X.A (spliced (backTo pos (starEach es X.env))) (AP X pins σ Q) X.xe s
def PS (X : Cx) (st : Stmt) (t : TS) : Prop :=
  ∀ (pins : List (Addr × Obj)) (s : Shared) (σ : St) (H : Hp) (D : Ends), Inv X pins σ H s → t D σ H → wpAny (model X.prog X.w) X.A (exec st X.env) (SP X pins D) X.xe s
def PSs (X : Cx) (st : List Stmt) (t : TS) : Prop :=
  ∀ (pins : List (Addr × Obj)) (s : Shared) (σ : St) (H : Hp) (D : Ends), Inv X pins σ H s → t D σ H → wpAny (model X.prog X.w) X.A (execs st X.env) (SP X pins D) X.xe s
/-- weaken the end -/
theorem thn {α : Type} {t : Sem α} {Q Q' : α → Shared → Prop} {M : Model} {A : Around} {E : Value → Shared → Prop} {s : Shared} (h : wpAny M A t Q E s) (hQ : ∀ a s, Q a s → Q' a s) : wpAny M A t Q' E s := wpAny_mono h hQ fun _ _ x => x
end L2

namespace L2
open PySem PySem.Spec PyProof.Rows
section
variable {X : Cx}


/-! ### names and constants -/
def tVar (i : Nat) : TE := fun σ H Q => ∃ v, σ[i]? = some (some v) ∧ Q v H
def tC (v : V) : TE := fun _ H Q => Q v H
theorem pe_var {i : Nat} {x : Str} {pos : Pos} (hN : X.N[i]? = some x) (hv : Vis X.env.scope x) (hd : (x == ("__debug__" : Str)) = false := by decide) (hcd : (x == ("__classdict__" : Str)) = false := by decide) : PE X (.Name x pos) (tVar i) := by
  intro pins s σ H Q I h
  obtain ⟨v, e, h⟩ := h
  obtain ⟨m, hn, hl⟩ := I.loc
  obtain ⟨u, r, l⟩ := hl i x v hN e hv
  have fin : EP X pins σ Q u s := ⟨v, H, I, r, h⟩
  rcases l with ⟨hk, hm⟩ | ⟨hk, c, hc, hcell⟩
  · exact wpAny_Name (wpAny_loadName_local I.ok.kind hk hn hm fin) hd
  · rcases hk with hk | hk
    · exact wpAny_Name (wpAny_loadName_cell I.ok.kind hk hc hcell fin) hd
    · exact wpAny_Name (wpAny_loadName_free I.ok.kind hk hc hcell fin hcd) hd
theorem pe_int {i j pos} : PE X (.Constant (.int i) j pos) (tC (.int i)) := fun _ _ _ H _ I h => wpAny_Constant_int ⟨.int i, H, I.tok _, ⟨_, rfl⟩, h⟩
theorem pe_bl {b j pos} : PE X (.Constant (.bool b) j pos) (tC (.bl b)) := fun _ _ _ H _ I h => Constant_bool ⟨.bl b, H, I, rfl, h⟩

/-- a global name of the def -/
def Gl (X : Cx) (x : Str) : Prop := X.env.kindOf x = some .globalImplicit
theorem ld_glob {E : Value → Shared → Prop} {pins : List (Addr × Obj)} {s : Shared} {σ : St} {H : Hp} {x : Str} {u : Value} {pos : Pos} {Q : Value → Shared → Prop} (I : Inv X pins σ H s) (hg : Gl X x) (hm : X.mg x = some u) (h : Q u s)
    (hd : (x == ("__debug__" : Str)) = false := by decide) : wpAny (model X.prog X.w) X.A (eval (.Name x pos) X.env) Q E s :=
  Calls.Name_function_global I.ok.kind hg (Calls.loadGlobal_global (by rw [I.ok.glob]; exact I.mod.glob.keeps I.bk) hm h) hd
theorem ld_blt {E : Value → Shared → Prop} {pins : List (Addr × Obj)} {s : Shared} {σ : St} {H : Hp} {x : Str} {u : Value} {pos : Pos} {Q : Value → Shared → Prop} (I : Inv X pins σ H s) (hg : Gl X x) (hm : X.mg x = none) (hv : bootBuiltins x = some u) (h : Q u s)
    (hn : x ≠ "__name__" := by decide) (hd : (x == ("__debug__" : Str)) = false := by decide) : wpAny (model X.prog X.w) X.A (eval (.Name x pos) X.env) Q E s := by
  obtain ⟨mb, h1, h2⟩ := I.mod.blt
  exact Calls.Name_function_global I.ok.kind hg (Calls.loadGlobal_builtin (by rw [I.ok.glob]; exact I.mod.glob.keeps I.bk) hm (by rw [I.ok.blt]; exact h1.keeps I.bk) ((h2 x hn).trans hv) h) hd
/-- a module's constant, a class, a function, as a value -/
theorem pe_glob {x : Str} {v : V} {u : Value} {pos : Pos} (hg : Gl X x) (hm : X.mg x = some u) (r : RelV v u) (hd : (x == ("__debug__" : Str)) = false := by decide) : PE X (.Name x pos) (tC v) :=
  fun _ _ _ H _ I h => ld_glob I hg hm ⟨v, H, I, r, h⟩ hd

/-! ### arithmetic -/
variable {a b : Expr} {ta tb : TE} {pos : Pos}

/-! ### comparisons -/
def PC (X : Cx) (op : CmpOp) (a b : Expr) (t : TE) : Prop :=
  ∀ (pins : List (Addr × Obj)) (s : Shared) (σ : St) (H : Hp) (Q : VK), Inv X pins σ H s → t σ H Q →
    wpAny (model X.prog X.w) X.A (eval a X.env) (fun v s₁ => wpAny (model X.prog X.w) X.A (eval b X.env) (fun u s₂ => wpAny (model X.prog X.w) X.A (compareOp op v u) (EP X pins σ Q) X.xe s₂) X.xe s₁) X.xe s
/-- a comparison as a value, as a test -/
def tB (t : TE) : TT := fun σ H Q => t σ H fun x H1 => ∃ c, x = .bl c ∧ Q c H1
theorem pt_cmp {op : CmpOp} {t : TE} (h : PC X op a b t) (h1 : behindInMarks op b = false := by first | exact nobehind _ (by decide) (by decide) | rfl) : PT X (.Compare a [op] [b] pos) (tB t) := by
  intro pins s σ H Q I hw
  refine wpAny_isTrue_Compare1 (thn (h pins s σ H _ I hw) fun v s1 h1 => thn h1 fun u s2 h2 => thn h2 fun c s3 ⟨x, H1, I1, r1, q1⟩ => ?_) h1
  obtain ⟨d, rfl, q⟩ := q1
  cases r1
  exact wpAny_truthy_bool ⟨H1, I1, q⟩
/-- an expression whose value is a bool, as a test -/
theorem pt_val {e : Expr} {t : TE} (h : PE X e t) (he : ∀ whole, isTrue e X.env whole = (do let v ← whole; standAt e.pos; holding [v] (truthy v)) := by intro _; rfl) : PT X e (tB t) := by
  intro pins s σ H Q I hw
  refine isTrue_plain (thn (h pins s σ H _ I hw) fun v s1 ⟨x, H1, I1, r1, q1⟩ => ?_) (he _)
  obtain ⟨d, rfl, q⟩ := q1
  cases r1
  exact wpAny_truthy_bool ⟨H1, I1, q⟩

/-! ### and, or, not -/
variable {tA tB' : TT} {rest : List Expr}
def tAnd (t u : TT) : TT := fun σ H Q => t σ H fun c H1 => if c = true then u σ H1 Q else Q false H1
def tOr (t u : TT) : TT := fun σ H Q => t σ H fun c H1 => if c = true then Q true H1 else u σ H1 Q
def tNot (t : TT) : TT := fun σ H Q => t σ H fun c H1 => Q (!c) H1
theorem pw_and1 (ha : PT X a tA) : PW X (.BoolOp .And [a] pos) tA := by
  intro wh pins s σ H Q I h
  refine isTrue_and (thn (ha pins s σ H Q I h) fun c s1 e => ?_)
  cases c with
  | true => exact isTrue_and_nil e
  | false => exact e
theorem pw_or1 (ha : PT X a tA) : PW X (.BoolOp .Or [a] pos) tA := by
  intro wh pins s σ H Q I h
  refine isTrue_or (thn (ha pins s σ H Q I h) fun c s1 e => ?_)
  cases c with
  | false => exact isTrue_or_nil e
  | true => exact e
theorem pw_and (ha : PT X a tA) (hb : PW X (.BoolOp .And (b :: rest) pos) tB') : PW X (.BoolOp .And (a :: b :: rest) pos) (tAnd tA tB') := by
  intro wh pins s σ H Q I h
  refine isTrue_and (thn (ha pins s σ H _ I h) fun c s1 ⟨H1, I1, q1⟩ => ?_)
  cases c with
  | true => exact hb wh pins s1 σ H1 Q I1 q1
  | false => exact ⟨H1, I1, q1⟩
theorem pw_or (ha : PT X a tA) (hb : PW X (.BoolOp .Or (b :: rest) pos) tB') : PW X (.BoolOp .Or (a :: b :: rest) pos) (tOr tA tB') := by
  intro wh pins s σ H Q I h
  refine isTrue_or (thn (ha pins s σ H _ I h) fun c s1 ⟨H1, I1, q1⟩ => ?_)
  cases c with
  | true => exact ⟨H1, I1, q1⟩
  | false => exact hb wh pins s1 σ H1 Q I1 q1
theorem pt_not (ha : PT X a tA) : PT X (.UnaryOp .Not a pos) (tNot tA) := by
  intro pins s σ H Q I h
  exact isTrue_not (ha pins s σ H (fun c H1 => Q (!c) H1) I h)
/-- .. as values (bools) -/
def tAndV (ta tb : TE) : TE := fun σ H Q => ta σ H fun x H1 => ∃ c, x = .bl c ∧ if c = true then tb σ H1 Q else Q (.bl false) H1
theorem pe_one {op} {t : TE} (h : PE X a t) : PE X (.BoolOp op [a] pos) t := fun pins s σ H Q I hw => BoolOp_one (h pins s σ H Q I hw)
theorem pe_and (ha : PE X a ta) (hb : PE X (.BoolOp .And (b :: rest) pos) tb) : PE X (.BoolOp .And (a :: b :: rest) pos) (tAndV ta tb) := by
  intro pins s σ H Q I h
  refine BoolOp_and (thn (ha pins s σ H _ I h) fun v s1 ⟨x, H1, I1, r1, q1⟩ => ?_)
  obtain ⟨c, rfl, q1⟩ := q1
  cases r1
  refine wpAny_truthy_bool ?_
  cases c with
  | true => exact hb pins s1 σ H1 Q I1 q1
  | false => exact ⟨.bl false, H1, I1, rfl, q1⟩
/-- a if t else b -/
def tIf (t : TT) (ta tb : TE) : TE := fun σ H Q => t σ H fun c H1 => if c = true then ta σ H1 Q else tb σ H1 Q
theorem pe_ifExp {c : Expr} (hc : PT X c tA) (ha : PE X a ta) (hb : PE X b tb) : PE X (.IfExp c a b pos) (tIf tA ta tb) := by
  intro pins s σ H Q I h
  refine wpAny_IfExp (thn (hc pins s σ H _ I h) fun d s1 ⟨H1, I1, q1⟩ => ?_)
  cases d with
  | true => exact ha pins s1 σ H1 Q I1 q1
  | false => exact hb pins s1 σ H1 Q I1 q1
end
end L2

namespace L2
open PySem PySem.Spec PyProof.Rows

/-! ### a list, a tuple that is read: tracked, frozen, or an object of the module -/
def SqL (K : PySem.W.Frag) (H : Hp) (a : Addr) (xs : List V) : Prop :=
  Rd H a (.lst xs) ∨
    ∃ (o : Obj) (its : Array Value) (n : Nat), K.lookup a = some o ∧ o.cls = .type "list" ∧ o.dict = none ∧ o.data = .seq its n ∧ its.size ≤ sizeLine ∧ Vals xs its.toList
def SqT (K : PySem.W.Frag) (H : Hp) (a : Addr) (xs : List V) : Prop :=
  Rd H a (.tup xs) ∨
    ∃ (o : Obj) (its : Array Value) (n : Nat), K.lookup a = some o ∧ o.cls = .type "tuple" ∧ o.data = .seq its n ∧ its.size ≤ sizeLine ∧ Vals xs its.toList
def absV : Value → Option V
  | .none => some .non
  | .bool b => some (.bl b)
  | .int i _ => some (.int i)
  | .str x _ => some (.str x)
  | .bytes b _ => some (.byt b)
  | .float b _ => some (.flt b)
  | .ref a => some (.ref a)
  | .type n => some (.ty n)
  | _ => none
theorem RelV.abs {x : V} {u : Value} (r : RelV x u) : absV u = some x := by
  cases x with
  | non => cases r; rfl
  | bl _ => cases r; rfl
  | int _ => obtain ⟨t, rfl⟩ := r; rfl
  | str _ => obtain ⟨t, rfl⟩ := r; rfl
  | byt _ => obtain ⟨t, rfl⟩ := r; rfl
  | flt _ => obtain ⟨t, rfl⟩ := r; rfl
  | ref _ => cases r; rfl
  | ty _ => cases r; rfl
theorem RelV.inj {x y : V} {u : Value} (r : RelV x u) (q : RelV y u) : x = y := Option.some.inj (r.abs.symm.trans q.abs)
theorem Vals.inj : ∀ {xs ys : List V} {us : List Value}, Vals xs us → Vals ys us → xs = ys
  | _, _, _, .nil, .nil => rfl
  | _, _, _, .cons r t, .cons r' t' => by rw [r.inj r', Vals.inj t t']
section
variable {X : Cx} {pins : List (Addr × Obj)} {σ : St} {H : Hp} {s : Shared} {a : Addr} {xs ys : List V}
theorem SqL.of {K : PySem.W.Frag} (h : H a = some (.lst xs)) : SqL K H a xs := .inl (.inl h)
theorem SqT.of {K : PySem.W.Frag} (h : H a = some (.tup xs)) : SqT K H a xs := .inl (.inl h)
theorem Inv.list (I : Inv X pins σ H s) (h : SqL X.K H a xs) : ∃ its : List Value, Vals xs its ∧ PlainL s.heap a its.toArray ∧ xs.length ≤ sizeLine := by
  rcases h with h | ⟨o, its, n, hk, hc, hd, hs, hz, r⟩
  · obtain ⟨z, its, n, r, e⟩ := h.ok I.hok
    exact ⟨its, r, ⟨_, n, e, rfl, rfl, rfl⟩, z⟩
  · refine ⟨its.toList, r, ⟨o, n, I.kIn a o hk, hc, hd, by simpa using hs⟩, ?_⟩
    have e := r.length
    simp only [Array.length_toList] at e
    omega
theorem Inv.tuple (I : Inv X pins σ H s) (h : SqT X.K H a xs) : ∃ its : List Value, Vals xs its ∧ IsTup s.heap a its.toArray ∧ xs.length ≤ sizeLine := by
  rcases h with h | ⟨o, its, n, hk, hc, hs, hz, r⟩
  · obtain ⟨z, its, r, p⟩ := h.ok I.hok
    exact ⟨its, r, p, z⟩
  · refine ⟨its.toList, r, ⟨o, I.kIn a o hk, hc, n, by simpa using hs⟩, ?_⟩
    have e := r.length
    simp only [Array.length_toList] at e
    omega
theorem Inv.list_inj (I : Inv X pins σ H s) (h : SqL X.K H a xs) (h' : SqL X.K H a ys) : xs = ys := by
  obtain ⟨its, r, ⟨o, n, e, _, _, d⟩, _⟩ := I.list h
  obtain ⟨its', r', ⟨o', n', e', _, _, d'⟩, _⟩ := I.list h'
  rw [e] at e'; cases e'
  rw [d] at d'
  injection d' with d1 _
  have : its = its' := by simpa using congrArg Array.toList d1
  subst this
  exact r.inj r'
end

/-! ### another wish about exceptions -/
abbrev Cx.wish (X : Cx) (E : Value → Shared → Prop) : Cx := { X with xe := E }
/-- no exception leaves -/
abbrev Cx.nox (X : Cx) : Cx := X.wish fun _ _ => False
theorem Cx.Ok.wish {X : Cx} (ok : X.Ok) (E : Value → Shared → Prop) : (X.wish E).Ok :=
  ⟨ok.mod, ok.kind, ok.glob, ok.blt, ok.above, ok.inj, ok.has, ok.cab, ok.hd, ok.frames, ok.stk, ok.exf, ok.bs, ok.bsz, ok.noex, ok.exfs, ok.funs, ok.frf⟩
theorem Cx.Ok.unwish {X : Cx} {E : Value → Shared → Prop} (ok : (X.wish E).Ok) : X.Ok :=
  ⟨ok.mod, ok.kind, ok.glob, ok.blt, ok.above, ok.inj, ok.has, ok.cab, ok.hd, ok.frames, ok.stk, ok.exf, ok.bs, ok.bsz, ok.noex, ok.exfs, ok.funs, ok.frf⟩
section
variable {X : Cx} {pins : List (Addr × Obj)} {σ : St} {H : Hp} {s : Shared} {E : Value → Shared → Prop}
theorem Inv.wish (I : Inv X pins σ H s) (E : Value → Shared → Prop) : Inv (X.wish E) pins σ H s := ⟨I.ok.wish E, I.os, I.bare, I.base, I.loc, I.cell, I.free, I.freeC, I.pin, I.hok, I.len⟩
theorem Inv.unwish (I : Inv (X.wish E) pins σ H s) : Inv X pins σ H s := ⟨I.ok.unwish, I.os, I.bare, I.base, I.loc, I.cell, I.free, I.freeC, I.pin, I.hok, I.len⟩
theorem SP.unwish {D : Ends} {f : Flow} {s' : Shared} (h : SP (X.wish E) pins D f s') : SP X pins D f s' := by
  cases f with
  | next => obtain ⟨σ', H', I, q⟩ := h; exact ⟨σ', H', I.unwish, q⟩
  | brk => obtain ⟨σ', H', I, q⟩ := h; exact ⟨σ', H', I.unwish, q⟩
  | cont => obtain ⟨σ', H', I, q⟩ := h; exact ⟨σ', H', I.unwish, q⟩
  | ret u => obtain ⟨v, σ', H', I, r, q⟩ := h; exact ⟨v, σ', H', I.unwish, r, q⟩
theorem PSs.nox {st : List Stmt} {t : TS} (h : PSs X.nox st t) : PSs X st t := fun pins s σ H D I hw =>
  wpAny_mono (h pins s σ H D (I.wish _) hw) (fun _ _ q => q.unwish) fun _ _ z => False.elim z
end

/-! ### blocks and small statements -/
section
variable {X : Cx} {st : Stmt} {rest : List Stmt} {t u : TS} {e : Expr} {te : TE} {pos : Pos}
def tNext : TS := fun D σ H => D.nx σ H
def tSeq (t u : TS) : TS := fun D σ H => t { D with nx := u D } σ H
theorem pss_nil : PSs X [] tNext := fun _ _ σ H _ I h => wpAny_execs_nil ⟨σ, H, I, h⟩
theorem pss_cons (h1 : PS X st t) (h2 : PSs X rest u) : PSs X (st :: rest) (tSeq t u) := by
  intro pins s σ H D I h
  refine wpAny_execs_cons (thn (h1 pins s σ H { D with nx := u D } I h) fun f s1 q => ?_)
  cases f with
  | next =>
    obtain ⟨σ', H', I', q⟩ := q
    exact h2 pins s1 σ' H' D I' q
  | ret v => exact q
  | brk => exact q
  | cont => exact q
theorem pss_one (h1 : PS X st t) : PSs X [st] t := by
  intro pins s σ H D I h
  refine wpAny_execs_cons (thn (h1 pins s σ H D I h) fun f s1 q => ?_)
  cases f with
  | next => exact wpAny_execs_nil q
  | ret v => exact q
  | brk => exact q
  | cont => exact q
/-- in a def's body nothing is shown -/
theorem Inv.quiet {pins : List (Addr × Obj)} {σ : St} {H : Hp} {s : Shared} (I : Inv X pins σ H s) : interactive X.env = false := by simp [interactive, I.ok.kind]
/-- an expression whose value is dropped -/
def tDrop (te : TE) : TS := fun D σ H => te σ H fun _ H1 => D.nx σ H1
theorem ps_expr (he : PE X e te) (hs : swapsWith e none pos.line X.env = pure false := by rfl) : PS X (.Expr e pos) (tDrop te) := by
  intro pins s σ H D I h
  exact wpAny_Expr_any (thn (he pins s σ H _ I h) fun v s1 ⟨x, H1, I1, r1, q1⟩ => ⟨σ, H1, I1, q1⟩) I.quiet hs
def tRet (te : TE) : TS := fun D σ H => te σ H D.rt
theorem ps_ret (he : PE X e te) : PS X (.Return (some e) pos) (tRet te) := by
  intro pins s σ H D I h
  exact wpAny_Return_some (thn (he pins s σ H _ I h) fun v s1 ⟨x, H1, I1, r1, q1⟩ => ⟨x, σ, H1, I1, r1, q1⟩)
def tIfS (c : TT) (t u : TS) : TS := fun D σ H => c σ H fun b H1 => if b = true then t D σ H1 else u D σ H1
theorem ps_if {c : Expr} {a b : List Stmt} {tc : TT} (hc : PT X c tc) (ha : PSs X a t) (hb : PSs X b u) : PS X (.If c a b pos) (tIfS tc t u) := by
  intro pins s σ H D I h
  refine wpAny_If (thn (hc pins s σ H _ I h) fun d s1 ⟨H1, I1, q1⟩ => ?_)
  cases d with
  | true => exact ha pins s1 σ H1 D I1 q1
  | false => exact hb pins s1 σ H1 D I1 q1
/-- code that the proof never comes to -/
def tNever : TS := fun _ _ _ => False
theorem ps_never : PS X st tNever := fun _ _ _ _ _ _ h => h.elim
end

/-! ### targets -/
abbrev TG := V → St → Hp → (St → Hp → Prop) → Prop
abbrev TGs := List V → St → Hp → (St → Hp → Prop) → Prop
def PG (X : Cx) (target : Expr) (t : TG) : Prop :=
  ∀ (pins : List (Addr × Obj)) (s : Shared) (σ : St) (H : Hp) (v : V) (u : Value) (Q : St → Hp → Prop), Inv X pins σ H s → RelV v u → t v σ H Q →
    wpAny (model X.prog X.w) X.A (assign target X.env u) (fun _ s' => ∃ σ' H', Inv X pins σ' H' s' ∧ Q σ' H') X.xe s
/-- several targets, one after another -/
def PGs (X : Cx) (ts : List Expr) (t : TGs) : Prop :=
  ∀ (pins : List (Addr × Obj)) (s : Shared) (σ : St) (H : Hp) (vs : List V) (us : List Value) (Q : St → Hp → Prop), Inv X pins σ H s → Vals vs us → t vs σ H Q →
    wpAny (model X.prog X.w) X.A (assignInOrder ((assignEach ts X.env).map (·.2)) us) (fun _ s' => ∃ σ' H', Inv X pins σ' H' s' ∧ Q σ' H') X.xe s
section
variable {X : Cx} {pos : Pos}
def gName (i : Nat) : TG := fun v σ H Q => Q (σ.set i (some v)) H
theorem pg_name {i : Nat} {x : Str} (hN : X.N.Nodup) (hi : X.N[i]? = some x) (hx : Loc X.env.scope x) (hf : X.fn x = true ∨ X.env.scope.names.lookup x = some .local := by first | exact .inl rfl | exact .inr rfl | assumption) : PG X (.Name x pos) (gName i) := by
  intro pins s σ H v u Q I r h
  exact wpAny_assign_Name (store_ok I hN hi hx r (fun s' I' => ⟨_, H, I', h⟩) hf)
def gNil : TGs := fun vs σ H Q => vs = [] ∧ Q σ H
def gCons (t : TG) (u : TGs) : TGs := fun vs σ H Q => ∃ v r, vs = v :: r ∧ t v σ H fun σ' H' => u r σ' H' Q
theorem pgs_nil : PGs X [] gNil := by
  intro pins s σ H vs us Q I r h
  obtain ⟨e, h⟩ := h
  subst e
  cases r
  exact assignInOrder_nil ⟨σ, H, I, h⟩
theorem pgs_cons {e : Expr} {es : List Expr} {t : TG} {u : TGs} (h1 : PG X e t) (h2 : PGs X es u)
    (hs : (assignEach (e :: es) X.env).map (·.2) = assign e X.env :: (assignEach es X.env).map (·.2) := by rfl) : PGs X (e :: es) (gCons t u) := by
  intro pins s σ H vs us Q I r h
  obtain ⟨v, vr, e1, h⟩ := h
  subst e1
  cases r with
  | cons r rr =>
    rw [hs]
    refine assignInOrder_cons (thn (h1 pins s σ H _ _ _ I r h) fun _ s1 ⟨σ1, H1, I1, q1⟩ => ?_)
    exact h2 pins s1 σ1 H1 _ _ Q I1 rr q1
/-- (a, b, ..) = a tuple of that length -/
def gTup (K : PySem.W.Frag) (n : Nat) (t : TGs) : TG := fun v σ H Q => ∃ a xs, v = .ref a ∧ SqT K H a xs ∧ xs.length = n ∧ t xs σ H Q
theorem pg_tup {es : List Expr} {k : Nat} {t : TGs} {n : Nat} (hc : X.calm = true) (h : PGs X es t)
    (hn : (assignEach es X.env).length = n := by rfl) (hst : (assignEach es X.env).findIdx? (·.1) = none := by rfl) : PG X (.Tuple es k pos) (gTup X.K n t) := by
  intro pins s σ H v u Q I r hw
  obtain ⟨a, xs, e1, hq, hl, hw⟩ := hw
  subst e1
  cases r
  obtain ⟨its, rv, ht, hz⟩ := I.tuple hq
  refine assign_Tuple_tuple (I.ok.hd hc) ht (by simp [hn, ← hl, rv.length]) hst fun h' hx => ?_
  have I1 : Inv X pins σ H { s with heap := h' } := I.kept (t' := s.toks) fun b o e => hx b o (Nat.ne_of_lt (Heap.lt_size e)) e
  exact h pins _ σ H xs _ Q I1 (by simpa using rv) hw
/-- target = value -/
def tAsg (te : TE) (g : TG) : TS := fun D σ H => te σ H fun x H1 => g x σ H1 D.nx
/-- name = value -/
theorem ps_set {i : Nat} {x : Str} {e : Expr} {te : TE} {pos' : Pos} (hN : X.N.Nodup) (hi : X.N[i]? = some x) (hx : Loc X.env.scope x) (he : PE X e te) (hs : swapsWith e (some (.Name x pos')) pos.line X.env = pure false := by rfl) (hf : X.fn x = true ∨ X.env.scope.names.lookup x = some .local := by first | exact .inl rfl | exact .inr rfl | assumption) :
    PS X (.Assign [.Name x pos'] e pos) (tAsg te (gName i)) := by
  intro pins s σ H D I h
  refine wpAny_Assign_Name (thn (he pins s σ H _ I h) fun v s1 ⟨y, H1, I1, r1, q1⟩ => ?_) hs
  exact store_ok I1 hN hi hx r1 (fun s2 I2 => ⟨_, H1, I2, q1⟩) hf
end

/-! ### while -/
section
variable {X : Cx} {pos : Pos}
/-- the invariant W with its measure -/
def tWhile (c : TT) (tb : TS) : TS := fun D σ H => ∃ W : Nat → St → Hp → Prop, (∃ m, W m σ H) ∧ ∀ m σ H, W m σ H →
  c σ H fun b H1 => if b = true then ∃ N : St → Hp → Prop, (∀ σ' H', N σ' H' → ∃ m', m' < m ∧ W m' σ' H') ∧ tb { D with nx := N, ct := N, bk := D.nx } σ H1 else D.nx σ H1
theorem ps_while {c : Expr} {body : List Stmt} {tc : TT} {tb : TS} (hp : PassesOwn (model X.prog X.w) X.A X.env X.xe) (hc : PT X c tc) (hb : PSs X body tb) : PS X (.While c body [] pos) (tWhile tc tb) := by
  intro pins s σ H D I h
  obtain ⟨W, ⟨m0, w0⟩, turn⟩ := h
  refine wpAny_While (codeAny_whileLoop (fun n s' => ∃ σ' H', Inv X pins σ' H' s' ∧ W n σ' H') ?_ m0 ⟨σ, H, I, w0⟩)
  rintro n s1 ⟨σ1, H1, I1, w1⟩
  refine wpAny_passesOwn hp (thn (hc pins s1 σ1 H1 _ I1 (turn n σ1 H1 w1)) fun b s2 ⟨H2, I2, q2⟩ => ?_)
  cases b with
  | true =>
    obtain ⟨N, hN, q2⟩ := q2
    rw [if_pos rfl]
    refine wpAny_passesOwn hp (thn (hb pins s2 σ1 H2 _ I2 q2) fun f s3 q3 => ?_)
    cases f with
    | next =>
      obtain ⟨σ3, H3, I3, n3⟩ := q3
      obtain ⟨m', hm, w3⟩ := hN σ3 H3 n3
      exact ⟨m', hm, σ3, H3, I3, w3⟩
    | cont =>
      obtain ⟨σ3, H3, I3, n3⟩ := q3
      obtain ⟨m', hm, w3⟩ := hN σ3 H3 n3
      exact ⟨m', hm, σ3, H3, I3, w3⟩
    | brk => exact q3
    | ret v => exact q3
  | false =>
    rw [if_neg Bool.false_ne_true]
    exact wpAny_execs_nil ⟨σ1, H2, I2, q2⟩
end

/-! ### what a loop or a comprehension walks -/
/-- at turn i: it yields x (the heap may grow), or it stops -/
structure It where
  go : Nat → Hp → Prop
  yld : Nat → Hp → V → Hp → Prop
  stop : Nat → Hp → Prop
/-- the iterator's own objects may turn: they are not the frame's, not pinned, younger than the entry (or a comprehension's own) -/
def FpOk (X : Cx) (pins : List (Addr × Obj)) (H : Hp) (b : Addr) : Prop :=
  H b = none ∧ b ≠ X.env.locals ∧ b ∉ X.fs ∧ (b ∈ X.ex ∨ X.s_0.heap.objs.size ≤ b) ∧ (∀ x c, X.env.cells.lookup x = some c → c ≠ b) ∧ ∀ p ∈ X.pn ++ pins, p.1 ≠ b
theorem Inv.fpOk {X : Cx} {pins : List (Addr × Obj)} {σ : St} {H H' : Hp} {s : Shared} {b : Addr} (I : Inv X pins σ H s) (hb : s.heap.objs.size ≤ b) (hn : H' b = none) : FpOk X pins H' b := by
  refine ⟨hn, Nat.ne_of_gt (Nat.lt_of_lt_of_le I.lt hb), I.nofs hb, .inr (Nat.le_trans I.sz hb), fun x c e z => ?_, fun p hp z => ?_⟩
  · obtain ⟨v, q⟩ := I.cell x c e
    exact absurd (Nat.lt_of_lt_of_le q.lt (by rw [z]; exact hb)) (Nat.lt_irrefl _)
  · exact absurd (Nat.lt_of_lt_of_le (Heap.lt_size (I.pin p hp).1) (by rw [z]; exact hb)) (Nat.lt_irrefl _)
structure Turn (P : Program) (w : World) (K : PySem.W.Frag) (tg : Expr) (J : It) (fp : List Addr) (it : Addr) (tn : Nat → Heap → Prop) : Prop where
  mem : it ∈ fp
  obj : ∀ i h, tn i h → ∀ b ∈ fp, ∃ o, h.get? b = some o ∧ ∀ v, o.data ≠ .cell v
  keep : ∀ i h h', tn i h → (∀ b ∈ fp, ∀ o, h.get? b = some o → h'.get? b = some o) → tn i h'
  item : ∀ (X : Cx), X.prog = P → X.w = w → X.K = K → X.calm = true → ∀ (i : Nat) (pins : List (Addr × Obj)) (s : Shared) (σ : St) (H : Hp) (E : Value → Shared → Prop), Inv X pins σ H s → (∀ b ∈ fp, FpOk X pins H b) → tn i s.heap → J.go i H →
    wpAny (model P w) X.A (pyNext (.ref it)) (fun r s1 => ∃ u, r = some u ∧
      wpAny (model P w) X.A (letOwnedTupleGo tg (.ref it) u) (fun _ s2 => ∃ x H', Inv X pins σ H' s2 ∧ RelV x u ∧ J.yld i H x H' ∧ tn (i + 1) s2.heap ∧ ∀ b ∈ fp, H' b = none) E s1) E s
  done : ∀ (X : Cx), X.prog = P → X.w = w → X.K = K → X.calm = true → ∀ (i : Nat) (pins : List (Addr × Obj)) (s : Shared) (σ : St) (H : Hp) (E : Value → Shared → Prop), Inv X pins σ H s → (∀ b ∈ fp, FpOk X pins H b) → tn i s.heap → J.stop i H →
    wpAny (model P w) X.A (pyNext (.ref it)) (fun r s1 => r = none ∧ Inv X pins σ H s1) E s
  self : ∀ (A : Around) (i : Nat) (s : Shared) (Q : Value → Shared → Prop) (E : Value → Shared → Prop), tn i s.heap → Q (.ref it) s → wpAny (model P w) A (pyIter (.ref it)) Q E s
abbrev TI := St → Hp → (It → Hp → Prop) → Prop
/-- an iterator has come -/
def PIE (X : Cx) (pins : List (Addr × Obj)) (σ : St) (tg : Expr) (R : It → Hp → Prop) (itv : Value) (s2 : Shared) : Prop :=
  ∃ (it : Addr) (fp : List Addr) (tn : Nat → Heap → Prop) (J : It) (H' : Hp), itv = .ref it ∧ Inv X pins σ H' s2 ∧ Turn X.prog X.w X.K tg J fp it tn ∧ tn 0 s2.heap ∧ (∀ b ∈ fp, FpOk X pins H' b) ∧ R J H'
def PI (X : Cx) (tg iter : Expr) (wi : TI) : Prop :=
  ∀ (pins : List (Addr × Obj)) (s : Shared) (σ : St) (H : Hp) (R : It → Hp → Prop), Inv X pins σ H s → wi σ H R →
    wpAny (model X.prog X.w) X.A (eval iter X.env) (fun v s1 => wpAny (model X.prog X.w) X.A (pyIter v) (PIE X pins σ tg R) X.xe s1) X.xe s

/-- the step ahead of the store is nothing for an iterator that keeps no tuple -/
theorem go_of {M : Model} {A : Around} {E : Value → Shared → Prop} {s : Shared} {tg : Expr} {it : Addr} {u : Value} {o : Obj} {n : String} {vs : Array Value} {Q : Unit → Shared → Prop} (ho : s.heap.get? it = some o) (hc : o.cls = .type n) (hd : o.data = .fields vs)
    (hn : ["enumerate", "zip", "dict_itemiterator", "dict_reverseitemiterator", "odict_iterator", "itertools.zip_longest", "itertools.pairwise"].contains n = false) (hQ : Q () s) : wpAny M A (letOwnedTupleGo tg (.ref it) u) Q E s := by
  unfold letOwnedTupleGo
  cases tg <;> first
    | exact wpAny_pure hQ
    | (cases u <;> first
        | exact wpAny_pure hQ
        | (refine wpAny_bind (wpAny_load ho ?_)
           rw [hc, hd]
           show wpAny M A (if (["enumerate", "zip", "dict_itemiterator", "dict_reverseitemiterator", "odict_iterator", "itertools.zip_longest", "itertools.pairwise"].contains n && vs[0]? == some (rawInt _)) = true then _ else _) Q E s
           rw [if_neg (by intro h; rw [hn, Bool.false_and] at h; cases h)]
           exact wpAny_pure hQ))

/-- the list at a, as it stands at each turn (a loop may append to it) -/
def Itl (K : PySem.W.Frag) (a : Addr) : It :=
  ⟨fun i H => ∃ xs x, SqL K H a xs ∧ xs[i]? = some x, fun i H x H' => H' = H ∧ ∀ xs, SqL K H a xs → xs[i]? = some x, fun i H => ∃ xs, SqL K H a xs ∧ xs.length ≤ i⟩
theorem turn_list {P : Program} {w : World} {K : PySem.W.Frag} {tg : Expr} (a it : Addr) : Turn P w K tg (Itl K a) [it] it (fun i h => h.IsListIter it a i) where
  mem := by simp
  obj := fun i h st b hb => by
    have e : b = it := by simpa using hb
    subst e
    obtain ⟨o, e, c, d⟩ := st
    exact ⟨o, e, fun v z => by rw [d] at z; cases z⟩
  keep := fun i h h' st k => st.at fun o e => k it (by simp) o e
  item := by
    intro X hP hw hK hc i pins s σ H E I hf st hg
    subst hP hw hK
    obtain ⟨xs, x, hq, hx⟩ := hg
    obtain ⟨its, rv, p, hz⟩ := I.list hq
    obtain ⟨u, hu, ru⟩ := rv.get hx
    obtain ⟨f0, f1, f2, f3, f4, f5⟩ := hf it (by simp)
    refine wpAny_pyNext_list_item st p.isList (x := u) (by simpa using hu) fun h' st' sb => ?_
    have I1 : Inv X pins σ H { s with heap := h' } := I.turned (t' := s.toks) (fun b o hb e => (sb.2 b hb).trans e) f0 f1 f3 f4 f5
    obtain ⟨o, e, c, d⟩ := id st'
    exact ⟨u, rfl, go_of (s := { s with heap := h' }) e c d (by decide) ⟨x, H, I1, ru, ⟨rfl, fun ys hy => by rw [I.list_inj hy hq]; exact hx⟩, st', fun b hb => (hf b hb).1⟩⟩
  done := by
    intro X hP hw hK hc i pins s σ H E I hf st hg
    subst hP hw hK
    obtain ⟨xs, hq, hx⟩ := hg
    obtain ⟨its, rv, p, hz⟩ := I.list hq
    obtain ⟨f0, f1, f2, f3, f4, f5⟩ := hf it (by simp)
    have hl := rv.length
    exact wpAny_pyNext_list_end (I.ok.hd hc) st p.isList (by simp; omega) fun h' eb => ⟨rfl, I.turned (t' := s.toks) (fun b o hb e => eb b o hb e) f0 f1 f3 f4 f5⟩
  self := fun _ _ _ _ _ st h => wpAny_pyIter_listiter st h
end L2

namespace L2
open PySem PySem.Spec PyProof.Rows
section
variable {X : Cx} {tg : Expr}
def iList (K : PySem.W.Frag) (tl : TE) : TI := fun σ H R => tl σ H fun x H1 => ∃ a, x = .ref a ∧ (∃ xs, SqL K H1 a xs) ∧ R (Itl K a) H1
theorem pi_list {l : Expr} {tl : TE} (hl : PE X l tl) : PI X tg l (iList X.K tl) := by
  intro pins s σ H R I h
  refine thn (hl pins s σ H _ I h) fun v s1 ⟨x, H1, I1, r1, q1⟩ => ?_
  obtain ⟨a, e, ⟨xs, hq⟩, q⟩ := q1
  subst e
  cases r1
  obtain ⟨its, rv, p, hz⟩ := I1.list hq
  refine wpAny_pyIter_list p.isList ?_
  refine ⟨s1.heap.objs.size, [s1.heap.objs.size], _, _, H1, rfl, I1.kept (t' := s1.toks) fun b o e => Heap.get?_push_of_some _ e, turn_list a _, ⟨_, Heap.get?_push_size _ rfl, rfl, rfl⟩, fun b hb => ?_, q⟩
  have e : b = s1.heap.objs.size := by simpa using hb
  subst e
  exact I1.fpOk (Nat.le_refl _) (I1.hok.fresh (Nat.le_refl _))

/-! ### for -/
/-- W: the invariant by the turn and a measure; N: what the body is to reach -/
def tFor (wi : TI) (g : TG) (tb : TS) : TS := fun D σ H => wi σ H fun J H1 => ∃ W : Nat → Nat → St → Hp → Prop, (∃ m, W 0 m σ H1) ∧ ∀ i m σ H, W i m σ H →
  (J.stop i H ∧ D.nx σ H) ∨ (J.go i H ∧ ∃ N : St → Hp → Prop, (∀ σ' H', N σ' H' → ∃ m', m' < m ∧ W (i + 1) m' σ' H') ∧ ∀ x H', J.yld i H x H' → g x σ H' fun σ2 H2 => tb { D with nx := N, ct := N, bk := D.nx } σ2 H2)
/-- the records at fp as they stand -/
def pinsAt (fp : List Addr) (h : Heap) : List (Addr × Obj) := fp.filterMap fun b => (h.get? b).map fun o => (b, o)
theorem mem_pinsAt {fp : List Addr} {h : Heap} {b : Addr} {o : Obj} (hb : b ∈ fp) (e : h.get? b = some o) : (b, o) ∈ pinsAt fp h := List.mem_filterMap.mpr ⟨b, hb, by rw [e]; rfl⟩
theorem of_pinsAt {fp : List Addr} {h : Heap} {p : Addr × Obj} (hp : p ∈ pinsAt fp h) : p.1 ∈ fp ∧ h.get? p.1 = some p.2 := by
  obtain ⟨b, hb, e⟩ := List.mem_filterMap.mp hp
  cases q : h.get? b with
  | none => rw [q] at e; cases e
  | some o =>
    rw [q] at e
    have e' : (b, o) = p := Option.some.inj e
    subst e'
    exact ⟨hb, q⟩
theorem Inv.pinned {pins : List (Addr × Obj)} {σ : St} {H : Hp} {s : Shared} {fp : List Addr} (I : Inv X pins σ H s) (hf : ∀ b ∈ fp, FpOk X pins H b) (ho : ∀ b ∈ fp, ∃ o, s.heap.get? b = some o ∧ ∀ v, o.data ≠ .cell v) : Inv X (pins ++ pinsAt fp s.heap) σ H s :=
  I.pins_of fun p hp => (List.mem_append.mp hp).elim (fun z => I.pin p (List.mem_append_right _ z)) fun z => by
    obtain ⟨hb, e⟩ := of_pinsAt z
    obtain ⟨f0, f1, f2, _⟩ := hf p.1 hb
    obtain ⟨o, e', d⟩ := ho p.1 hb
    rw [e] at e'; cases e'
    exact ⟨e, f0, f1, f2, d⟩
theorem Inv.unpinned {pins pl : List (Addr × Obj)} {σ : St} {H : Hp} {s : Shared} (I : Inv X (pins ++ pl) σ H s) : Inv X pins σ H s := I.pins_of fun p hp => I.pin p (List.mem_append_right _ (List.mem_append_left _ hp))
theorem ps_for {iter : Expr} {body : List Stmt} {wi : TI} {g : TG} {tb : TS} {pos : Pos} (hp : PassesOwn (model X.prog X.w) X.A X.env X.xe) (hc : X.calm = true) (hi : PI X tg iter wi) (hg : PG X tg g) (hb : PSs X body tb)
    (hs : ∀ x, foldedSetIterable iter X.env x = pure x := by intro _; rfl) : PS X (.For tg iter body [] pos) (tFor wi g tb) := by
  intro pins s σ H D I h
  refine wpAny_For (thn (hi pins s σ H _ I h) fun v s1 h1 => thn h1 fun itv s2 h2 => ?_) hs
  obtain ⟨it, fp, tn, J, H2, e, I2, T, st2, f2, W, ⟨m0, w0⟩, turn⟩ := h2
  subst e
  -- what stays true of the iterator's objects through the loop
  have stat : ∀ {H' : Hp}, (∀ b ∈ fp, H' b = none) → ∀ b ∈ fp, FpOk X pins H' b := fun hn b hb => ⟨hn b hb, (f2 b hb).2⟩
  refine codeAny_forLoop_any (fun n s' => ∃ i σ' H', Inv X pins σ' H' s' ∧ tn i s'.heap ∧ (∀ b ∈ fp, H' b = none) ∧ W i n σ' H') ?_ m0 ⟨0, σ, H2, I2, st2, fun b hb => (f2 b hb).1, w0⟩
  rintro n s3 ⟨i, σ3, H3, I3, st3, fr3, w3⟩
  rcases turn i n σ3 H3 w3 with ⟨stop, qn⟩ | ⟨go, N, hN, step⟩
  · refine wpAny_passesOwn hp (thn (T.done X rfl rfl rfl hc i pins s3 σ3 H3 X.xe I3 (stat fr3) st3 stop) fun r s4 ⟨hr, I4⟩ => ?_)
    subst hr
    exact wpAny_execs_nil ⟨σ3, H3, I4, qn⟩
  · refine wpAny_passesOwn hp (thn (T.item X rfl rfl rfl hc i pins s3 σ3 H3 X.xe I3 (stat fr3) st3 go) fun r s4 ⟨u, hr, h4⟩ => ?_)
    subst hr
    refine wpAny_passesOwn hp (thn h4 fun _ s5 ⟨x, H5, I5, r5, y5, st5, fr5⟩ => ?_)
    have I5' := I5.pinned (stat fr5) (T.obj _ _ st5)
    refine wpAny_passesOwn hp (thn (hg _ s5 σ3 H5 x u _ I5' r5 (step x H5 y5)) fun _ s6 ⟨σ6, H6, I6, q6⟩ => ?_)
    refine wpAny_passesOwn hp (thn (hb _ s6 σ6 H6 _ I6 q6) fun f s7 q7 => ?_)
    have again : ∀ {σ7 : St} {H7 : Hp}, Inv X (pins ++ pinsAt fp s5.heap) σ7 H7 s7 → N σ7 H7 → ∃ m, m < n ∧ ∃ i σ' H', Inv X pins σ' H' s7 ∧ tn i s7.heap ∧ (∀ b ∈ fp, H' b = none) ∧ W i m σ' H' := fun {σ7 H7} I7 n7 => by
      obtain ⟨m', hm, w7⟩ := hN σ7 H7 n7
      refine ⟨m', hm, i + 1, σ7, H7, I7.unpinned, T.keep _ _ _ st5 fun b hb o e => (I7.pin (b, o) (List.mem_append_right _ (List.mem_append_right _ (mem_pinsAt hb e)))).1, fun b hb => ?_, w7⟩
      obtain ⟨o, e, d⟩ := T.obj _ _ st5 b hb
      exact (I7.pin (b, o) (List.mem_append_right _ (List.mem_append_right _ (mem_pinsAt hb e)))).2.1
    cases f with
    | next => obtain ⟨σ7, H7, I7, n7⟩ := q7; exact again I7 n7
    | cont => obtain ⟨σ7, H7, I7, n7⟩ := q7; exact again I7 n7
    | brk => obtain ⟨σ7, H7, I7, q7⟩ := q7; exact ⟨σ7, H7, I7.unpinned, q7⟩
    | ret v => obtain ⟨x7, σ7, H7, I7, r7, q7⟩ := q7; exact ⟨x7, σ7, H7, I7.unpinned, r7, q7⟩
end

/-! ### the forms one uses -/
/-- over a list that the body leaves as it is -/
theorem for_list {K : PySem.W.Frag} {a : Addr} {xs : List V} {g : TG} {tb : TS} {D : Ends} {σ : St} {H : Hp} (Pv : Nat → St → Hp → Prop) (h0 : Pv 0 σ H) (hl : ∀ i σ H, i ≤ xs.length → Pv i σ H → SqL K H a xs)
    (hs : ∀ i x σ H, xs[i]? = some x → Pv i σ H → g x σ H fun σ2 H2 => tb { D with nx := Pv (i + 1), ct := Pv (i + 1), bk := D.nx } σ2 H2) (hd : ∀ σ H, Pv xs.length σ H → D.nx σ H) :
    ∃ W : Nat → Nat → St → Hp → Prop, (∃ m, W 0 m σ H) ∧ ∀ i m σ H, W i m σ H →
      ((Itl K a).stop i H ∧ D.nx σ H) ∨ ((Itl K a).go i H ∧ ∃ N : St → Hp → Prop, (∀ σ' H', N σ' H' → ∃ m', m' < m ∧ W (i + 1) m' σ' H') ∧ ∀ x H', (Itl K a).yld i H x H' → g x σ H' fun σ2 H2 => tb { D with nx := N, ct := N, bk := D.nx } σ2 H2) := by
  refine ⟨fun i m σ H => m = xs.length - i ∧ i ≤ xs.length ∧ Pv i σ H, ⟨xs.length, by simp, Nat.zero_le _, h0⟩, ?_⟩
  rintro i m σ H ⟨rfl, hi, p⟩
  have q := hl i σ H hi p
  by_cases hlt : i < xs.length
  · refine .inr ⟨⟨xs, xs[i], q, by simp [hlt]⟩, Pv (i + 1), fun σ' H' p' => ⟨xs.length - (i + 1), by omega, rfl, hlt, p'⟩, fun x H' y => ?_⟩
    obtain ⟨e, y⟩ := y
    subst e
    exact hs i x σ _ (y xs q) p
  · have e : i = xs.length := by omega
    subst e
    exact .inl ⟨⟨xs, q, Nat.le_refl _⟩, hd σ H p⟩
/-- while, by a word and a measure of the state -/
theorem while_by {c : TT} {tb : TS} {D : Ends} {σ : St} {H : Hp} (Pv : St → Hp → Prop) (μ : St → Hp → Nat) (h0 : Pv σ H)
    (hs : ∀ σ H, Pv σ H → c σ H fun b H1 => if b = true then tb { D with nx := fun σ' H' => Pv σ' H' ∧ μ σ' H' < μ σ H, ct := fun σ' H' => Pv σ' H' ∧ μ σ' H' < μ σ H, bk := D.nx } σ H1 else D.nx σ H1)
    (mono : ∀ σ H Q Q', (∀ b H1, Q b H1 → Q' b H1) → c σ H Q → c σ H Q') : tWhile c tb D σ H := by
  refine ⟨fun m σ H => m = μ σ H ∧ Pv σ H, ⟨_, rfl, h0⟩, ?_⟩
  rintro m σ H ⟨rfl, p⟩
  refine mono σ H _ _ (fun b H1 q => ?_) (hs σ H p)
  cases b with
  | true => exact ⟨_, fun σ' H' ⟨p', l⟩ => ⟨_, l, rfl, p'⟩, q⟩
  | false => exact q
end L2

namespace L2
open PySem PySem.Spec PyProof.Rows

abbrev R2 := V → V → Hp → VK → Prop
/-- a two-place operation on values: f is binaryOp op, inplaceOp op or compareOp op -/
def OpR (X : Cx) (f : Value → Value → Sem Value) (r : R2) : Prop :=
  ∀ (pins : List (Addr × Obj)) (s : Shared) (σ : St) (H : Hp) (x y : V) (v u : Value) (Q : VK), Inv X pins σ H s → RelV x v → RelV y u → r x y H Q →
    wpAny (model X.prog X.w) X.A (f v u) (EP X pins σ Q) X.xe s
/-- a one-place operation -/
def UnR (X : Cx) (f : Value → Sem Value) (r : V → Hp → VK → Prop) : Prop :=
  ∀ (pins : List (Addr × Obj)) (s : Shared) (σ : St) (H : Hp) (x : V) (v : Value) (Q : VK), Inv X pins σ H s → RelV x v → r x H Q →
    wpAny (model X.prog X.w) X.A (f v) (EP X pins σ Q) X.xe s
/-- a call of a value that is known (a builtin, a type) with values -/
def CallR (X : Cx) (f : Value) (r : List V → Hp → VK → Prop) : Prop :=
  ∀ (pins : List (Addr × Obj)) (s : Shared) (σ : St) (H : Hp) (xs : List V) (us : List Value) (Q : VK), Inv X pins σ H s → Vals xs us → r xs H Q →
    wpAny (model X.prog X.w) X.A (call f us) (EP X pins σ Q) X.xe s

def tOp (r : R2) (ta tb : TE) : TE := fun σ H Q => ta σ H fun x H1 => tb σ H1 fun y H2 => r x y H2 Q
def tUn (r : V → Hp → VK → Prop) (ta : TE) : TE := fun σ H Q => ta σ H fun x H1 => r x H1 Q
/-- ints in, under C, and a value out -/
def rI (C : Int → Int → Prop) (g : Int → Int → V) : R2 := fun x y H Q => ∃ i j, x = .int i ∧ y = .int j ∧ C i j ∧ Q (g i j) H
def rI0 (g : Int → Int → V) : R2 := fun x y H Q => ∃ i j, x = .int i ∧ y = .int j ∧ Q (g i j) H
def rU (g : Int → V) : V → Hp → VK → Prop := fun x H Q => ∃ i, x = .int i ∧ Q (g i) H

section
variable {X : Cx} {a b c : Expr} {ta tb tc : TE} {pos : Pos}

theorem binT (ha : PE X a ta) (hb : PE X b tb) {pins : List (Addr × Obj)} {s : Shared} {σ : St} {H : Hp} {R : V → V → Hp → Prop} (I : Inv X pins σ H s)
    (h : ta σ H fun x H1 => tb σ H1 fun y H2 => R x y H2) {Q : Value → Shared → Prop} {f : Value → Value → Sem Value}
    (hf : ∀ v u s2 x y H2, Inv X pins σ H2 s2 → RelV x v → RelV y u → R x y H2 → wpAny (model X.prog X.w) X.A (f v u) Q X.xe s2) :
    wpAny (model X.prog X.w) X.A (eval a X.env) (fun v s₁ => wpAny (model X.prog X.w) X.A (eval b X.env) (fun u s₂ => wpAny (model X.prog X.w) X.A (f v u) Q X.xe s₂) X.xe s₁) X.xe s := by
  refine thn (ha pins s σ H _ I h) fun v s1 ⟨x, H1, I1, r1, q1⟩ => ?_
  refine thn (hb pins s1 σ H1 _ I1 q1) fun u s2 ⟨y, H2, I2, r2, q2⟩ => ?_
  exact hf v u s2 x y H2 I2 r1 r2 q2

theorem pe_op {op : Operator} {r : R2} (ho : OpR X (binaryOp op) r) (ha : PE X a ta) (hb : PE X b tb) : PE X (.BinOp a op b pos) (tOp r ta tb) := by
  intro pins s σ H Q I h
  exact wpAny_BinOp (binT ha hb I h fun v u s2 x y H2 I2 rx ry q => ho pins s2 σ H2 x y v u Q I2 rx ry q)
theorem pe_un {op : UnaryOp} {r : V → Hp → VK → Prop} (ho : UnR X (unaryOp op) r) (ha : PE X a ta) : PE X (.UnaryOp op a pos) (tUn r ta) := by
  intro pins s σ H Q I h
  exact UnaryOp_ (thn (ha pins s σ H _ I h) fun v s1 ⟨x, H1, I1, r1, q1⟩ => ho pins s1 σ H1 x v Q I1 r1 q1)

/-! ### ints -/
theorem opI {f : Value → Value → Sem Value} {C : Int → Int → Prop} {g : Int → Int → Int}
    (rule : ∀ (i j : Int) (t u : Tok) (s : Shared) (Q : Value → Shared → Prop) (E : Value → Shared → Prop), C i j → Q (.int (g i j) s.toks) { s with toks := s.toks + 1 } → wpAny (model X.prog X.w) X.A (f (.int i t) (.int j u)) Q E s) :
    OpR X f (rI C fun i j => .int (g i j)) := by
  intro pins s σ H x y v u Q I rx ry h
  obtain ⟨i, j, rfl, rfl, hc, q⟩ := h
  obtain ⟨t, rfl⟩ := rx
  obtain ⟨t', rfl⟩ := ry
  exact rule i j t t' s _ _ hc ⟨.int (g i j), H, I.tok _, ⟨_, rfl⟩, q⟩
theorem opI0 {f : Value → Value → Sem Value} {g : Int → Int → Int}
    (rule : ∀ (i j : Int) (t u : Tok) (s : Shared) (Q : Value → Shared → Prop) (E : Value → Shared → Prop), Q (.int (g i j) s.toks) { s with toks := s.toks + 1 } → wpAny (model X.prog X.w) X.A (f (.int i t) (.int j u)) Q E s) :
    OpR X f (rI0 fun i j => .int (g i j)) := by
  intro pins s σ H x y v u Q I rx ry h
  obtain ⟨i, j, rfl, rfl, q⟩ := h
  obtain ⟨t, rfl⟩ := rx
  obtain ⟨t', rfl⟩ := ry
  exact rule i j t t' s _ _ ⟨.int (g i j), H, I.tok _, ⟨_, rfl⟩, q⟩
theorem opB0 {f : Value → Value → Sem Value} {g : Int → Int → Bool}
    (rule : ∀ (i j : Int) (t u : Tok) (s : Shared) (Q : Value → Shared → Prop) (E : Value → Shared → Prop), Q (.bool (g i j)) s → wpAny (model X.prog X.w) X.A (f (.int i t) (.int j u)) Q E s) :
    OpR X f (rI0 fun i j => .bl (g i j)) := by
  intro pins s σ H x y v u Q I rx ry h
  obtain ⟨i, j, rfl, rfl, q⟩ := h
  obtain ⟨t, rfl⟩ := rx
  obtain ⟨t', rfl⟩ := ry
  exact rule i j t t' s _ _ ⟨.bl (g i j), H, I, rfl, q⟩

def CMul (i j : Int) : Prop := (-(2 ^ 64) < i ∧ i < 2 ^ 64) ∨ (-(2 ^ 64) < j ∧ j < 2 ^ 64)
theorem CMul.ok {i j : Int} (h : CMul i j) : IntMulOk i j := by
  rcases h with ⟨h1, h2⟩ | ⟨h1, h2⟩
  · exact .of_left (intBits_le_64 h1 h2)
  · exact .of_right (intBits_le_64 h1 h2)

theorem op_add : OpR X (binaryOp .Add) (rI0 fun i j => .int (i + j)) := opI0 fun _ _ _ _ _ _ _ q => add_int q
theorem op_sub : OpR X (binaryOp .Sub) (rI0 fun i j => .int (i - j)) := opI0 fun _ _ _ _ _ _ _ q => sub_int q
theorem op_mul : OpR X (binaryOp .Mult) (rI CMul fun i j => .int (i * j)) := opI fun _ _ _ _ _ _ _ hc q => mul_int q hc.ok
/-- % by a positive divisor of any size -/
theorem op_mod : OpR X (binaryOp .Mod) (rI (fun _ j => 0 < j) fun i j => .int (i % j)) := opI fun i j _ _ _ _ _ hc q => by
  have h1 : (0 : Int) < j := hc
  exact mod_int' (by omega) (by rw [Int.fmod_eq_emod_of_nonneg i (by omega)]; exact q)


theorem unI {f : Value → Sem Value} {g : Int → Int}
    (rule : ∀ (i : Int) (t : Tok) (s : Shared) (Q : Value → Shared → Prop) (E : Value → Shared → Prop), Q (.int (g i) s.toks) { s with toks := s.toks + 1 } → wpAny (model X.prog X.w) X.A (f (.int i t)) Q E s) :
    UnR X f (rU fun i => .int (g i)) := by
  intro pins s σ H x v Q I rx h
  obtain ⟨i, rfl, q⟩ := h
  obtain ⟨t, rfl⟩ := rx
  exact rule i t s _ _ ⟨.int (g i), H, I.tok _, ⟨_, rfl⟩, q⟩
theorem un_neg : UnR X (unaryOp .USub) (rU fun i => .int (-i)) := unI fun _ _ _ _ _ q => neg_int q

/-! ### bools among ints: n += (a < b) -/
end

/-! ### comparisons -/
/-- the scalars that == tells apart as data does -/
def scal : V → V → Bool
  | .non, .non => true | .non, .int _ => true | .int _, .non => true | .non, .bl _ => true | .bl _, .non => true | .non, .str _ => true | .str _, .non => true
  | .int _, .int _ => true | .bl _, .bl _ => true | .str _, .str _ => true | .byt _, .byt _ => true
  | .int _, .str _ => true | .str _, .int _ => true | .bl _, .str _ => true | .str _, .bl _ => true
  | _, _ => false
def rEq : R2 := fun x y H Q => scal x y = true ∧ Q (.bl (decide (x = y))) H
def rNe : R2 := fun x y H Q => scal x y = true ∧ Q (.bl (!decide (x = y))) H

theorem dec_int {i j : Int} : decide (V.int i = V.int j) = (i == j) := by
  rw [Bool.eq_iff_iff]
  simp
theorem dec_bl {i j : Bool} : decide (V.bl i = V.bl j) = (i == j) := by
  rw [Bool.eq_iff_iff]
  simp
theorem dec_str {i j : Str} : decide (V.str i = V.str j) = (i == j) := by
  rw [Bool.eq_iff_iff]
  simp
theorem dec_byt {i j : Array UInt8} : decide (V.byt i = V.byt j) = (i.toList == j.toList) := by
  rw [Bool.eq_iff_iff]
  cases i
  cases j
  simp

section
variable {X : Cx} {a b c : Expr} {ta tb tc : TE} {pos : Pos}
theorem fin_bl {pins : List (Addr × Obj)} {σ : St} {H : Hp} {s : Shared} {Q : VK} {k k' : Bool} (I : Inv X pins σ H s) (q : Q (.bl k) H) (e : k = k') : EP X pins σ Q (.bool k') s := by
  subst e
  exact ⟨.bl k, H, I, rfl, q⟩
theorem op_eq : OpR X (compareOp .Eq) rEq := by
  intro pins s σ H x y v u Q I rx ry h
  obtain ⟨hs, q⟩ := h
  cases x with
  | non =>
    cases rx
    cases y with
    | non => cases ry; exact PySem.EqNone.eq_none_none (fin_bl I q (by simp))
    | bl j => cases ry; exact PySem.EqNone.eq_none_bool (fin_bl I q (by simp))
    | int j => obtain ⟨t', rfl⟩ := ry; exact PySem.EqNone.eq_none_int (fin_bl I q (by simp))
    | str j => obtain ⟨t', rfl⟩ := ry; exact PySem.EqNone.eq_none_str (fin_bl I q (by simp))
    | _ => exact absurd (show false = true from hs) Bool.false_ne_true
  | bl i =>
    cases rx
    cases y with
    | non => cases ry; exact PySem.EqNone.eq_bool_none (fin_bl I q (by simp))
    | bl j => cases ry; exact eq_bool (fin_bl I q dec_bl)
    | str j => obtain ⟨t', rfl⟩ := ry; exact PySem.EqMixed.eq_bool_str (fin_bl I q (by simp))
    | _ => exact absurd (show false = true from hs) Bool.false_ne_true
  | int i =>
    obtain ⟨t, rfl⟩ := rx
    cases y with
    | non => cases ry; exact PySem.EqNone.eq_int_none (fin_bl I q (by simp))
    | int j => obtain ⟨t', rfl⟩ := ry; exact eq_int (fin_bl I q dec_int)
    | str j => obtain ⟨t', rfl⟩ := ry; exact PySem.EqMixed.eq_int_str (fin_bl I q (by simp))
    | _ => exact absurd (show false = true from hs) Bool.false_ne_true
  | str i =>
    obtain ⟨t, rfl⟩ := rx
    cases y with
    | non => cases ry; exact PySem.EqNone.eq_str_none (fin_bl I q (by simp))
    | bl j => cases ry; exact PySem.EqMixed.eq_str_bool (fin_bl I q (by simp))
    | int j => obtain ⟨t', rfl⟩ := ry; exact PySem.EqMixed.eq_str_int (fin_bl I q (by simp))
    | str j => obtain ⟨t', rfl⟩ := ry; exact eq_str (fin_bl I q dec_str)
    | _ => exact absurd (show false = true from hs) Bool.false_ne_true
  | byt i =>
    obtain ⟨t, rfl⟩ := rx
    cases y with
    | byt j => obtain ⟨t', rfl⟩ := ry; exact PySem.W.eq_bytes (fin_bl I q dec_byt)
    | _ => exact absurd (show false = true from hs) Bool.false_ne_true
  | _ => cases y <;> exact absurd (show false = true from hs) Bool.false_ne_true
theorem op_ne : OpR X (compareOp .NotEq) rNe := by
  intro pins s σ H x y v u Q I rx ry h
  obtain ⟨hs, q⟩ := h
  cases x with
  | non =>
    cases rx
    cases y with
    | non => cases ry; exact PySem.EqNone.ne_none_none (fin_bl I q (by simp))
    | bl j => cases ry; exact PySem.EqNone.ne_none_bool (fin_bl I q (by simp))
    | int j => obtain ⟨t', rfl⟩ := ry; exact PySem.EqNone.ne_none_int (fin_bl I q (by simp))
    | str j => obtain ⟨t', rfl⟩ := ry; exact PySem.EqNone.ne_none_str (fin_bl I q (by simp))
    | _ => exact absurd (show false = true from hs) Bool.false_ne_true
  | bl i =>
    cases rx
    cases y with
    | non => cases ry; exact PySem.EqNone.ne_bool_none (fin_bl I q (by simp))
    | bl j => cases ry; exact ne_bool (fin_bl I q (congrArg not dec_bl))
    | str j => obtain ⟨t', rfl⟩ := ry; exact PySem.EqMixed.ne_bool_str (fin_bl I q (by simp))
    | _ => exact absurd (show false = true from hs) Bool.false_ne_true
  | int i =>
    obtain ⟨t, rfl⟩ := rx
    cases y with
    | non => cases ry; exact PySem.EqNone.ne_int_none (fin_bl I q (by simp))
    | int j => obtain ⟨t', rfl⟩ := ry; exact ne_int (fin_bl I q (congrArg not dec_int))
    | str j => obtain ⟨t', rfl⟩ := ry; exact PySem.EqMixed.ne_int_str (fin_bl I q (by simp))
    | _ => exact absurd (show false = true from hs) Bool.false_ne_true
  | str i =>
    obtain ⟨t, rfl⟩ := rx
    cases y with
    | non => cases ry; exact PySem.EqNone.ne_str_none (fin_bl I q (by simp))
    | bl j => cases ry; exact PySem.EqMixed.ne_str_bool (fin_bl I q (by simp))
    | int j => obtain ⟨t', rfl⟩ := ry; exact PySem.EqMixed.ne_str_int (fin_bl I q (by simp))
    | str j => obtain ⟨t', rfl⟩ := ry; exact ne_str (fin_bl I q (congrArg not dec_str))
    | _ => exact absurd (show false = true from hs) Bool.false_ne_true
  | byt i =>
    obtain ⟨t, rfl⟩ := rx
    cases y with
    | byt j => obtain ⟨t', rfl⟩ := ry; exact PySem.W.ne_bytes (fin_bl I q (congrArg not dec_byt))
    | _ => exact absurd (show false = true from hs) Bool.false_ne_true
  | _ => cases y <;> exact absurd (show false = true from hs) Bool.false_ne_true

theorem op_lt : OpR X (compareOp .Lt) (rI0 fun i j => .bl (decide (i < j))) := opB0 fun _ _ _ _ _ _ _ q => lt_int q
theorem op_le : OpR X (compareOp .LtE) (rI0 fun i j => .bl (decide (i ≤ j))) := opB0 fun _ _ _ _ _ _ _ q => le_int q
theorem op_gt : OpR X (compareOp .Gt) (rI0 fun i j => .bl (decide (j < i))) := opB0 fun _ _ _ _ _ _ _ q => gt_int q
theorem op_ge : OpR X (compareOp .GtE) (rI0 fun i j => .bl (decide (j ≤ i))) := opB0 fun _ _ _ _ _ _ _ q => ge_int q




theorem nomark (b : Expr) {op : CmpOp} (h : op ≠ .In := by decide) (h2 : op ≠ .NotIn := by decide) : behindInMarks op b = false := by
  have e1 : (op == CmpOp.In) = false := by cases op <;> first | rfl | exact absurd rfl h
  have e2 : (op == CmpOp.NotIn) = false := by cases op <;> first | rfl | exact absurd rfl h2
  cases b <;> simp [behindInMarks, e1, e2]
/-- a comparison as a value; hm: nomark b, or (for in, not in) by with_unfolding_all rfl -/
theorem pe_cmpR {op : CmpOp} {r : R2} (ho : OpR X (compareOp op) r) (ha : PE X a ta) (hb : PE X b tb) (hm : behindInMarks op b = false) : PE X (.Compare a [op] [b] pos) (tOp r ta tb) := by
  intro pins s σ H Q I h
  exact wpAny_Compare1 (binT ha hb I h fun v u s2 x y H2 I2 rx ry q => ho pins s2 σ H2 x y v u Q I2 rx ry q) hm
/-- a reading of a value as a test -/
def tTest (t : TE) : TT := fun σ H Q => t σ H fun x H' => ∃ k, x = .bl k ∧ Q k H'
theorem pt_cmpR {op : CmpOp} {r : R2} (ho : OpR X (compareOp op) r) (ha : PE X a ta) (hb : PE X b tb) (hm : behindInMarks op b = false) : PT X (.Compare a [op] [b] pos) (tTest (tOp r ta tb)) := by
  intro pins s σ H Q I h
  refine wpAny_isTrue_Compare1 (thn (ha pins s σ H _ I h) fun v s1 ⟨x, H1, I1, r1, q1⟩ => thn (hb pins s1 σ H1 _ I1 q1) fun u s2 ⟨y, H2, I2, r2, q2⟩ =>
    thn (ho pins s2 σ H2 x y v u _ I2 r1 r2 q2) fun c s3 ⟨z, H3, I3, r3, k, e, q3⟩ => ?_) hm
  subst e
  cases r3
  exact wpAny_truthy_bool ⟨H3, I3, q3⟩
/-- a op1 b op2 c -/
def tChain (r r' : R2) (ta tb tc : TE) : TE := fun σ H Q => ta σ H fun x H1 => tb σ H1 fun y H2 => r x y H2 fun z H3 => ∃ k, z = .bl k ∧
  (if k = true then tc σ H3 fun w' H4 => r' y w' H4 Q else Q (.bl false) H3)
theorem pe_chain {op op' : CmpOp} {r r' : R2} (ho : OpR X (compareOp op) r) (ho' : OpR X (compareOp op') r') (ha : PE X a ta) (hb : PE X b tb) (hc : PE X c tc)
    (hm : lastMarks [op, op'] [b, c] = false := by with_unfolding_all rfl) : PE X (.Compare a [op, op'] [b, c] pos) (tChain r r' ta tb tc) := by
  intro pins s σ H Q I h
  refine Compare_chain (thn (ha pins s σ H _ I h) fun v s1 ⟨x, H1, I1, r1, q1⟩ => chain_link (thn (hb pins s1 σ H1 _ I1 q1) fun u s2 ⟨y, H2, I2, r2, q2⟩ =>
    thn (ho pins s2 σ H2 x y v u _ I2 r1 r2 q2) fun d s3 ⟨z, H3, I3, r3, k, e, q3⟩ => ?_)) hm
  subst e
  cases r3
  refine wpAny_truthy_bool ?_
  cases k with
  | false => exact ite_ff ⟨.bl false, H3, I3, rfl, q3⟩
  | true => exact ite_tt (chain_last (thn (hc pins s3 σ H3 _ I3 q3) fun w' s4 ⟨z', H4, I4, r4, q4⟩ => ho' pins s4 σ H4 y z' u w' Q I4 r2 r4 q4))
theorem pt_chain {op op' : CmpOp} {r r' : R2} (ho : OpR X (compareOp op) r) (ho' : OpR X (compareOp op') r') (ha : PE X a ta) (hb : PE X b tb) (hc : PE X c tc)
    (hm : lastMarks [op, op'] [b, c] = false := by with_unfolding_all rfl) : PT X (.Compare a [op, op'] [b, c] pos) (tTest (tChain r r' ta tb tc)) := by
  intro pins s σ H Q I h
  refine isTrue_chain (thn (ha pins s σ H _ I h) fun v s1 ⟨x, H1, I1, r1, q1⟩ => test_link (thn (hb pins s1 σ H1 _ I1 q1) fun u s2 ⟨y, H2, I2, r2, q2⟩ =>
    thn (ho pins s2 σ H2 x y v u _ I2 r1 r2 q2) fun d s3 ⟨z, H3, I3, r3, k, e, q3⟩ => ?_)) hm
  subst e
  cases r3
  refine wpAny_truthy_bool ?_
  cases k with
  | false =>
    obtain ⟨k', e', q'⟩ := q3
    cases e'
    exact ite_ff ⟨H3, I3, q'⟩
  | true =>
    refine ite_tt (test_last (thn (hc pins s3 σ H3 _ I3 q3) fun w' s4 ⟨z', H4, I4, r4, q4⟩ => thn (ho' pins s4 σ H4 y z' u w' _ I4 r2 r4 q4) fun d' s5 ⟨z2, H5, I5, r5, k2, e2, q5⟩ => ?_))
    subst e2
    cases r5
    exact wpAny_truthy_bool ⟨H5, I5, q5⟩

/-! ### truth -/
theorem line63 : (sizeLine : Nat) < 2 ^ 63 := by rw [sizeLine_eq]; decide

/-! ### strs and bytes -/


/-! ### scalar builtins, by CallR -/
theorem vals1 {x : V} {us : List Value} (r : Vals [x] us) : ∃ u, us = [u] ∧ RelV x u := by
  cases r with
  | cons r1 r2 => cases r2; exact ⟨_, rfl, r1⟩
end
end L2

namespace L2
open PySem PySem.Spec PyProof.Rows

/-! ### an instance, its attributes a map -/
structure ObjM (h : Heap) (x dx C : Addr) (mA : Str → Option Value) : Prop where
  obj : h.get? x = some (PySem.W.instObj C dx)
  ns : h.Ns1 dx mA
  ne : dx ≠ x

theorem lookIn_ns {h : Heap} {dx : Addr} {mA : Str → Option Value} (n : h.Ns1 dx mA) : ∃ od, h.get? dx = some od ∧ ∀ name, PySem.W.lookIn name od = some (mA name) := by
  obtain ⟨o, es, ep, ho, hd, hk, _, hm⟩ := n
  refine ⟨o, ho, fun name => ?_⟩
  have e := hm name
  unfold nsFind findBy at e
  rw [← Array.find?_toList] at e
  unfold PySem.W.lookIn
  rw [hd]
  dsimp only
  split
  · rename_i y q
    rw [q] at e
    exact congrArg some e
  · rename_i q
    rw [q] at e
    have a : es.toList.any (·.refKey) = false := by
      rw [List.any_eq_false]
      intro y hy
      obtain ⟨z, t, hkey⟩ := hk y (Array.mem_toList_iff.mp hy)
      simp [DictEntry.refKey, hkey]
    have a' : ¬ es.toList.any (·.refKey) = true := by rw [a]; exact Bool.false_ne_true
    rw [if_neg a']
    exact congrArg some e

theorem ObjM.look {h : Heap} {x dx C : Addr} {mA : Str → Option Value} (I : ObjM h x dx C mA) : ∃ od, PySem.W.InstAt h x (PySem.W.instObj C dx) C (some od) ∧ ∀ name, PySem.W.lookIn name od = some (mA name) :=
  let ⟨od, ho, hl⟩ := lookIn_ns I.ns
  ⟨od, ⟨I.obj, rfl, rfl, ho⟩, hl⟩

section
variable {prog : Program} {w : World} {A : Around} {E : Value → Shared → Prop} {s : Shared} {K : PySem.W.Frag} {x dx C f : Addr} {mA : Str → Option Value} {name : Str} {v : Value}

theorem get_map {expr : Bool} {Q : Value → Shared → Prop} (X : K.In s.heap) (I : ObjM s.heap x dx C mA) (hg : PySem.W.plainGet K C name = true) (hh : PySem.W.hasDictIn K C = true)
    (ha : PySem.W.findIn K (.ref C) name = some none) (hv : mA name = some v) (hv' : PySem.W.handedIn v = true) (h : Q v { s with toks := s.toks + 1 }) :
    wpAny (model prog w) A (getAttr (.ref x) name expr) Q E s := by
  obtain ⟨od, J, hl⟩ := I.look
  exact PySem.W.get_value X J (PySem.W.plainGet_of hg).1 (PySem.W.findObj_own hh ha rfl (by rw [hl, hv])) hv' h


theorem get_meth {pl : Sem Bool} {Q : Value × List Value → Shared → Prop} (X : K.In s.heap) (I : ObjM s.heap x dx C mA) (hg : PySem.W.plainGet K C name = true)
    (hf : PySem.W.findIn K (.ref C) name = some (some (.ref f))) (ht : PySem.W.isFn K (.ref f) = true) (hv : mA name = none) (h : Q (.ref f, [.ref x]) s) :
    wpAny (model prog w) A (getMethod (.ref x) name pl) Q E s := by
  obtain ⟨od, J, hl⟩ := I.look
  exact PySem.W.method_fn X J (PySem.W.plainGet_of hg).1 (PySem.W.plainGet_of hg).2 hf (beq_iff_eq.mp ht) (by show (PySem.W.lookIn name od).map (·.isSome) = some false; rw [hl, hv]; rfl) h

theorem set_map {ns : List Str} {Q : Unit → Shared → Prop} (X : K.In s.heap) (I : ObjM s.heap x dx C mA)
    (hs : PySem.W.findIn K (.ref C) "__setattr__" = some (some (.builtin "object.__setattr__"))) (hp : PySem.W.plainOver K C = true) (ht : PySem.W.takerIn K C name = some none) (hh : PySem.W.hasDictIn K C = true)
    (hw : PySem.Within mA ns) (hsz : ns.length ≤ sizeLine)
    (h : ∀ h', ObjM h' x dx C (fun y => if y = name then some v else mA y) → Heap.SameBut dx s.heap h' → Q () { s with heap := h', toks := s.toks + 2 }) :
    wpAny (model prog w) A (setAttr (.ref x) name v) Q E s := by
  obtain ⟨od, J, hl⟩ := I.look
  refine PySem.W.set_plain X J hs (PySem.W.osa_open (s := { s with toks := s.toks + 1 }) (r := none) X J hp ht fun b => ?_)
  obtain ⟨cd, hc, hd'⟩ := PySem.W.any_some hh
  have hx : s.heap.get? x = some ⟨.ref C, some dx, .plain, #[]⟩ := I.obj
  refine wpAny_bind (wpAny_pure (wpAny_bind (wpAny_bind (wpAny_loadPart hx (wpAny_bind (PySem.W.Looks.here (s := { s with toks := s.toks + 1 }) (PySem.W.looks_clsIn X hc) ?_))))))
  rw [hd']
  refine wpAny_pure (a := some dx) (wpAny_bind (wpAny_pure (wpAny_bind ?_)))
  refine wpAny_nsSet1 (s := { s with toks := s.toks + 1 }) I.ns fun h' hn2 hs2 => ?_
  obtain ⟨oD, esD, epD, hoD, hdD, hcD⟩ := hn2.count (PySem.Within.cons name v hw)
  refine wpAny_bind (wpAny_lookBehind hoD (by rw [hdD]; exact pastItsLine_dict (Nat.le_trans hcD (by rw [List.length_cons]; omega))) ?_)
  exact wpAny_pure (h _ ⟨(hs2.2 _ (Ne.symm I.ne)).trans I.obj, hn2, I.ne⟩ hs2)

/-- C(..): the dict at the heap's end, the instance behind it; then its __init__ -/
theorem make_map {R : Result → Shared → Prop} {vs : List Value} {kw : List (Str × Value)} (X : K.In s.heap) (hm : PySem.W.makesIn K C = true)
    (hi : PySem.W.findIn K (.ref C) "__init__" = some (some (.ref f))) (hf : PySem.W.typeIn K (.ref f) = some (.type "function"))
    (h : codeAny (model prog w) (A.under (.builtin "type.__call__" ⟨.ref C :: vs, kw⟩)) (.call (.ref f) ⟨.ref (s.heap.objs.size + 1) :: vs, kw⟩) (PySem.W.InitBack (s.heap.objs.size + 1) R)
      { s with heap := (s.heap.push PySem.W.emptyDict).push (PySem.W.instObj C s.heap.objs.size) }) :
    codeAny (model prog w) A (.call (.ref C) ⟨vs, kw⟩) R s := by
  obtain ⟨hh, g, d, t, os⟩ := s
  exact PySem.W.make_core (PySem.W.makes_of X hm) (PySem.W.looks_findIn X hi) (fun self => PySem.W.bind_fn X self hf) (.inl rfl) h
end

/-! ### the attributes as a list of pairs -/
def putF (f : Str) (v : V) : List (Str × V) → List (Str × V)
  | [] => [(f, v)]
  | (g, x) :: r => if g = f then (g, v) :: r else (g, x) :: putF f v r
theorem lookup_putF (f g : Str) (v : V) : ∀ fs : List (Str × V), (putF f v fs).lookup g = if g = f then some v else fs.lookup g
  | [] => by
    show List.lookup g [(f, v)] = _
    by_cases h : g = f
    · have hb : (g == f) = true := beq_iff_eq.mpr h
      simp only [List.lookup, hb, if_pos h]
    · have hb : (g == f) = false := beq_eq_false_iff_ne.mpr h
      simp only [List.lookup, hb, if_neg h]
  | (k, x) :: r => by
    have ih := lookup_putF f g v r
    rw [show putF f v ((k, x) :: r) = (if k = f then (k, v) :: r else (k, x) :: putF f v r) from rfl]
    by_cases hk : k = f
    · rw [if_pos hk]
      by_cases h : g = k
      · have hb : (g == k) = true := beq_iff_eq.mpr h
        simp only [List.lookup, hb, if_pos (h.trans hk)]
      · have hb : (g == k) = false := beq_eq_false_iff_ne.mpr h
        simp only [List.lookup, hb, if_neg (fun e : g = f => h (e.trans hk.symm))]
    · rw [if_neg hk]
      by_cases h : g = k
      · have hb : (g == k) = true := beq_iff_eq.mpr h
        simp only [List.lookup, hb, if_neg (fun e : g = f => hk (h.symm.trans e))]
      · have hb : (g == k) = false := beq_eq_false_iff_ne.mpr h
        simp only [List.lookup, hb]
        exact ih
theorem keys_putF (f : Str) (v : V) : ∀ fs : List (Str × V), f ∈ (putF f v fs).map (·.1) ∧ ∀ g, g ∈ fs.map (·.1) → g ∈ (putF f v fs).map (·.1)
  | [] => ⟨by simp [putF], fun g h => by simp at h⟩
  | (k, x) :: r => by
    obtain ⟨i1, i2⟩ := keys_putF f v r
    rw [show putF f v ((k, x) :: r) = (if k = f then (k, v) :: r else (k, x) :: putF f v r) from rfl]
    by_cases hk : k = f
    · rw [if_pos hk]
      subst hk
      exact ⟨by simp, fun g h => by simpa using h⟩
    · rw [if_neg hk]
      refine ⟨?_, fun g h => ?_⟩
      · rw [List.map_cons]
        exact List.mem_cons_of_mem _ i1
      · rw [List.map_cons] at h ⊢
        rcases List.mem_cons.mp h with e | e
        · exact List.mem_cons.mpr (.inl e)
        · exact List.mem_cons_of_mem _ (i2 g e)
theorem length_putF (f : Str) (v : V) : ∀ fs : List (Str × V), (putF f v fs).length ≤ fs.length + 1
  | [] => by simp [putF]
  | (k, x) :: r => by
    have ih := length_putF f v r
    rw [show putF f v ((k, x) :: r) = (if k = f then (k, v) :: r else (k, x) :: putF f v r) from rfl]
    by_cases hk : k = f
    · rw [if_pos hk, List.length_cons, List.length_cons]; omega
    · rw [if_neg hk, List.length_cons, List.length_cons]; omega

theorem RelO.some_of {v : V} {o : Option Value} (r : RelO (some v) o) : ∃ u, o = some u ∧ RelV v u := by
  cases o with
  | none => exact (show False from r).elim
  | some u => exact ⟨u, rfl, r⟩
theorem RelO.none_of {o : Option Value} (r : RelO none o) : o = none := by
  cases o with
  | none => rfl
  | some u => exact (show False from r).elim
theorem handed_of {v : V} {u : Value} (r : RelV v u) : PySem.W.handedIn u = true := by
  cases v with
  | non => cases (show u = Value.none from r); rfl
  | bl b => cases (show u = Value.bool b from r); rfl
  | int i => obtain ⟨t, e⟩ := (show ∃ t, u = Value.int i t from r); cases e; rfl
  | str x => obtain ⟨t, e⟩ := (show ∃ t, u = Value.str x t from r); cases e; rfl
  | byt b => obtain ⟨t, e⟩ := (show ∃ t, u = Value.bytes b t from r); cases e; rfl
  | flt b => obtain ⟨t, e⟩ := (show ∃ t, u = Value.float b t from r); cases e; rfl
  | ref a => cases (show u = Value.ref a from r); rfl
  | ty n => cases (show u = Value.type n from r); rfl

section
variable {P : Program} {w : World} {H H' : Hp} {h h' : Heap} {a C dx : Addr} {fs fs' : List (Str × V)}
theorem ins_get (hok : HOk P w H h) (e : H a = some (.ins C dx fs)) : ∃ mA, ObjM h a dx C mA ∧ (∀ f, RelO (fs.lookup f) (mA f)) ∧ PySem.Within mA (fs.map (·.1)) ∧ fs.length ≤ 1000 ∧ H dx = some (.own a) := by
  obtain ⟨d, z, ne, ob, mA, n, r, q⟩ := (show ObjOk P w H h a (.ins C dx fs) from hok a _ e)
  exact ⟨mA, ⟨ob, n, ne⟩, r, q, z, d⟩
end

/-! ### what of the text a class must have -/
structure Cls (K : PySem.W.Frag) (C : Addr) : Prop where
  pg : PySem.W.plainGet K C Str.empty = true
  hd : PySem.W.hasDictIn K C = true
  po : PySem.W.plainOver K C = true
  sa : PySem.W.findIn K (.ref C) "__setattr__" = some (some (.builtin "object.__setattr__"))
theorem Cls.get {K : PySem.W.Frag} {C : Addr} (c : Cls K C) (f : Str) : PySem.W.plainGet K C f = true := c.pg
/-- no class of it has the name -/
def NoAttr (K : PySem.W.Frag) (C : Addr) (f : Str) : Prop := PySem.W.findIn K (.ref C) f = some none
theorem NoAttr.taker {K : PySem.W.Frag} {C : Addr} {f : Str} (n : NoAttr K C f) : PySem.W.takerIn K C f = some none := by
  unfold PySem.W.takerIn
  rw [show PySem.W.findIn K (.ref C) f = some none from n]
  rfl
/-- a method: a plain def of the class or of one above it -/
structure Meth (K : PySem.W.Frag) (C : Addr) (m : Str) (f : Addr) : Prop where
  at_ : PySem.W.findIn K (.ref C) m = some (some (.ref f))
  fn : PySem.W.isFn K (.ref f) = true
  kp : PySem.W.keepIn K (.ref f) = true

section
variable {X : Cx} {pins : List (Addr × Obj)} {σ : St} {H : Hp} {s : Shared} {a C dx : Addr} {fs : List (Str × V)} {f : Str} {v : V} {A : Around} {E : Value → Shared → Prop}

theorem getattr_ok {b : Bool} {Q : Value → Shared → Prop} (I : Inv X pins σ H s) (e : H a = some (.ins C dx fs)) (c : Cls X.K C) (n : NoAttr X.K C f) (l : fs.lookup f = some v)
    (h : ∀ u s', Inv X pins σ H s' → RelV v u → Q u s') : wpAny (model X.prog X.w) A (getAttr (.ref a) f b) Q E s := by
  obtain ⟨mA, O, r, _, _, _⟩ := ins_get I.hok e
  obtain ⟨u, hu, ru⟩ := RelO.some_of (v := v) (o := mA f) (by rw [← l]; exact r f)
  exact get_map I.kIn O (c.get f) c.hd n hu (handed_of ru) (h u _ (I.tok _) ru)


theorem getmeth_ok {m : Str} {g : Addr} {pl : Sem Bool} {Q : Value × List Value → Shared → Prop} (I : Inv X pins σ H s) (e : H a = some (.ins C dx fs)) (c : Cls X.K C) (k : Meth X.K C m g) (l : fs.lookup m = none)
    (h : Q (.ref g, [.ref a]) s) : wpAny (model X.prog X.w) A (getMethod (.ref a) m pl) Q E s := by
  obtain ⟨mA, O, r, _, _, _⟩ := ins_get I.hok e
  have hn : mA m = none := RelO.none_of (by rw [← l]; exact r m)
  exact get_meth I.kIn O (c.get m) k.at_ k.fn hn h

theorem setattr_ok {y : V} {u : Value} {Q : Unit → Shared → Prop} (I : Inv X pins σ H s) (e : H a = some (.ins C dx fs)) (c : Cls X.K C) (n : NoAttr X.K C f) (hl : fs.length < 1000) (ry : RelV y u)
    (h : ∀ s', Inv X pins σ (upd H a (.ins C dx (putF f y fs))) s' → Q () s') : wpAny (model X.prog X.w) A (setAttr (.ref a) f u) Q E s := by
  obtain ⟨mA, O, r, wi, _, ho⟩ := ins_get I.hok e
  have hz : (fs.map (·.1)).length ≤ sizeLine := by rw [List.length_map, sizeLine_eq]; omega
  refine set_map I.kIn O c.sa c.po n.taker c.hd wi hz fun h' O' sb => h _ ?_
  have hd : ∃ o, h'.get? dx = some o := let ⟨o, _, _, e', _⟩ := O'.ns; ⟨o, e'⟩
  refine I.write (x := a) (e := dx) (by rw [e]; exact True.intro) (.inr ho) (fun b q hb z => (sb.2 b hb).trans z) hd ?_
  refine ⟨by rw [upd_ne O.ne]; exact ho, ?_, O.ne, O'.obj, _, O'.ns, fun g => ?_, fun g hg => ?_⟩
  · have := length_putF f y fs; omega
  · show RelO ((putF f y fs).lookup g) (if g = f then some u else mA g)
    rw [lookup_putF]
    by_cases q : g = f
    · rw [if_pos q, if_pos q]; exact ry
    · rw [if_neg q, if_neg q]; exact r g
  · by_cases q : g = f
    · rw [q]; exact (keys_putF f y fs).1
    · refine (keys_putF f y fs).2 g (wi g fun z => hg ?_)
      show (if g = f then some u else mA g) = none
      rw [if_neg q]; exact z

/-- a new instance, tracked, without attributes -/
theorem Inv.made (I : Inv X pins σ H s) : Inv X pins σ (upd (upd H s.heap.objs.size (.own (s.heap.objs.size + 1))) (s.heap.objs.size + 1) (.ins C s.heap.objs.size []))
    { s with heap := (s.heap.push PySem.W.emptyDict).push (PySem.W.instObj C s.heap.objs.size) } := by
  have e1 : (s.heap.push PySem.W.emptyDict).get? s.heap.objs.size = some PySem.W.emptyDict := Heap.get?_push_size s.heap rfl
  have e2 : ((s.heap.push PySem.W.emptyDict).push (PySem.W.instObj C s.heap.objs.size)).get? (s.heap.objs.size + 1) = some (PySem.W.instObj C s.heap.objs.size) := by
    have := Heap.get?_push_size (s.heap.push PySem.W.emptyDict) (o := PySem.W.instObj C s.heap.objs.size) rfl
    rwa [Heap.size_push] at this
  have e3 : (s.heap.push PySem.W.emptyDict).Ns s.heap.objs.size (fun _ => none) := ⟨PySem.W.emptyDict, #[], _, e1, rfl, (fun e he => absurd he (by simp)), fun _ => rfl⟩
  have I1 := I.laid (a := s.heap.objs.size) (o := .own (s.heap.objs.size + 1)) (h' := s.heap.push PySem.W.emptyDict) (t' := s.toks) (fun b u q => Heap.get?_push_of_some _ q) (Nat.le_refl _) ⟨_, e1⟩
  refine I1.laid (a := s.heap.objs.size + 1) (o := .ins C s.heap.objs.size []) (t' := s.toks) (fun b u q => Heap.get?_push_of_some _ q) (Nat.le_of_eq (Heap.size_push _ _)) ?_
  have ne : s.heap.objs.size ≠ s.heap.objs.size + 1 := Nat.ne_of_lt (Nat.lt_succ_self _)
  refine ⟨by rw [upd_ne ne, upd_same], Nat.zero_le _, ne, e2, fun _ => none, (Heap.Ns1.of_empty e3).at fun o q => Heap.get?_push_of_some _ q, fun _ => True.intro, fun y hy => absurd rfl hy⟩

/-- e.f where nothing but the object is asked: through attributeBase (super) and the last hold -/
theorem attr_of {prog : Program} {w : World} {env : Env} {e : Expr} {f : Str} {pos : Pos} {s : Shared} {Q : Value → Shared → Prop} (hb : attributeBase e f env (eval e env) = eval e env)
    (h : wpAny (model prog w) A (eval e env) (fun o s₁ => wpAny (model prog w) A (getAttr o f true) Q E s₁) E s) : wpAny (model prog w) A (eval (.Attribute e f pos) env) Q E s :=
  Attribute_any_ h (by rw [arm_eval_Attribute, hb])
end

/-! ### readings and rules -/
/-- e.f, an attribute of the instance -/
def tFld (K : PySem.W.Frag) (ta : TE) (f : Str) : TE := fun σ H Q => ta σ H fun x H1 => ∃ a C dx fs v, x = .ref a ∧ H1 a = some (.ins C dx fs) ∧ Cls K C ∧ NoAttr K C f ∧ fs.lookup f = some v ∧ Q v H1
/-- e.f = value -/
def sFld (K : PySem.W.Frag) (ta tv : TE) (f : Str) : TS := fun D σ H => tv σ H fun y H1 => ta σ H1 fun x H2 => ∃ a C dx fs, x = .ref a ∧ H2 a = some (.ins C dx fs) ∧ Cls K C ∧ NoAttr K C f ∧ fs.length < 1000 ∧
  D.nx σ (upd H2 a (.ins C dx (putF f y fs)))

section
variable {X : Cx} {o e value : Expr} {f : Str} {pos pos' tpos : Pos} {ta tv : TE}
theorem pe_fld (he : PE X e ta) (hb : attributeBase e f X.env (eval e X.env) = eval e X.env) : PE X (.Attribute e f pos) (tFld X.K ta f) := by
  intro pins s σ H Q I h
  refine attr_of hb (thn (he pins s σ H _ I h) fun u s1 ⟨x, H1, I1, rx, a, C, dx, fs, v, ex, ea, c, n, l, q⟩ => ?_)
  subst ex
  obtain rfl : u = Value.ref a := rx
  exact getattr_ok I1 ea c n l fun u' s2 I2 ru => ⟨v, H1, I2, ru, q⟩
theorem ps_fld (ha : PE X o ta) (hv : PE X value tv) (hs : swapsWith value (some (.Attribute o f pos')) pos.line X.env = pure false) : PS X (.Assign [.Attribute o f pos'] value pos) (sFld X.K ta tv f) := by
  intro pins s σ H D I h
  refine plainObj_wpAny_Assign_Attribute (thn (hv pins s σ H _ I h) fun u s1 ⟨y, H1, I1, ry, q⟩ => thn (ha pins s1 σ H1 _ I1 q) fun ov s2 ⟨x, H2, I2, rx, a, C, dx, fs, ex, ea, c, n, l, q2⟩ => ?_) hs
  subst ex
  obtain rfl : ov = Value.ref a := rx
  exact setattr_ok I2 ea c n l ry fun s3 I3 => ⟨σ, _, I3, q2⟩

end

/-! ### isinstance -/
section
variable {X : Cx} {pins : List (Addr × Obj)} {σ : St} {H : Hp} {s : Shared} {A : Around} {E : Value → Shared → Prop} {Q : Value → Shared → Prop} {c : Value} {b : Bool}
end
end L2

namespace L2
open PySem PySem.Spec PyProof.Rows

/-! ### room -/
structure Room (k : Nat) (A : Around) : Prop where
  hd : A.handled = none
  dp : A.depth + 3 * k + 5 < recursionLimit
  un : A.units + 16 * k + 200 < cLine
theorem Room.mono {j k : Nat} {A : Around} (r : Room k A) (h : j ≤ k) : Room j A := ⟨r.hd, by have := r.dp; omega, by have := r.un; omega⟩
theorem Room.deeper {k : Nat} {A : Around} (r : Room (k + 1) A) (env : Env) : Room k (A.deeper env) :=
  ⟨r.hd, by have := r.dp; show A.depth + 1 + 3 * k + 5 < _; omega, by have := r.un; show A.units + 3 + 16 * k + 200 < _; omega⟩
theorem Room.in1 {k : Nat} {A : Around} (r : Room (k + 1) A) : Room k A.in1 :=
  ⟨r.hd, by have := r.dp; show A.depth + 3 * k + 5 < _; omega, by have := r.un; show A.units + 1 + 16 * k + 200 < _; omega⟩
theorem make_depth {A : Around} {C : Addr} {us : List Value} {kw : List (Str × Value)} : (A.under (.builtin "type.__call__" ⟨.ref C :: us, kw⟩)).depth = A.depth + 1 := by
  first | rfl | simp [Around.under, Code.weight, Code.isCreation, Code.isGuard, Code.isCaller, Code.frames, Code.isFrame, guardIds]
theorem make_units {A : Around} {C : Addr} {us : List Value} {kw : List (Str × Value)} : (A.under (.builtin "type.__call__" ⟨.ref C :: us, kw⟩)).units = A.units + 1 := by
  first | rfl | simp [Around.under, Code.cUnits, Code.frames, Code.isFrame]
theorem Room.make {k : Nat} {A : Around} (r : Room (k + 1) A) (C : Addr) (us : List Value) (kw : List (Str × Value)) : Room k (A.under (.builtin "type.__call__" ⟨.ref C :: us, kw⟩)) :=
  ⟨r.hd, by have := r.dp; rw [make_depth]; omega, by have := r.un; rw [make_units]; omega⟩
theorem Room.depth {k : Nat} {A : Around} (r : Room k A) : A.depth < recursionLimit := by have := r.dp; omega
theorem Room.units {k : Nat} {A : Around} (r : Room k A) : A.units + 64 < cLine := by have := r.un; omega

/-! ### argument lists and displays -/
def tNil : TA := fun _ H Q => Q [] H
def tCons (ta : TE) (tr : TA) : TA := fun σ H Q => ta σ H fun x H1 => tr σ H1 fun xs H2 => Q (x :: xs) H2
section
variable {X : Cx} {e : Expr} {es : List Expr} {te : TE} {t : TA} {pos : Pos}
theorem pa_nil : PA X [] tNil := fun _ _ _ _ H Q I h => Calls.spliced_nil ⟨[], H, I, .nil, h⟩
theorem pa_cons (ha : PE X e te) (hr : PA X es t) (hs : starEach (e :: es) X.env = (false, eval e X.env) :: starEach es X.env := by rfl) : PA X (e :: es) (tCons te t) := by
  intro pos pins s σ H Q I h
  rw [hs]
  show wpAny _ _ (spliced ((false, eval e X.env) :: backTo pos (starEach es X.env))) _ _ s
  refine Calls.spliced_cons (thn (ha pins s σ H _ I h) fun u s1 ⟨x, H1, I1, r1, q1⟩ => ?_)
  exact thn (hr pos pins s1 σ H1 _ I1 q1) fun us s2 ⟨xs, H2, I2, r2, q2⟩ => ⟨x :: xs, H2, I2, .cons r1 r2, q2⟩

/-- a tuple, a list of written items -/
def tTup (t : TA) : TE := fun σ H Q => t σ H fun xs H1 => xs.length ≤ sizeLine ∧ ∀ p, H1 p = none → Q (.ref p) (upd H1 p (.tup xs))
def tLst (t : TA) : TE := fun σ H Q => t σ H fun xs H1 => xs.length ≤ sizeLine ∧ ∀ p, H1 p = none → Q (.ref p) (upd H1 p (.lst xs))
theorem pe_tup {x1} (h : PA X es t) : PE X (.Tuple es x1 pos) (tTup t) := by
  intro pins s σ H Q I hq
  refine wpAny_Tuple_spliced (thn (h pos pins s σ H _ I hq) fun us s1 ⟨xs, H1, I1, r, z, q⟩ => ⟨by rw [← r.length]; exact z, ?_⟩)
  have hf : H1 s1.heap.objs.size = none := I1.hok.fresh (Nat.le_refl _)
  refine ⟨.ref s1.heap.objs.size, upd H1 s1.heap.objs.size (.tup xs), I1.laid (t' := s1.toks) (fun b u e => Heap.get?_push_of_some _ e) (Nat.le_refl _) ?_, rfl, q _ hf⟩
  exact ⟨z, us, r, ⟨_, Heap.get?_push_size _ rfl, rfl, _, rfl⟩⟩
theorem pe_lst (h : PA X es t) : PE X (.List es pos) (tLst t) := by
  intro pins s σ H Q I hq
  refine wpAny_List_spliced (thn (h pos pins s σ H _ I hq) fun us s1 ⟨xs, H1, I1, r, z, q⟩ => ⟨by rw [← r.length]; exact z, ?_⟩)
  have hf : H1 s1.heap.objs.size = none := I1.hok.fresh (Nat.le_refl _)
  refine ⟨.ref s1.heap.objs.size, upd H1 s1.heap.objs.size (.lst xs), I1.laid (t' := s1.toks) (fun b u e => Heap.get?_push_of_some _ e) (Nat.le_refl _) ?_, rfl, q _ hf⟩
  exact ⟨z, us, 0, r, Heap.get?_push_size _ rfl⟩
end

/-! ### what a def promises -/
/-- a def's promise: the bound arguments in the parameters' order, the heap, the wanted end, the wanted exception -/
abbrev Sp := List V → Hp → VK → XK → Prop
/-- how an exception lies behind a call (file 08 gives it): the callers' frames, abstract heap and state ahead of the call, the wish, the exception, the state -/
abbrev CXT := List Env → Hp → Shared → XK → Value → Shared → Prop

/-- the state at a call -/
structure Env0 (P : Program) (w : World) (K : PySem.W.Frag) (mg : Str → Option Value) (base : Heap) (A : Around) (outer : List Env) (s : Shared) (H : Hp) : Prop where
  frames : A.frames = some outer
  mod : Mod K mg base
  bs : ∀ b o, base.get? b = some o → s.heap.get? b = some o ∧ H b = none
  bsz : base.objs.size ≤ s.heap.objs.size
  funs : s.heap.FunFrames base outer
  frf : ∀ b ∈ frs outer, H b = none
  hok : HOk P w H s.heap
  bare : AllBare s.gens
/-- a call's end -/
def CE (outer : List Env) (P : Program) (w : World) (H : Hp) (s : Shared) (Q : VK) (u : Value) (s' : Shared) : Prop :=
  ∃ v H', s'.os = s.os ∧ AllBare s'.gens ∧ Un (frs outer) [] H H' s.heap s'.heap ∧ HOk P w H' s'.heap ∧ RelV v u ∧ Q v H'
def CR (CX : CXT) (outer : List Env) (P : Program) (w : World) (H : Hp) (s : Shared) (Q : VK) (E : XK) (r : Result) (s' : Shared) : Prop :=
  match r with
  | .ok (.ret u) => CE outer P w H s Q u s'
  | .ok _ => False
  | .error e => CX outer H s E e s'
structure FnOk (P : Program) (w : World) (K : PySem.W.Frag) (mg : Str → Option Value) (base : Heap) (CX : CXT) (k : Nat) (f : Addr) (fd : FuncData) (ps : List Str) (sp : Sp) : Prop where
  len : ∀ vs H Q E, sp vs H Q E → vs.length = ps.length
  run : ∀ (A : Around) (outer : List Env) (s : Shared) (H : Hp) (args : Args) (us : List Value) (vs : List V) (Q : VK) (E : XK), Room k A → Env0 P w K mg base A outer s H → BindsTo s fd args (ps.zip us) → Vals vs us → sp vs H Q E →
    codeAny (model P w) A (.call (.ref f) args) (CR CX outer P w H s Q E) s

theorem Env0.make {P : Program} {w : World} {K : PySem.W.Frag} {mg : Str → Option Value} {base : Heap} {A : Around} {outer : List Env} {s : Shared} {H : Hp} (e : Env0 P w K mg base A outer s H) (C : Addr) (us : List Value) (kw : List (Str × Value)) :
    Env0 P w K mg base (A.under (.builtin "type.__call__" ⟨.ref C :: us, kw⟩)) outer s H := ⟨by first | exact e.frames | (simpa [Around.under, Code.envs, Code.isFrame, pushEnvs] using e.frames), e.mod, e.bs, e.bsz, e.funs, e.frf, e.hok, e.bare⟩
theorem Env0.in1 {P : Program} {w : World} {K : PySem.W.Frag} {mg : Str → Option Value} {base : Heap} {A : Around} {outer : List Env} {s : Shared} {H : Hp} (e : Env0 P w K mg base A outer s H) :
    Env0 P w K mg base A.in1 outer s H := ⟨e.frames, e.mod, e.bs, e.bsz, e.funs, e.frf, e.hok, e.bare⟩

section
variable {X : Cx} {pins : List (Addr × Obj)} {σ : St} {H : Hp} {s s' : Shared}
/-- from a body: what a callee wants -/
theorem Inv.env0 (I : Inv X pins σ H s) : Env0 X.prog X.w X.K X.mg X.base X.A X.stack s H :=
  ⟨I.ok.frames, I.ok.mod, I.bs, Nat.le_trans I.ok.bsz I.sz, I.stack, I.stkFree, I.hok, I.bare⟩
/-- behind a call -/
theorem Inv.after {Q : VK} {u : Value} (I : Inv X pins σ H s) (h : CE X.stack X.prog X.w H s Q u s') : EP X pins σ Q u s' := by
  obtain ⟨v, H', os, bare, un, hok, r, q⟩ := h
  obtain ⟨hh, g, d, t, os'⟩ := s'
  obtain rfl : os' = s.os := os
  exact ⟨v, H', I.call (h' := hh) (g' := g) (d' := d) (t' := t) (ch := []) un hok bare (fun b z => absurd z (by simp)), r, q⟩
end

/-! ### calls -/
/-- f(..): the written arguments, then the defaults dvs; E: what is wanted of an exception -/
def tCall (sp : Sp) (dvs : List V) (E : XK) (t : TA) : TE := fun σ H Q => t σ H fun vs H1 => sp (vs ++ dvs) H1 Q E
/-- o.m(..) of an instance of the class at C -/
def tMeth (C : Addr) (m : Str) (sp : Sp) (dvs : List V) (E : XK) (ta : TE) (t : TA) : TE := fun σ H Q => ta σ H fun x H1 => ∃ a dx fs, x = .ref a ∧ H1 a = some (.ins C dx fs) ∧ fs.lookup m = none ∧
  t σ H1 fun vs H2 => sp (x :: (vs ++ dvs)) H2 Q E
/-- C(..): a new instance and its dict, then __init__ -/
def tMake (C : Addr) (sp : Sp) (dvs : List V) (E : XK) (t : TA) : TE := fun σ H Q => t σ H fun vs H1 => ∀ x dx, H1 x = none → H1 dx = none → dx ≠ x →
  sp (.ref x :: (vs ++ dvs)) (upd (upd H1 dx (.own x)) x (.ins C dx [])) (fun v H2 => v = .non ∧ Q (.ref x) H2) E

/-- how the parameters are bound: us the positional arguments, kw the keywords' values by name, ds the defaults that fill up -/
def Binds (K : PySem.W.Frag) (fd : FuncData) (ps : List Str) (ds : List Value) : Prop :=
  ∀ (s : Shared) (us : List Value), K.In s.heap → (us ++ ds).length = ps.length → BindsTo s fd ⟨us, []⟩ (ps.zip (us ++ ds))
/-- every parameter is given -/
theorem Binds.all {K : PySem.W.Frag} {fd : FuncData} {ps : List Str} (h : ∀ us : List Value, us.length = ps.length → bindArgs fd ⟨us, []⟩ = pure (ps.zip us)) : Binds K fd ps [] := fun s us _ hl => by
  rw [List.append_nil] at hl ⊢
  exact .of_eq (h us hl)

/-- an exception of a callee reaches what this body wants of exceptions -/
def Passes (CX : CXT) (X : Cx) (E : XK) : Prop := ∀ (pins : List (Addr × Obj)) (σ : St) (H : Hp) (s : Shared) (e : Value) (s' : Shared), Inv X pins σ H s → CX X.stack H s E e s' → X.xe e s'

section
variable {X : Cx} {CX : CXT} {k : Nat} {f C : Addr} {fd : FuncData} {ps : List Str} {sp : Sp} {dvs : List V} {ds : List Value} {E : XK} {x m : Str} {p pos apos : Pos} {e o : Expr} {es : List Expr} {ta : TE} {t : TA}

/-- the callee runs -/
theorem run_fn {pins : List (Addr × Obj)} {σ : St} {H : Hp} {s : Shared} {Q : VK} {us : List Value} {vs : List V} (F : FnOk X.prog X.w X.K X.mg X.base CX k f fd ps sp) (hr : Room k X.A) (hb : Binds X.K fd ps ds) (hd : Vals dvs ds) (hx : Passes CX X E)
    (I : Inv X pins σ H s) (r : Vals vs us) (h : sp (vs ++ dvs) H Q E) : wpAny (model X.prog X.w) X.A (call (.ref f) us) (EP X pins σ Q) X.xe s := by
  have r2 : Vals (vs ++ dvs) (us ++ ds) := r.append hd
  have hl : (us ++ ds).length = ps.length := by rw [← r2.length]; exact F.len _ _ _ _ h
  refine wpAny_call (codeAny_mono (F.run X.A X.stack s H ⟨us, []⟩ (us ++ ds) (vs ++ dvs) Q E hr I.env0 (hb s us I.kIn hl) r2 h) fun r s' hq => ?_)
  cases r with
  | error e => exact hx pins σ H s e s' I hq
  | ok fl =>
    cases fl with
    | ret u => exact I.after hq
    | next => exact False.elim hq
    | brk => exact False.elim hq
    | cont => exact False.elim hq

theorem pe_call (F : FnOk X.prog X.w X.K X.mg X.base CX k f fd ps sp) (hr : Room k X.A) (hg : Gl X x) (hm : X.mg x = some (.ref f)) (hk : PySem.W.keepIn X.K (.ref f) = true) (hb : Binds X.K fd ps ds) (hd : Vals dvs ds) (hx : Passes CX X E)
    (ha : PA X (e :: es) t) (hdb : (x == ("__debug__" : Str)) = false := by decide) (he : starEach (e :: es) X.env = (false, eval e X.env) :: starEach es X.env := by rfl) (hpl : (backTo pos (starEach es X.env)).any (·.1) = false := by rfl) :
    PE X (.Call (.Name x p) (e :: es) [] pos) (tCall sp dvs E t) := by
  intro pins s σ H Q I h
  refine wpAny_Call_Name_kw (ld_glob I hg hm ?_ hdb)
  refine PySem.W.callWith_K (h₀ := X.base) I.ok.mod.kin hk (thn (ha pos pins s σ H _ I h) fun us s1 ⟨vs, H1, I1, r, q⟩ => ⟨I1.kIn, ?_⟩) he hpl
  exact run_fn F hr hb hd hx I1 r q

/-- o.m(e, ..) -/
theorem pe_meth {pl : Sem Bool} (he : PE X o ta) (c : Cls X.K C) (hm : Meth X.K C m f) (F : FnOk X.prog X.w X.K X.mg X.base CX k f fd ps sp) (hr : Room k X.A) (hb : Binds X.K fd ps ds) (hd : Vals dvs ds) (hx : Passes CX X E) (ha : PA X (e :: es) t)
    (hst : starEach (e :: es) X.env = (false, eval e X.env) :: starEach es X.env := by rfl) (hpl : (backTo pos (starEach es X.env)).any (·.1) = false := by rfl)
    (ht : eval (.Call (.Attribute o m apos) (e :: es) [] pos) X.env = (do
      let ov ← eval o X.env
      standAt apos.atName
      let (f, first) ← holding [ov] (getMethod ov m pl)
      callWith pos f first (backTo pos (starEach (e :: es) X.env)) (backToKw pos (keywordEach [] X.env))) := by rfl) :
    PE X (.Call (.Attribute o m apos) (e :: es) [] pos) (tMeth C m sp dvs E ta t) := by
  intro pins s σ H Q I h
  refine PySem.W.methodCall_KW (pl := pl) (thn (he pins s σ H _ I h) fun u s1 ⟨x, H1, I1, rx, a, dx, fs, ex, ea, l, q⟩ => ?_) ht
  subst ex
  obtain rfl : u = Value.ref a := rx
  refine getmeth_ok I1 ea c hm l ?_
  refine PySem.W.callWith_K (first := [.ref a]) (h₀ := X.base) I.ok.mod.kin hm.kp (thn (ha pos pins s1 σ H1 _ I1 q) fun us s2 ⟨vs, H2, I2, r, q2⟩ => ⟨I2.kIn, ?_⟩) hst hpl
  exact run_fn (us := .ref a :: us) (vs := .ref a :: vs) F hr hb hd hx I2 (.cons rfl r) q2
/-- o.m() -/
theorem pe_meth0 {pl : Sem Bool} (he : PE X o ta) (c : Cls X.K C) (hm : Meth X.K C m f) (F : FnOk X.prog X.w X.K X.mg X.base CX k f fd ps sp) (hr : Room k X.A) (hb : Binds X.K fd ps ds) (hd : Vals dvs ds) (hx : Passes CX X E)
    (ht : eval (.Call (.Attribute o m apos) [] [] pos) X.env = (do
      let ov ← eval o X.env
      standAt apos.atName
      let (f, first) ← holding [ov] (getMethod ov m pl)
      callWith pos f first (backTo pos (starEach [] X.env)) (backToKw pos (keywordEach [] X.env))) := by rfl) :
    PE X (.Call (.Attribute o m apos) [] [] pos) (tMeth C m sp dvs E ta tNil) := by
  intro pins s σ H Q I h
  refine PySem.W.methodCall_KW (pl := pl) (thn (he pins s σ H _ I h) fun u s1 ⟨x, H1, I1, rx, a, dx, fs, ex, ea, l, q⟩ => ?_) ht
  subst ex
  obtain rfl : u = Value.ref a := rx
  refine getmeth_ok I1 ea c hm l ?_
  exact PySem.W.callWith_K0 (first := [.ref a]) I1.kIn hm.kp (run_fn (us := [.ref a]) (vs := [.ref a]) F hr hb hd hx I1 (.cons rfl .nil) q)

/-- what a class must have to be made -/
structure Mk (K : PySem.W.Frag) (C f : Addr) : Prop where
  makes : PySem.W.makesIn K C = true
  init : PySem.W.findIn K (.ref C) "__init__" = some (some (.ref f))
  fn : PySem.W.isFn K (.ref f) = true
  kp : PySem.W.keepIn K (.ref C) = true

theorem run_make {pins : List (Addr × Obj)} {σ : St} {H : Hp} {s : Shared} {Q : VK} {us : List Value} {vs : List V} (M : Mk X.K C f) (F : FnOk X.prog X.w X.K X.mg X.base CX k f fd ps sp) (hr : Room (k + 1) X.A) (hb : Binds X.K fd ps ds) (hd : Vals dvs ds)
    (hx : Passes CX X E) (I : Inv X pins σ H s) (r : Vals vs us)
    (h : ∀ x dx, H x = none → H dx = none → dx ≠ x → sp (.ref x :: (vs ++ dvs)) (upd (upd H dx (.own x)) x (.ins C dx [])) (fun v H2 => v = .non ∧ Q (.ref x) H2) E) :
    wpAny (model X.prog X.w) X.A (call (.ref C) us) (EP X pins σ Q) X.xe s := by
  have hq := h (s.heap.objs.size + 1) s.heap.objs.size (I.hok.fresh (Nat.le_succ _)) (I.hok.fresh (Nat.le_refl _)) (Nat.ne_of_lt (Nat.lt_succ_self _))
  have I2 := Inv.made (C := C) I
  have r2 : Vals (V.ref (s.heap.objs.size + 1) :: (vs ++ dvs)) (Value.ref (s.heap.objs.size + 1) :: (us ++ ds)) := .cons rfl (r.append hd)
  have hl : (Value.ref (s.heap.objs.size + 1) :: us ++ ds).length = ps.length := by
    have e := r2.length
    rw [F.len _ _ _ _ hq] at e
    exact e.symm
  refine wpAny_call (make_map (f := f) I.kIn M.makes M.init (beq_iff_eq.mp M.fn) (codeAny_mono (F.run _ X.stack _ _ ⟨Value.ref (s.heap.objs.size + 1) :: us, []⟩ (Value.ref (s.heap.objs.size + 1) :: (us ++ ds)) _ _ E (hr.make C us [])
    (I2.env0.make C us []) (hb _ (Value.ref (s.heap.objs.size + 1) :: us) I2.kIn hl) r2 hq) fun r s' hq' => ?_))
  cases r with
  | error e => exact hx pins σ _ _ e s' I2 hq'
  | ok fl =>
    cases fl with
    | ret u =>
      obtain ⟨v, H', I3, rv, ev, q3⟩ := I2.after hq'
      subst ev
      exact ⟨rv, ⟨V.ref (s.heap.objs.size + 1), H', I3, rfl, q3⟩⟩
    | next => exact False.elim hq'
    | brk => exact False.elim hq'
    | cont => exact False.elim hq'
theorem pe_make (M : Mk X.K C f) (F : FnOk X.prog X.w X.K X.mg X.base CX k f fd ps sp) (hr : Room (k + 1) X.A) (hg : Gl X x) (hm : X.mg x = some (.ref C)) (hb : Binds X.K fd ps ds) (hd : Vals dvs ds) (hx : Passes CX X E)
    (ha : PA X (e :: es) t) (hdb : (x == ("__debug__" : Str)) = false := by decide) (he : starEach (e :: es) X.env = (false, eval e X.env) :: starEach es X.env := by rfl) (hpl : (backTo pos (starEach es X.env)).any (·.1) = false := by rfl) :
    PE X (.Call (.Name x p) (e :: es) [] pos) (tMake C sp dvs E t) := by
  intro pins s σ H Q I h
  refine wpAny_Call_Name_kw (ld_glob I hg hm ?_ hdb)
  refine PySem.W.callWith_K (h₀ := X.base) I.ok.mod.kin M.kp (thn (ha pos pins s σ H _ I h) fun us s1 ⟨vs, H1, I1, r, q⟩ => ⟨I1.kIn, ?_⟩) he hpl
  exact run_make M F hr hb hd hx I1 r q
theorem pe_make0 (M : Mk X.K C f) (F : FnOk X.prog X.w X.K X.mg X.base CX k f fd ps sp) (hr : Room (k + 1) X.A) (hg : Gl X x) (hm : X.mg x = some (.ref C)) (hb : Binds X.K fd ps ds) (hd : Vals dvs ds) (hx : Passes CX X E)
    (hdb : (x == ("__debug__" : Str)) = false := by decide) : PE X (.Call (.Name x p) [] [] pos) (tMake C sp dvs E tNil) := by
  intro pins s σ H Q I h
  refine wpAny_Call_Name_kw (ld_glob I hg hm ?_ hdb)
  exact PySem.W.callWith_K0 I.kIn M.kp (run_make (us := []) M F hr hb hd hx I .nil h)
end

/-! ### keywords -/
section
variable {X : Cx} {CX : CXT} {k : Nat} {f C : Addr} {fd : FuncData} {ps ks : List Str} {sp : Sp} {E : XK} {x m : Str} {p pos apos kpos : Pos} {e o : Expr} {es : List Expr} {kws : List Keyword} {te ta : TE} {t tk : TA} {nm : Option Str}

variable {g : List Value → List Value → List Value} {gV : List V → List V → List V}
end

/-! ### a def's body keeps its promise -/
/-- names: the parameters first -/
structure FnScope (N P : List Str) (sc : Scope) : Prop where
  kind : sc.kind = .function
  co : sc.isCoroutine = false
  gen : sc.isGenerator = false
  nd : N.Nodup
  pre : N.take P.length = P
  par : ∀ x ∈ P, sc.names.lookup x = some .local ∨ sc.names.lookup x = some .cell
  nofree : ∀ y ∈ sc.names, y.2 ≠ .free

theorem bindL_out {kindOf : Str → Option NameKind} {x : Str} : ∀ {binds : List (Str × Value)} {m : Str → Option Value}, (∀ v, (x, v) ∉ binds) → bindL kindOf binds m x = m x
  | [], _, _ => rfl
  | (n, v) :: r, m, h => by
    unfold bindL
    rw [bindL_out fun w hw => h w (List.mem_cons_of_mem _ hw)]
    split
    · have : x ≠ n := by rintro rfl; exact h v List.mem_cons_self
      simp [this]
    · rfl
theorem bindC_out {kindOf : Str → Option NameKind} {x : Str} : ∀ {binds : List (Str × Value)} {m : Str → Option Value}, (∀ v, (x, v) ∉ binds) → bindC kindOf binds m x = m x
  | [], _, _ => rfl
  | (n, v) :: r, m, h => by
    unfold bindC
    rw [bindC_out fun w hw => h w (List.mem_cons_of_mem _ hw)]
    split
    · rfl
    · have : x ≠ n := by rintro rfl; exact h v List.mem_cons_self
      simp [this]
theorem bindL_get {kindOf : Str → Option NameKind} {x : Str} {v : Value} : ∀ {P : List Str} {vs : List Value} {i : Nat} {m : Str → Option Value}, P.Nodup → P[i]? = some x → vs[i]? = some v → kindOf x = some .local →
    bindL kindOf (P.zip vs) m x = some v
  | [], _, _, _, _, h, _, _ => by simp at h
  | _ :: _, [], _, _, _, _, h, _ => by simp at h
  | p :: P, w :: vs, 0, m, nd, h1, h2, hk => by
    simp at h1 h2; subst h1; subst h2
    show bindL kindOf ((p, w) :: P.zip vs) m p = _
    unfold bindL
    rw [bindL_out fun v hv => (List.nodup_cons.mp nd).1 (List.of_mem_zip hv).1, if_pos hk]
    simp
  | p :: P, w :: vs, i + 1, m, nd, h1, h2, hk => by
    show bindL kindOf ((p, w) :: P.zip vs) m x = _
    unfold bindL
    exact bindL_get (i := i) (List.nodup_cons.mp nd).2 (by simpa using h1) (by simpa using h2) hk
theorem bindC_get {kindOf : Str → Option NameKind} {x : Str} {v : Value} : ∀ {P : List Str} {vs : List Value} {i : Nat} {m : Str → Option Value}, P.Nodup → P[i]? = some x → vs[i]? = some v → kindOf x ≠ some .local →
    bindC kindOf (P.zip vs) m x = some v
  | [], _, _, _, _, h, _, _ => by simp at h
  | _ :: _, [], _, _, _, _, h, _ => by simp at h
  | p :: P, w :: vs, 0, m, nd, h1, h2, hk => by
    simp at h1 h2; subst h1; subst h2
    show bindC kindOf ((p, w) :: P.zip vs) m p = _
    unfold bindC
    rw [bindC_out fun v hv => (List.nodup_cons.mp nd).1 (List.of_mem_zip hv).1, if_neg hk]
    simp
  | p :: P, w :: vs, i + 1, m, nd, h1, h2, hk => by
    show bindC kindOf ((p, w) :: P.zip vs) m x = _
    unfold bindC
    exact bindC_get (i := i) (List.nodup_cons.mp nd).2 (by simpa using h1) (by simpa using h2) hk

/-- the names' values at the entry -/
def start (N : List Str) (vs : List V) : St := vs.map some ++ List.replicate (N.length - vs.length) none

/-- the context of a def's body, at its entry; an exception leaves the frame, then lies as CX says -/
def cxOf (CX : CXT) (P : Program) (w : World) (K : PySem.W.Frag) (mg : Str → Option Value) (base : Heap) (N : List Str) (qual : Str) (scope : Scope) (f : Addr) (cd : Value) (A : Around) (outer : List Env) (s : Shared) (H : Hp) (E : XK) : Cx where
  prog := P
  w := w
  K := K
  mg := mg
  base := base
  A := A.deeper (envOfC qual scope s.heap.objs.size f cd)
  N := N
  s_0 := s
  H_0 := H
  env := envOfC qual scope s.heap.objs.size f cd
  outer := outer
  stack := envOfC qual scope s.heap.objs.size f cd :: outer
  ex := []
  calm := true
  fn := fun _ => true
  pn := []
  xe := fun e s' => wpAny (model P w) (A.deeper (envOfC qual scope s.heap.objs.size f cd)) (leaving (envOfC qual scope s.heap.objs.size f cd) e) (fun _ s'' => CX outer H s E e s'') (fun e' s'' => CX outer H s E e' s'') s'

theorem cell_has {sc : Scope} {n : Nat} {x : Str} (h : sc.names.lookup x = some .cell) : ∃ c, (cellsFrom n sc.names []).lookup x = some c := by
  have q := PySem.W.cellsFrom_some sc.names n [] (.inl h)
  exact Option.isSome_iff_exists.mp q

theorem inv_start {CX : CXT} {P : Program} {w : World} {K : PySem.W.Frag} {mg : Str → Option Value} {base : Heap} {N ps : List Str} {qual : Str} {scope : Scope} {f : Addr} {cd : Value} {A : Around} {outer : List Env} {s s1 : Shared} {H : Hp} {E : XK} {us : List Value} {vs : List V}
    (S : FnScope N ps scope) (hd : A.handled = none) (e0 : Env0 P w K mg base A outer s H) (hl : vs.length = ps.length) (r : Vals vs us)
    (x : InCallC s s.heap.objs.size (bindL (envOfC qual scope s.heap.objs.size f cd).kindOf (ps.zip us) fun _ => none) (cellsFrom (s.heap.objs.size + 1) scope.names []) (bindC (envOfC qual scope s.heap.objs.size f cd).kindOf (ps.zip us) fun _ => none) s1) :
    Inv (cxOf CX P w K mg base N qual scope f cd A outer s H E) [] (start N vs) H s1 := by
  have hpl : ps.length ≤ N.length := by have := congrArg List.length S.pre; rw [List.length_take] at this; omega
  obtain ⟨h1, tk, rfl, hk⟩ := x.done
  have noA : ∀ b : Addr, b ∉ (cxOf CX P w K mg base N qual scope f cd A outer s H E).ex := fun b z => absurd (show b ∈ ([] : List Addr) from z) (by simp)
  refine ⟨⟨e0.mod, S.kind, rfl, rfl, Nat.le_refl _, fun y z c h1 h2 => ?_, fun y hy => ?_, fun y c _ h => ?_, fun _ => hd, Around.frames_deeper e0.frames, .inr ⟨rfl, rfl⟩, fun b z => absurd z (noA b), e0.bs, e0.bsz, fun b _ _ => noA b, fun b z => absurd z (noA b), e0.funs, e0.frf⟩,
    rfl, e0.bare, Un.kept hk, ⟨_, x.toInCall.ns, fun i y v h1 h2 h3 => ?_⟩, fun y c h => ⟨_, x.cell y c h⟩, e0.hok.fresh (Nat.le_refl _), fun y c h => ?_, fun p hp => absurd (show p ∈ ([] : List (Addr × Obj)) from hp) (by simp), e0.hok.kept hk, ?_⟩
  · exact name_of_addr x.apart (PySem.mem_of_lookup h1) (PySem.mem_of_lookup h2)
  · have hy : scope.names.lookup y = some .cell ∨ scope.names.lookup y = some .free := hy
    rcases hy with hy | hy
    · exact cell_has hy
    · exact absurd rfl (S.nofree _ (PySem.mem_of_lookup hy))
  · exact Nat.le_of_lt (x.above y c (PySem.mem_of_lookup h))
  · have hi : i < vs.length := by
      unfold start at h2
      by_cases hi : i < vs.length
      · exact hi
      · rw [List.getElem?_append_right (by simpa using hi)] at h2
        rw [List.getElem?_replicate] at h2
        split at h2 <;> cases h2
    have ha : vs[i]? = some v := by
      unfold start at h2
      rw [List.getElem?_append_left (by simpa using hi), List.getElem?_map] at h2
      cases e : vs[i]? with
      | none => rw [e] at h2; cases h2
      | some a => rw [e] at h2; cases h2; rfl
    obtain ⟨u, hu, rv⟩ := r.get ha
    have hp : ps[i]? = some y := by
      rw [← S.pre, List.getElem?_take_of_lt (by omega)]; exact h1
    have ndP : ps.Nodup := by rw [← S.pre]; exact S.nd.sublist (List.take_sublist _ _)
    refine ⟨u, rv, ?_⟩
    rcases S.par y (List.mem_of_getElem? hp) with k | k
    · exact .inl ⟨k, bindL_get ndP hp hu k⟩
    · obtain ⟨c, e⟩ := cell_has (n := s.heap.objs.size + 1) k
      refine .inr ⟨.inl k, c, e, ?_⟩
      have q := x.cell y c e
      rw [bindC_get ndP hp hu (by show scope.names.lookup y ≠ _; rw [k]; decide)] at q
      exact q
  · exact e0.hok.fresh (Nat.le_of_lt (x.above y c (PySem.mem_of_lookup h)))
  · unfold start
    show _ = N.length
    rw [List.length_append, List.length_map, List.length_replicate]
    omega

/-- THE RULE: a def (or a method) of the text, by its body. The body's reading t is chosen for each entry; it is run at the parameters' values -/
theorem fn_of {CX : CXT} {P : Program} {w : World} {K : PySem.W.Frag} {mg : Str → Option Value} {base : Heap} {k : Nat} {f : Addr} {name qual : Str} {params : Arguments} {body : List Stmt} {scope : Scope} {dV kV doc pm cdv ct oc : Value} {an od : Option Addr}
    {osl : Array (Option Value)} {N ps : List Str} {sp : Sp} (lk : K.lookup f = some ⟨oc, od, .func (PySem.W.fnOf name qual params body scope dV kV doc pm an cdv ct), osl⟩) (hcd : PySem.W.codeIn K cdv qual = true) (S : FnScope N ps scope)
    (len : ∀ vs H Q E, sp vs H Q E → vs.length = ps.length)
    (hbody : ∀ (A : Around) (outer : List Env) (s : Shared) (H : Hp) (vs : List V) (Q : VK) (E : XK), Room k (A.deeper (envOfC qual scope s.heap.objs.size f cdv)) → sp vs H Q E →
      ∃ t, PSs (cxOf CX P w K mg base N qual scope f cdv A outer s H E) body t ∧ t { nx := fun _ H' => Q .non H', rt := Q } (start N vs) H) :
    FnOk P w K mg base CX (k + 1) f (PySem.W.fnOf name qual params body scope dV kV doc pm an cdv ct) ps sp := by
  refine ⟨len, fun A outer s H args us vs Q E hr e0 hb r hsp => ?_⟩
  have hl := len _ _ _ _ hsp
  have KX : K.In s.heap := e0.mod.kin.keeps fun b o e => (e0.bs b o e).1
  have lim : s.heap.NoLimit := e0.mod.nolimit.keeps fun b o e => (e0.bs b o e).1
  have hkind : ∀ y ∈ ps.zip us, scope.names.lookup y.1 = some .local ∨ (scope.names.lookup y.1 = some .cell ∧ ((cellsFrom (s.heap.objs.size + 1) scope.names []).lookup y.1).isSome = true) := fun ⟨n, v⟩ hy => by
    rcases S.par n (List.of_mem_zip hy).1 with q | q
    · exact .inl q
    · exact .inr ⟨q, PySem.W.cellsFrom_some _ _ _ (.inl q)⟩
  refine codeAny_call_function hr.depth (KX _ _ lk) rfl S.co S.gen rfl (PySem.W.codeRec_of KX hcd) (hb _ _ _ _ ?_)
  refine wpAny_newFunctionEnv_cells S.kind hkind fun env he s1 x => ?_
  subst he
  refine ⟨lim.keeps x.toInCall.keep, codeAny_func ?_⟩
  obtain ⟨t, ht, hq⟩ := hbody A outer s H vs Q E (hr.deeper _) hsp
  have I : Inv (cxOf CX P w K mg base N qual scope f cdv A outer s H E) [] (start N vs) H s1 := inv_start S hr.hd e0 hl r x
  refine wpAny_mono (ht [] s1 (start N vs) H _ I hq) (fun fl s' hs => ?_) fun e s' hs => hs
  have fin : ∀ {σ' : St} {H' : Hp} {v : V} {u : Value}, Inv (cxOf CX P w K mg base N qual scope f cdv A outer s H E) [] σ' H' s' → RelV v u → Q v H' → CE outer P w H s Q u s' :=
    fun {σ' H' v u} J rv q => ⟨v, H', J.os, J.bare, J.base, J.hok, rv, q⟩
  cases fl with
  | ret u =>
    obtain ⟨v, σ', H', J, rv, q⟩ := hs
    exact fin J rv q
  | next =>
    obtain ⟨σ', H', J, q⟩ := hs
    exact fin (v := V.non) (u := Value.none) J rfl q
  | brk =>
    obtain ⟨_, _, _, q⟩ := hs
    exact False.elim q
  | cont =>
    obtain ⟨_, _, _, q⟩ := hs
    exact False.elim q
end L2

namespace L2
open PySem PySem.Spec PyProof.Rows
section
variable {X : Cx} {x : Str} {p pos : Pos} {e : Expr} {es : List Expr} {t : TA} {id T : String} {r : List V → Hp → VK → Prop}

def tCB (r : List V → Hp → VK → Prop) (t : TA) : TE := fun σ H Q => t σ H fun vs H1 => r vs H1 Q
/-- f(e, ..), f a built-in function -/
theorem pe_callB (hc : CallR X (.builtin id) r) (hg : Gl X x) (hm : X.mg x = none) (hv : bootBuiltins x = some (.builtin id)) (ha : PA X (e :: es) t) (hn : x ≠ "__name__" := by decide) (hdb : (x == ("__debug__" : Str)) = false := by decide)
    (he : starEach (e :: es) X.env = (false, eval e X.env) :: starEach es X.env := by rfl) (hpl : (backTo pos (starEach es X.env)).any (·.1) = false := by rfl) : PE X (.Call (.Name x p) (e :: es) [] pos) (tCB r t) := by
  intro pins s σ H Q I h
  refine wpAny_Call_Name_kw (ld_blt I hg hm hv ?_ hn hdb)
  exact PyProof.Rows.callWith_builtin1 (thn (ha pos pins s σ H _ I h) fun us s1 ⟨vs, H1, I1, r1, q1⟩ => hc pins s1 σ H1 vs us Q I1 r1 q1) he hpl
end
end L2

namespace HT
open PySem PyProof.Rows



section
open PySem.SeqAt
open PySem.AutoSeq1 (wpAny_loadPart')
open PySem.MeetsSeq PySem.MeetsSeq2 PySem.MeetsSeq3

end

section
variable {prog : Program} {w : World} {A : Around} {E : Value → Shared → Prop} {s : Shared}



/-! ### t[a:b], not the whole -/
/-- a slice's bound as a place among n (d where it is left out) -/
def sIx (n d : Nat) : Option Int → Nat
  | none => d
  | some v => if v < 0 then (v + (n : Int)).toNat else min v.toNat n
theorem sIx_nat (n d k : Nat) : sIx n d (some (k : Int)) = min k n := by
  show (if (k : Int) < 0 then ((k : Int) + (n : Int)).toNat else min (k : Int).toNat n) = min k n
  rw [if_neg (by omega), Int.toNat_natCast]

end
end HT

namespace L2
open PySem PySem.Spec PyProof.Rows

/-! ### the parts of a slice -/
abbrev TO := St → Hp → (Option Int → Hp → Prop) → Prop
/-- a slice's part (left out, or an int) -/
def PO (X : Cx) (e : Option Expr) (t : TO) : Prop :=
  ∀ (pins : List (Addr × Obj)) (s : Shared) (σ : St) (H : Hp) (Q : Option Int → Hp → Prop), Inv X pins σ H s → t σ H Q →
    wpAny (model X.prog X.w) X.A (evalPart e X.env) (fun u s' => ∃ o H', Inv X pins σ H' s' ∧ IsPart u o ∧ Q o H') X.xe s
def tNoPart : TO := fun _ H Q => Q none H
def tPart (t : TE) : TO := fun σ H Q => t σ H fun x H1 => ∃ i, x = .int i ∧ Q (some i) H1


section
variable {X : Cx} {e : Expr} {te : TE} {lo hi : Option Expr} {tl th : TO} {pos p2 : Pos}

theorem po_none : PO X none tNoPart := by
  intro pins s σ H Q I h
  rw [evalPart_none]
  exact wpAny_pure ⟨none, H, I, .none, h⟩
theorem po_some (h : PE X e te) : PO X (some e) (tPart te) := by
  intro pins s σ H Q I hw
  rw [evalPart_some]
  refine thn (h pins s σ H _ I hw) fun u s1 ⟨x, H1, I1, r1, q1⟩ => ?_
  obtain ⟨i, rfl, q⟩ := q1
  obtain ⟨t, rfl⟩ := r1
  exact ⟨some i, H1, I1, .int i t, q⟩

/-- what a slice of a value is, by values: the slice object stands at sl -/
def SlR (X : Cx) (r : V → Option Int → Option Int → Hp → VK → Prop) : Prop :=
  ∀ (pins : List (Addr × Obj)) (s : Shared) (σ : St) (H : Hp) (x : V) (v vl vu : Value) (lo hi : Option Int) (sl : Addr) (Q : VK), Inv X pins σ H s → RelV x v → s.heap.IsSliceOf sl vl vu .none → IsPart vl lo → IsPart vu hi → r x lo hi H Q →
    ∃ T id, typeLookup (.type T) "__getitem__" = pure (some (.builtin id)) ∧ s.TypeIs v T ∧ wpAny (model X.prog X.w) X.A (getItem v (.ref sl)) (EP X pins σ Q) X.xe s
def tSl (r : V → Option Int → Option Int → Hp → VK → Prop) (te : TE) (tl th : TO) : TE := fun σ H Q => te σ H fun x H1 => tl σ H1 fun l H2 => th σ H2 fun u H3 => r x l u H3 Q
/-- a[lo:hi], any a -/
theorem pe_slice {r : V → Option Int → Option Int → Hp → VK → Prop} (hr : SlR X r) (he : PE X e te) (hl : PO X lo tl) (hu : PO X hi th) : PE X (.Subscript e (.Slice lo hi none p2) pos) (tSl r te tl th) := by
  intro pins s σ H Q I h
  refine Subscript_ (thn (he pins s σ H _ I h) fun v s1 ⟨x, H1, I1, r1, q1⟩ => ?_)
  refine wpAny_Slice (thn (hl pins s1 σ H1 _ I1 q1) fun vl s2 ⟨l, H2, I2, pl, q2⟩ => thn (hu pins s2 σ H2 _ I2 q2) fun vu s3 ⟨u, H3, I3, pu, q3⟩ => ?_)
  rw [evalPart_none]
  refine wpAny_pure ?_
  have I4 : Inv X pins σ H3 { s3 with heap := s3.heap.push { cls := .type "slice", data := .fields #[vl, vu, .none] } } := I3.kept (t' := s3.toks) fun b ob q => Heap.get?_push_of_some _ q
  obtain ⟨T, id, hT, ht, hg⟩ := hr pins { s3 with heap := s3.heap.push { cls := .type "slice", data := .fields #[vl, vu, .none] } } σ H3 x v vl vu l u s3.heap.objs.size Q I4 r1 (Heap.IsSliceOf.new ..) pl pu q3
  show wpAny (model X.prog X.w) X.A (subscriptTail e (.Slice lo hi none p2) v (.ref s3.heap.objs.size)) (EP X pins σ Q) X.xe { s3 with heap := s3.heap.push { cls := .type "slice", data := .fields #[vl, vu, .none] } }
  exact tail_any (ops := [.ref s3.heap.objs.size, v]) ht hT hg (by with_unfolding_all rfl)

/-- the items of xs[lo:hi] -/
def cutV (xs : List V) (lo hi : Option Int) : List V := (xs.drop (HT.sIx xs.length 0 lo)).take (HT.sIx xs.length xs.length hi - HT.sIx xs.length 0 lo)
theorem cutV_length (xs : List V) (lo hi : Option Int) : (cutV xs lo hi).length ≤ xs.length := by
  unfold cutV
  rw [List.length_take, List.length_drop]
  omega

/-! ### t < u, t + u -/
end
end L2

namespace L2
open PySem PySem.Spec PyProof.Rows

/-! ### places -/
/-- the place that an index of any sign means -/
def ixN (n : Nat) (i : Int) : Option Nat := if 0 ≤ i then (if i < n then some i.toNat else none) else if -(n : Int) ≤ i then some (i + n).toNat else none
def atI {α : Type} (xs : List α) (i : Int) : Option α := (ixN xs.length i).bind fun j => xs[j]?
theorem ixN_seq {n : Nat} {i : Int} {j : Nat} (h : ixN n i = some j) : seqIndex? i n = some j ∧ j < n ∧ -(n : Int) ≤ i ∧ i < n := by
  unfold ixN at h
  by_cases h0 : 0 ≤ i
  · rw [if_pos h0] at h
    by_cases h1 : i < n
    · rw [if_pos h1] at h
      have e : i.toNat = j := Option.some.inj h
      exact ⟨by rw [seqIndex_of h0 h1, e], by omega, by omega, h1⟩
    · rw [if_neg h1] at h; cases h
  · rw [if_neg h0] at h
    by_cases h1 : -(n : Int) ≤ i
    · rw [if_pos h1] at h
      have e : (i + n).toNat = j := Option.some.inj h
      exact ⟨by rw [seqIndex_neg (by omega) h1, e], by omega, h1, by omega⟩
    · rw [if_neg h1] at h; cases h
theorem atI_get {α : Type} {xs : List α} {i : Int} {v : α} (h : atI xs i = some v) : ∃ j, seqIndex? i xs.length = some j ∧ xs[j]? = some v ∧ j < xs.length ∧ -(xs.length : Int) ≤ i ∧ i < xs.length := by
  unfold atI at h
  cases e : ixN xs.length i with
  | none => rw [e] at h; cases h
  | some j =>
    rw [e] at h
    obtain ⟨h1, h2, h3, h4⟩ := ixN_seq e
    exact ⟨j, h1, h, h2, h3, h4⟩
theorem atI_nat {α : Type} {xs : List α} {j : Nat} {v : α} (h : xs[j]? = some v) : atI xs (j : Int) = some v := by
  have hj : j < xs.length := (List.getElem?_eq_some_iff.mp h).1
  have e : ixN xs.length (j : Int) = some j := by
    unfold ixN
    rw [if_pos (by omega), if_pos (by omega)]; simp
  unfold atI; rw [e]; exact h

/-! ### what may be subscripted -/
/-- what stands as an index of a plain subscript -/
def PlainIx (b : Expr) : Prop := ∀ o i, subscripted b false o i = operate [o, i] (getItem o i)
/-- a subscript by values -/
def IxR (X : Cx) (r : R2) : Prop :=
  ∀ (value slice : Expr) (pins : List (Addr × Obj)) (s : Shared) (σ : St) (H : Hp) (x y : V) (v u : Value) (Q : VK), Inv X pins σ H s → RelV x v → RelV y u → r x y H Q →
    subscripted slice false v u = operate [v, u] (getItem v u) → wpAny (model X.prog X.w) X.A (subscriptTail value slice v u) (EP X pins σ Q) X.xe s
/-- a call of a builtin's method by values: the receiver, the arguments -/
def MtR (X : Cx) (id : String) (r : V → List V → Hp → VK → Prop) : Prop :=
  ∀ (pins : List (Addr × Obj)) (s : Shared) (σ : St) (H : Hp) (x : V) (xs : List V) (v : Value) (us : List Value) (Q : VK), Inv X pins σ H s → RelV x v → Vals xs us → r x xs H Q →
    wpAny (model X.prog X.w) X.A (call (.builtin id) (v :: us)) (EP X pins σ Q) X.xe s
section
variable {X : Cx} {a b : Expr} {ta tb : TE} {pos : Pos}
/-- a[b] -/
theorem pe_ix {r : R2} (hr : IxR X r) (ha : PE X a ta) (hb : PE X b tb) (hs : PlainIx b) : PE X (.Subscript a b pos) (tOp r ta tb) := by
  intro pins s σ H Q I h
  exact Subscript_ (binT ha hb I h fun v u s2 x y H2 I2 rx ry q => hr a b pins s2 σ H2 x y v u Q I2 rx ry q (hs _ _))

def rIxL (K : PySem.W.Frag) : R2 := fun x y H Q => ∃ p xs i v, x = .ref p ∧ y = .int i ∧ SqL K H p xs ∧ atI xs i = some v ∧ Q v H
def rIxT (K : PySem.W.Frag) : R2 := fun x y H Q => ∃ p xs i v, x = .ref p ∧ y = .int i ∧ SqT K H p xs ∧ atI xs i = some v ∧ Q v H
theorem ix_list : IxR X (rIxL X.K) := by
  intro value slice pins s σ H x y v u Q I rx ry h hs
  obtain ⟨p, xs, i, z, rfl, rfl, hq, he, q⟩ := h
  cases rx
  obtain ⟨t, rfl⟩ := ry
  obtain ⟨its, r, pl, hz⟩ := I.list hq
  obtain ⟨j, h1, h2, h3, h4, h5⟩ := atI_get he
  obtain ⟨w, ew, rw'⟩ := r.get h2
  have hl := r.length
  have hn := line63
  have fin : EP X pins σ Q w s := ⟨z, H, I, rw', q⟩
  by_cases h0 : 0 ≤ i
  · have hj : i.toNat = j := by
      rw [seqIndex_of h0 h5] at h1
      exact Option.some.inj h1
    exact item_listR pl.isList h0 (by omega) (by rw [hj]; simpa using ew) fin hs
  · have hj : (i + (its.toArray.size : Int)).toNat = j := by
      rw [seqIndex_neg (by omega) h4] at h1
      rw [List.size_toArray, ← hl]
      exact Option.some.inj h1
    exact subscriptTail_builtinR (x := w) pl.isList.typeIs slot_list_getitem.lookup
      (wpAny_getItem_list_neg (Q := fun r s' => r = w ∧ EP X pins σ Q r s') pl.isList (by omega) (by rw [List.size_toArray] <;> omega) (by omega) (by rw [hj]; simpa using ew) ⟨rfl, fin⟩) hs
theorem ix_tup : IxR X (rIxT X.K) := by
  intro value slice pins s σ H x y v u Q I rx ry h hs
  obtain ⟨p, xs, i, z, rfl, rfl, hq, he, q⟩ := h
  cases rx
  obtain ⟨t, rfl⟩ := ry
  obtain ⟨its, r, pl, hz⟩ := I.tuple hq
  obtain ⟨j, h1, h2, h3, h4, h5⟩ := atI_get he
  obtain ⟨w, ew, rw'⟩ := r.get h2
  have hl := r.length
  have hn := line63
  have fin : EP X pins σ Q w s := ⟨z, H, I, rw', q⟩
  exact subscriptTail_builtinR (x := w) pl.typeIs slot_tuple_getitem.lookup
    (getItem_tuple (j := j) (Q := fun r s' => r = w ∧ EP X pins σ Q r s') pl (by omega) (by omega) (by rw [List.size_toArray, ← hl]; exact h1) (by simpa using ew) ⟨rfl, fin⟩) hs

/-! ### xs[i] = v, any sign -/

/-! ### slices -/
theorem slice_bounds (lo hi : Option Int) (n : Nat) : (sliceBounds lo hi none n).1 = ((HT.sIx n 0 lo : Nat) : Int) ∧ (sliceBounds lo hi none n).2.1 = ((HT.sIx n n hi : Nat) : Int) ∧ (sliceBounds lo hi none n).2.2 = 1 := by
  refine ⟨?_, ?_, rfl⟩
  · cases lo with
    | none => simp [sliceBounds, HT.sIx]
    | some i =>
      simp only [sliceBounds, HT.sIx, Option.getD_none, show (1 : Int) > 0 by decide, if_true]
      by_cases h : i < 0
      · simp only [h, if_true] <;> omega
      · simp only [h, if_false] <;> omega
  · cases hi with
    | none => simp [sliceBounds, HT.sIx]
    | some i =>
      simp only [sliceBounds, HT.sIx, Option.getD_none, show (1 : Int) > 0 by decide, if_true]
      by_cases h : i < 0
      · simp only [h, if_true] <;> omega
      · simp only [h, if_false] <;> omega
theorem slicePick_cut (its : List Value) (lo hi : Option Int) : slicePick its.toArray lo hi none = ((its.drop (HT.sIx its.length 0 lo)).take (HT.sIx its.length its.length hi - HT.sIx its.length 0 lo)).toArray := by
  obtain ⟨h1, h2, h3⟩ := slice_bounds lo hi its.toArray.size
  unfold slicePick
  rw [h1, h2, h3]
  simp only [sliceRange_one, pick_run, List.size_toArray] <;> rfl
/-- xs[lo:hi] of a list: a new list -/
def rSlL (K : PySem.W.Frag) : V → Option Int → Option Int → Hp → VK → Prop := fun x lo hi H Q => ∃ a xs, x = .ref a ∧ SqL K H a xs ∧ ∀ p, H p = none → Q (.ref p) (upd H p (.lst (cutV xs lo hi)))
theorem sl_list : SlR X (rSlL X.K) := by
  intro pins s σ H x v vl vu lo hi sl Q I rx hs pl pu h
  obtain ⟨a, xs, rfl, hx, q⟩ := h
  cases rx
  obtain ⟨its, r, ht, hz⟩ := I.list hx
  have hlen := r.length
  refine ⟨"list", _, slot_list_getitem.lookup, ht.isList.typeIs, ?_⟩
  refine wpAny_getItem_list_slice ht.isList hs pl pu .none (by simp) ?_ (by rw [List.size_toArray] <;> omega)
  rw [slicePick_cut, ← hlen]
  refine ⟨.ref s.heap.objs.size, _, I.laid (t' := s.toks) (o := .lst (cutV xs lo hi)) (fun b ob q => Heap.get?_push_of_some _ q) (Nat.le_refl _) ?_, rfl, q _ (I.hok.fresh (Nat.le_refl _))⟩
  exact ⟨Nat.le_trans (cutV_length xs lo hi) hz, _, 0, (r.drop (HT.sIx xs.length 0 lo)).take (HT.sIx xs.length xs.length hi - HT.sIx xs.length 0 lo), Heap.get?_push_size _ rfl⟩

/-! ### in, not in: flat items -/

/-! ### len, list(x), tuple(x) of any list or tuple that is read -/
theorem call_len_seq : CallR X (.builtin "len") (fun xs H Q => ∃ p ys, xs = [.ref p] ∧ (SqL X.K H p ys ∨ SqT X.K H p ys) ∧ Q (.int ys.length) H) := by
  intro pins s σ H xs us Q I r h
  obtain ⟨p, ys, rfl, hq, q⟩ := h
  obtain ⟨u, rfl, rx⟩ := vals1 r
  cases rx
  have hn := line63
  rcases hq with hq | hq
  · obtain ⟨its, r', pl, hz⟩ := I.list hq
    have hlen := r'.length
    exact Calls.call_len_list pl.isList (by simp only [List.size_toArray] <;> omega) ⟨.int ys.length, H, I.tok _, ⟨s.toks + 1, by rw [List.size_toArray, hlen]⟩, q⟩
  · obtain ⟨its, r', pl, hz⟩ := I.tuple hq
    have hlen := r'.length
    exact len_tuple pl (by simp only [List.size_toArray] <;> omega) ⟨.int ys.length, H, I.tok _, ⟨s.toks + 1, by rw [List.size_toArray, hlen]⟩, q⟩

/-! ### the call of a builtin's method: o.m(..) -/
/-- the value is of that builtin type -/
def tyV (K : PySem.W.Frag) (T : String) (x : V) (H : Hp) : Prop := match x with
  | .str _ => T = "str"
  | .int _ => T = "int"
  | .ref p => (T = "list" ∧ ∃ xs, SqL K H p xs) ∨ (T = "tuple" ∧ ∃ o, K.lookup p = some o ∧ o.cls = .type "tuple" ∧ o.dict = none) ∨
      (T = "dict" ∧ ((∃ kvs, H p = some (.dK kvs)) ∨ ∃ kvs, H p = some (.dT kvs))) ∨ (T = "set" ∧ ∃ S n, H p = some (.set S n))
  | _ => False
theorem tyV_is {pins : List (Addr × Obj)} {σ : St} {H : Hp} {s : Shared} {T : String} {x : V} {v : Value} (I : Inv X pins σ H s) (r : RelV x v) (ty : tyV X.K T x H) :
    s.TypeIs v T ∧ ∀ a, v = .ref a → ∃ ob, s.heap.get? a = some ob ∧ ob.dict = none := by
  cases x with
  | str z =>
    obtain ⟨t, rfl⟩ := r
    cases (show T = "str" from ty)
    exact ⟨typeIs_str s z t, fun _ e => nomatch e⟩
  | int i =>
    obtain ⟨t, rfl⟩ := r
    cases (show T = "int" from ty)
    exact ⟨typeIs_int s i t, fun _ e => nomatch e⟩
  | ref p =>
    cases r
    rcases ty with ⟨rfl, xs, hq⟩ | ⟨rfl, o, hk, hc, hd⟩ | ⟨rfl, hk⟩ | ⟨rfl, S, n, hk⟩
    · obtain ⟨its, _, pl, _⟩ := I.list hq
      refine ⟨pl.isList.typeIs, fun a e => ?_⟩
      cases e
      obtain ⟨o, n, e, c, hd, _⟩ := pl
      exact ⟨o, e, hd⟩
    · refine ⟨⟨o, I.kIn p o hk, hc⟩, fun a e => ?_⟩
      cases e
      exact ⟨o, I.kIn _ o hk, hd⟩
    · have z : ∃ o, s.heap.get? p = some o ∧ o.ExactDict := by
        rcases hk with ⟨kvs, hk⟩ | ⟨kvs, hk⟩
        · obtain ⟨_, _, _, _, o, _, _, e, ex, _⟩ := I.hok p _ hk
          exact ⟨o, e, ex⟩
        · obtain ⟨_, _, _, _, o, _, _, e, ex, _⟩ := I.hok p _ hk
          exact ⟨o, e, ex⟩
      obtain ⟨o, e, ex⟩ := z
      refine ⟨⟨o, e, ex.1⟩, fun a e2 => ?_⟩
      cases e2
      exact ⟨o, e, ex.2.1⟩
    · obtain ⟨o, _, _, _, e, ex, _⟩ := I.hok p _ hk
      refine ⟨⟨o, e, ex.1⟩, fun a e2 => ?_⟩
      cases e2
      exact ⟨o, e, ex.2.1⟩
  | _ => exact False.elim ty
def tBM (K : PySem.W.Frag) (T : String) (r : V → List V → Hp → VK → Prop) (to : TE) (t : TA) : TE := fun σ H Q => to σ H fun x H1 => tyV K T x H1 ∧ t σ H1 fun xs H2 => r x xs H2 Q
variable {o e : Expr} {es : List Expr} {to : TE} {t : TA} {name : Str} {apos cpos : Pos} {T id : String} {r : V → List V → Hp → VK → Prop}
theorem pe_bm (pa : PlainAttrs T) (slot : Slot T name id) (hty : typeOf (.builtin id) = pure (.type "method_descriptor")) (hm : MtR X id r) (ho : PE X o to) (ha : PA X (e :: es) t)
    (hbase : attributeBase o name X.env (eval o X.env) = eval o X.env := by rfl)
    (hfew : ((backTo cpos (starEach (e :: es) X.env)).all (fun x => !x.1) && (backToKw cpos (keywordEach [] X.env)).all (fun x => x.1.isSome)
      && decide ((e :: es).length + ([] : List Keyword).length + (if ([] : List Keyword).isEmpty then 0 else 1) < 30)) = true := by rfl)
    (hline : (apos.endLine == cpos.line) = true := by rfl) (hs : starEach (e :: es) X.env = (false, eval e X.env) :: starEach es X.env := by rfl) (hplain : (backTo cpos (starEach es X.env)).any (·.1) = false := by rfl) :
    PE X (.Call (.Attribute o name apos) (e :: es) [] cpos) (tBM X.K T r to t) := by
  intro pins s σ H Q I h
  refine wpAny_Call_method_late hbase hfew hline rfl (thn (ho pins s σ H _ I h) fun v s1 ⟨x, H1, I1, r1, ty, q1⟩ => ?_)
  obtain ⟨h1, h2⟩ := tyV_is I1 r1 ty
  refine ⟨T, id, pa, slot, hty, h1, h2, ?_⟩
  have hA := ha cpos pins s1 σ H1 _ I1 q1
  rw [hs] at hA ⊢
  refine Calls.callWith_builtin (by show (false || (backTo cpos (starEach es X.env)).any (·.1)) = false; rw [hplain] <;> rfl) (Calls.evalArgs_plain ?_)
  exact thn hA fun us s2 ⟨vs, H2, I2, r2, q2⟩ => hm pins s2 σ H2 x vs v us Q I2 r1 r2 q2
/- xs.append(e), list.index on a module's tuple .. are MtR facts of 06m -/
end
end L2

namespace L2
open PySem PySem.Spec PyProof.Rows

def MtM (X : Cx) (id : String) (r : V → List V → Hp → VK → Prop) : Prop :=
  ∀ (pins : List (Addr × Obj)) (s : Shared) (σ : St) (H : Hp) (x : V) (xs : List V) (v : Value) (us : List Value) (Q : VK), Inv X pins σ H s → RelV x v → Vals xs us → r x xs H Q →
    wpAny (model X.prog X.w) X.A (call (.builtin id) (v :: us)) (EP X pins σ Q) X.xe s

/-! ### lists of values -/
theorem Vals.one : ∀ {x : V} {us : List Value}, Vals [x] us → ∃ u, us = [u] ∧ RelV x u
  | _, _, .cons r .nil => ⟨_, rfl, r⟩

section
variable {X : Cx} {pins : List (Addr × Obj)} {σ : St} {H : Hp} {s : Shared} {l b : Addr} {xs ys zs : List V}

/-! ### the two steps: a tracked list is rewritten, a new list is laid -/
theorem Inv.lset {its its' : List Value} {n : Nat} {f : Array Value → Array Value} {t' : Nat} (I : Inv X pins σ H s) (hH : H l = some (.lst xs))
    (e : s.heap.get? l = some { cls := .type "list", data := .seq its.toArray n }) (hf : f its.toArray = its'.toArray) (hv : Vals ys its') (hz : ys.length ≤ sizeLine) :
    Inv X pins σ (upd H l (.lst ys)) { s with heap := s.heap.update l (Obj.mapSeq f), toks := t' } := by
  have q := PySem.IsL.update e f
  rw [hf] at q
  refine I.write (x := l) (e := l) (by rw [hH]; exact trivial) (.inl rfl) (fun b' u hb hu => (Heap.get?_update_other s.heap (Obj.mapSeq f) (Ne.symm hb)).trans hu) ⟨_, q⟩ ?_
  exact ⟨hz, its', _, hv, q⟩
theorem Inv.lnew {its : List Value} {t' : Nat} (I : Inv X pins σ H s) (hv : Vals ys its) (hz : ys.length ≤ sizeLine) :
    Inv X pins σ (upd H s.heap.objs.size (.lst ys)) { s with heap := s.heap.push { cls := .type "list", data := .seq its.toArray }, toks := t' } :=
  I.laid (fun _ _ q => Heap.get?_push_of_some _ q) (Nat.le_refl _) ⟨hz, its, 0, hv, Heap.get?_push_size _ rfl⟩
theorem Inv.fresh (I : Inv X pins σ H s) : H s.heap.objs.size = none := I.hok.fresh (Nat.le_refl _)
theorem Inv.lstM (I : Inv X pins σ H s) (hH : H l = some (.lst xs)) : xs.length ≤ sizeLine ∧ ∃ (its : List Value) (n : Nat), Vals xs its ∧ xs.length = its.length ∧ s.heap.get? l = some { cls := .type "list", data := .seq its.toArray n } := by
  obtain ⟨z, its, n, r, e⟩ := I.hok l _ hH
  exact ⟨z, its, n, r, r.length, e⟩

theorem notLongL {n : Nat} (h : n ≤ sizeLine) : Builtin.List.listTooLong n = false := by
  unfold Builtin.List.listTooLong
  exact decide_eq_false (by omega)
end

section
variable {X : Cx}

/-! ### methods -/
def rAppend : V → List V → Hp → VK → Prop := fun x vs H Q => ∃ l xs y, x = .ref l ∧ vs = [y] ∧ H l = some (.lst xs) ∧ xs.length < sizeLine ∧ Q .non (upd H l (.lst (xs ++ [y])))
theorem mt_append : MtM X "list.append" rAppend := by
  intro pins s σ H x vs v us Q I rx rv h
  obtain ⟨l, xs, y, rfl, rfl, hH, hz, q⟩ := h
  cases rx
  obtain ⟨u, rfl, ru⟩ := rv.one
  obtain ⟨z, its, n, r, hl, e⟩ := I.lstM hH
  refine call_meets F.slot_list_append ⟨_, e, rfl⟩ F.entry_list_append (F.args_list_append_2 _ _) (PySem.list_append l its.toArray n u (by rw [List.size_toArray]; omega)) ⟨e, ?_⟩
  refine ⟨.non, _, I.lset (its' := its ++ [u]) hH e (by simp) (r.append (.cons ru .nil)) ?_, rfl, q⟩
  rw [List.length_append, List.length_singleton]
  omega

def rExtend : V → List V → Hp → VK → Prop := fun x vs H Q => ∃ l b xs zs, x = .ref l ∧ vs = [.ref b] ∧ H l = some (.lst xs) ∧ H b = some (.lst zs) ∧ xs.length + zs.length ≤ sizeLine ∧ Q .non (upd H l (.lst (xs ++ zs)))
theorem mt_extend : MtM X "list.extend" rExtend := by
  intro pins s σ H x vs v us Q I rx rv h
  obtain ⟨l, b, xs, zs, rfl, rfl, hH, hB, hz, q⟩ := h
  cases rx
  obtain ⟨u, rfl, ru⟩ := rv.one
  cases ru
  obtain ⟨z, its, n, r, hl, e⟩ := I.lstM hH
  obtain ⟨z2, its2, n2, r2, hl2, e2⟩ := I.lstM hB
  have hsz : its.toArray.size + its2.toArray.size ≤ sizeLine := by rw [List.size_toArray, List.size_toArray]; omega
  have hlong : ¬ (!its.toArray.isEmpty && Builtin.List.listTooLong (its.toArray.size + its2.toArray.size)) = true := by
    rw [notLongL hsz, Bool.and_false]
    exact Bool.false_ne_true
  refine call_meets F.slot_list_extend ⟨_, e, rfl⟩ F.entry_list_extend (F.args_list_extend_2 _ _)
    (AutoSeq1.list_extend_list_list_0 l its.toArray n b its2.toArray n2 hlong (by rw [List.size_toArray]; omega) (by omega)) ⟨e, e2, ?_⟩
  refine ⟨.non, _, I.lset (its' := its ++ its2) hH e (by simp) (r.append r2) ?_, rfl, q⟩
  rw [List.length_append]
  omega





/-! ### list + list, list += list, list * int -/
def rCat : R2 := fun x y H Q => ∃ l b xs zs, x = .ref l ∧ y = .ref b ∧ H l = some (.lst xs) ∧ H b = some (.lst zs) ∧ xs.length + zs.length ≤ sizeLine ∧ ∀ p, H p = none → Q (.ref p) (upd H p (.lst (xs ++ zs)))
theorem op_cat : OpR X (binaryOp .Add) rCat := by
  intro pins s σ H x y v u Q I rx ry h
  obtain ⟨l, b, xs, zs, rfl, rfl, hH, hB, hz, q⟩ := h
  cases rx
  cases ry
  obtain ⟨z, its, n, r, hl, e⟩ := I.lstM hH
  obtain ⟨z2, its2, n2, r2, hl2, e2⟩ := I.lstM hB
  refine PySem.P.add_list e e2 ?_ (by rw [List.size_toArray, List.size_toArray]; omega)
  have ea : its.toArray ++ its2.toArray = (its ++ its2).toArray := by simp
  rw [ea]
  exact ⟨.ref _, _, I.lnew (t' := s.toks) (r.append r2) (by rw [List.length_append]; omega), rfl, q _ I.fresh⟩

/-! ### del xs[i] -/
end

/-! ### xs[a:b] = ys -/
section
variable {prog : Program} {w : World} {A : Around} {E : Value → Shared → Prop} {s : Shared}
set_option maxRecDepth 100000 in
end

section
variable {X : Cx}
end
end L2

namespace L2
open PySem PySem.Spec PyProof.Rows

theorem Vals.ints : ∀ {ns : List Int} {us : List Value}, Vals (ns.map V.int) us → IntsAre us ns
  | [], us, h => by
    rw [List.map_nil] at h
    cases h
    exact IntsAre.nil
  | n :: ns, us, h => by
    rw [List.map_cons] at h
    cases h with
    | cons r t =>
      obtain ⟨k, rfl⟩ := r
      exact IntsAre.cons n k (Vals.ints t)
theorem Vals.ref1 {a : Addr} {us : List Value} (r : Vals [V.ref a] us) : us = [Value.ref a] := by
  cases r with
  | cons r t =>
    cases t
    cases r
    rfl

/-! ### the library's walks over a list of ints, kept objects alone -/
section
variable {prog : Program} {w : World} {A : Around} {E : Value → Shared → Prop} {s : Shared} {l : Addr} {its : List Value} {ns : List Int} {Q : Value → Shared → Prop}
theorem max_raw (hh : A.handled = none) (hl : s.heap.IsList l its.toArray) (hi : IntsAre its ns) (hne : 0 < ns.length)
    (h : ∀ h' tk M t', (∀ b o, s.heap.get? b = some o → h'.get? b = some o) → M ∈ ns → (∀ a, a ∈ ns → a ≤ M) → Q (.int M t') { s with heap := h', toks := tk }) : wpAny (model prog w) A (call (.builtin "max") [.ref l]) Q E s := by
  obtain ⟨xs, e⟩ := hi.allInts.items
  have hn : numsOf (intItems xs).toList = ns := by rw [← e]; exact hi.numsOf
  rw [nums_intItems] at hn
  subst hn
  rw [e] at hl
  have hsz : 0 < xs.size := by simpa using hne
  refine PySem.max_intList hh hl hsz fun v h' tk hv hk => ?_
  obtain ⟨t, rfl⟩ := intItems_at hv
  obtain ⟨h1, h2⟩ := argBest_gt (numAt xs) (xs.size - 1)
  refine h h' tk _ t hk ?_ fun a ha => ?_
  · rw [numAt_eq]; exact PySem.getD_mem (by rw [List.length_map, Array.length_toList]; omega)
  · obtain ⟨j, hj, rfl⟩ := mem_getD ha
    rw [List.length_map, Array.length_toList] at hj
    rw [← numAt_eq]; exact h2 j (by omega)
end

/-! ### the calls, by values (CallR of 03t; MtR of 06l) -/
section
variable {X : Cx}
/-- max(xs), min(xs) of a list of ints -/
def rMax (K : PySem.W.Frag) : List V → Hp → VK → Prop := fun vs H Q => ∃ (a : Addr) (ns : List Int), vs = [V.ref a] ∧ SqL K H a (ns.map V.int) ∧ 0 < ns.length ∧ ∀ m, m ∈ ns → (∀ y, y ∈ ns → y ≤ m) → Q (.int m) H
theorem cr_max (hc : X.calm = true) : CallR X (.builtin "max") (rMax X.K) := by
  intro pins s σ H vs us Q I r h
  obtain ⟨a, ns, rfl, hs, hne, q⟩ := h
  obtain ⟨its, rv, hl, _⟩ := I.list hs
  rw [Vals.ref1 r]
  exact max_raw (I.ok.hd hc) hl.isList rv.ints hne fun h' tk m t' hk h1 h2 => ⟨.int _, H, I.kept hk, ⟨_, rfl⟩, q m h1 h2⟩

/-! sorted, sort (fewer than 64 items: the library's own bound) -/
end

/-! ### list.index, flat items -/
section
variable {X : Cx}
end

/-! ### type(x) of an own instance; is, is not of a module's class -/
section
variable {X : Cx}
end

/-! ### any(xs), all(xs) of a list of bools -/
section
variable {X : Cx}
end

/-! ### == and != of data at any depth: none, bools, ints, texts, lists, tuples -/
section
variable {X : Cx} {pins : List (Addr × Obj)} {σ : St} {H : Hp} {s : Shared}
end
section
variable {X : Cx}
end
end L2

namespace L2
open PySem PySem.Spec PyProof.Rows
abbrev CellAt (h : Heap) (c : Addr) (v : Option Value) : Prop := h.IsCell c v
def relS (scope sc : Scope) : Scope :=
  { scope with names := scope.names.map fun (n, k) => if (k == .free && sc.kind == .function && sc.names.lookup n == some .cell) then (n, .cell) else (n, k) }

def cloFrom (cells : List (Str × Addr)) : List (Str × NameKind) → List (Str × Addr) → List (Str × Addr)
  | [], acc => acc
  | (n, k) :: r, acc => if k == .free then cloFrom cells r ((n, (cells.lookup n).getD 0) :: acc) else cloFrom cells r acc

theorem closure_loop (env : Env) (f : Str × NameKind → List (Str × Addr) → Sem (ForInStep (List (Str × Addr))))
    (hf : ∀ n k c, f (n, k) c = if k == .free then (do let a ← cellOf env n; pure (.yield ((n, a) :: c))) else pure (.yield c)) :
    ∀ (names : List (Str × NameKind)) (acc : List (Str × Addr)), (∀ y ∈ names, y.2 = .free → ∃ c, env.cells.lookup y.1 = some c) → forIn names acc f = pure (cloFrom env.cells names acc)
  | [], acc, _ => by rw [List.forIn_nil]; rfl
  | (n, k) :: r, acc, h => by
    rw [List.forIn_cons, hf]
    have ih := fun acc => closure_loop env f hf r acc fun y hy => h y (List.mem_cons_of_mem _ hy)
    unfold cloFrom
    by_cases hk : (k == NameKind.free) = true
    · rw [if_pos hk, if_pos hk]
      obtain ⟨c, hc⟩ := h (n, k) List.mem_cons_self (by simpa using hk)
      have e : cellOf env n = pure c := by unfold cellOf; rw [hc]
      rw [e]
      have e2 : (env.cells.lookup n).getD 0 = c := by rw [hc]; rfl
      rw [e2]
      exact ih _
    · rw [if_neg hk, if_neg hk]
      exact ih _
theorem closure_ok {scope : Scope} {env : Env} (h : ∀ y ∈ scope.names, y.2 = .free → ∃ c, env.cells.lookup y.1 = some c) : closureFor scope env = pure (cloFrom env.cells scope.names []) := by
  simp only [closureFor]
  rw [closure_loop env _ (fun n k c => rfl) scope.names [] h]
  rfl

theorem mem_lookup {α : Type} : ∀ {l : List (Str × α)} {n : Str} {c : α}, (n, c) ∈ l → ∃ c', l.lookup n = some c'
  | (k, v) :: r, n, c, h => by
    rw [List.lookup_cons]
    cases hb : n == k with
    | true => exact ⟨_, rfl⟩
    | false =>
      rcases List.mem_cons.mp h with e | h
      · cases e; simp at hb
      · exact mem_lookup h

theorem cloFrom_mem {cells : List (Str × Addr)} : ∀ {names : List (Str × NameKind)} {acc : List (Str × Addr)} {n : Str} {c : Addr}, (n, c) ∈ cloFrom cells names acc → (n, c) ∈ acc ∨ ((n, .free) ∈ names ∧ c = (cells.lookup n).getD 0)
  | [], _, _, _, h => .inl h
  | (m, k) :: r, acc, n, c, h => by
    unfold cloFrom at h
    split at h
    · rename_i hk
      have hk : k = .free := by simpa using hk
      rcases cloFrom_mem h with h | ⟨h1, h2⟩
      · rcases List.mem_cons.mp h with e | h
        · cases e; exact .inr ⟨hk ▸ List.mem_cons_self, rfl⟩
        · exact .inl h
      · exact .inr ⟨List.mem_cons_of_mem _ h1, h2⟩
    · rcases cloFrom_mem h with h | ⟨h1, h2⟩
      · exact .inl h
      · exact .inr ⟨List.mem_cons_of_mem _ h1, h2⟩
theorem cloFrom_acc {cells : List (Str × Addr)} : ∀ {names : List (Str × NameKind)} {acc : List (Str × Addr)} {p : Str × Addr}, p ∈ acc → p ∈ cloFrom cells names acc
  | [], _, _, h => h
  | (m, k) :: r, acc, p, h => by
    unfold cloFrom
    split
    · exact cloFrom_acc (List.mem_cons_of_mem _ h)
    · exact cloFrom_acc h
theorem cloFrom_has {cells : List (Str × Addr)} : ∀ {names : List (Str × NameKind)} {acc : List (Str × Addr)} {n : Str}, (n, .free) ∈ names → (n, (cells.lookup n).getD 0) ∈ cloFrom cells names acc
  | (m, k) :: r, acc, n, h => by
    unfold cloFrom
    rcases List.mem_cons.mp h with e | h
    · cases e
      exact cloFrom_acc List.mem_cons_self
    · split
      · exact cloFrom_has h
      · exact cloFrom_has h

theorem cells_mem : ∀ {names : List (Str × NameKind)} {h : Heap} {acc : List (Str × Addr)} {x : Str} {c : Addr}, (x, c) ∈ cellsFrom h.objs.size names acc →
    (x, c) ∈ acc ∨ ((x, .cell) ∈ names ∧ h.objs.size ≤ c ∧ CellAt (pushCells h names) c none)
  | [], _, _, _, _, h => .inl h
  | (n, k) :: r, h, acc, x, c, hm => by
    unfold cellsFrom at hm
    unfold pushCells
    split at hm
    · rename_i hk
      rw [if_pos hk]
      have hk : k = .cell := by simpa using hk
      rw [← Heap.size_push h { cls := .type "cell", data := .cell none }] at hm
      rcases cells_mem hm with hm | ⟨h1, h2, h3⟩
      · rcases List.mem_cons.mp hm with e | hm
        · cases e
          exact .inr ⟨hk ▸ List.mem_cons_self, Nat.le_refl _, _, pushCells_keeps r _ _ _ (Heap.get?_push_size _ rfl), rfl⟩
        · exact .inl hm
      · rw [Heap.size_push] at h2
        exact .inr ⟨List.mem_cons_of_mem _ h1, Nat.le_of_succ_le h2, h3⟩
    · rename_i hk
      rw [if_neg hk]
      rcases cells_mem hm with hm | ⟨h1, h2, h3⟩
      · exact .inl hm
      · exact .inr ⟨List.mem_cons_of_mem _ h1, h2, h3⟩
theorem cells_acc : ∀ {names : List (Str × NameKind)} {n : Nat} {acc : List (Str × Addr)} {p : Str × Addr}, p ∈ acc → p ∈ cellsFrom n names acc
  | [], _, _, _, h => h
  | (m, k) :: r, n, acc, p, h => by
    unfold cellsFrom
    split
    · exact cells_acc (List.mem_cons_of_mem _ h)
    · exact cells_acc h
theorem cells_has : ∀ {names : List (Str × NameKind)} {n : Nat} {acc : List (Str × Addr)} {x : Str}, (x, .cell) ∈ names → ∃ c, (x, c) ∈ cellsFrom n names acc
  | (m, k) :: r, n, acc, x, h => by
    unfold cellsFrom
    rcases List.mem_cons.mp h with e | h
    · cases e
      exact ⟨n, cells_acc List.mem_cons_self⟩
    · split
      · exact cells_has h
      · exact cells_has h
theorem cells_inj : ∀ {names : List (Str × NameKind)} {h : Heap} {acc : List (Str × Addr)} {x y : Str} {c : Addr}, (∀ p ∈ acc, p.2 < h.objs.size) → (∀ x y c, (x, c) ∈ acc → (y, c) ∈ acc → x = y) →
    (x, c) ∈ cellsFrom h.objs.size names acc → (y, c) ∈ cellsFrom h.objs.size names acc → x = y
  | [], _, _, _, _, _, _, hi, h1, h2 => hi _ _ _ h1 h2
  | (n, k) :: r, h, acc, x, y, c, hl, hi, h1, h2 => by
    unfold cellsFrom at h1 h2
    split at h1
    · rename_i hk
      rw [if_pos hk] at h2
      rw [← Heap.size_push h { cls := .type "cell", data := .cell none }] at h1 h2
      refine cells_inj (h := h.push _) (fun p hp => ?_) (fun x y c a b => ?_) h1 h2
      · rw [Heap.size_push]
        rcases List.mem_cons.mp hp with rfl | hp
        · exact Nat.lt_succ_self _
        · exact Nat.lt_succ_of_lt (hl p hp)
      · rcases List.mem_cons.mp a with e | a <;> rcases List.mem_cons.mp b with e' | b
        · cases e; cases e'; rfl
        · cases e; exact absurd (hl _ b) (Nat.lt_irrefl _)
        · cases e'; exact absurd (hl _ a) (Nat.lt_irrefl _)
        · exact hi _ _ _ a b
    · rename_i hk
      rw [if_neg hk] at h2
      exact cells_inj hl hi h1 h2

theorem newEnv_comp {M : Model} {A : Around} {E : Value → Shared → Prop} {s : Shared} {scope : Scope} {globals : Addr} {closure : List (Str × Addr)} {qual : Str} {func : Option Addr} {code : Value} {around : Env} {builtins : Addr} {Q : Env → Shared → Prop}
    (h : Q (newEnv scope s.heap.objs.size globals (cellsFrom (s.heap.objs.size + 1) scope.names closure) qual func code (some around) builtins)
      { s with heap := pushCells (s.heap.push { cls := .type "dict", data := .dict #[] }) scope.names }) :
    wpAny M A (newFunctionEnv scope globals closure [] qual func code (some around) builtins) Q E s := by
  simp only [newFunctionEnv, Option.isSome_some, if_true]
  refine wpAny_bind (wpAny_alloc ?_)
  refine wpAny_bind (wpAny_layCells _ (fun n k c => rfl) scope.names closure _ _ ?_)
  rw [show ({ s with heap := s.heap.push { cls := .type "dict", data := .dict #[] } } : Shared).heap.objs.size = s.heap.objs.size + 1 from Heap.size_push ..]
  rw [List.forIn_nil]
  exact wpAny_bind (wpAny_pure (wpAny_pure h))

/-- every name of the written scope, in the scope that runs -/
theorem lookup_relS {sc : Scope} : ∀ {names : List (Str × NameKind)} {x : Str} {k : NameKind},
    (names.map fun (n, k) => if (k == NameKind.free && sc.kind == .function && sc.names.lookup n == some .cell) then (n, NameKind.cell) else (n, k)).lookup x = some k →
    ∃ k', names.lookup x = some k' ∧ (k = k' ∨ (k' = .free ∧ k = .cell))
  | [], _, _, h => by simp at h
  | (n, k₀) :: r, x, k, h => by
    have ih := @lookup_relS sc r x k
    have h' : List.lookup x ((if (k₀ == NameKind.free && sc.kind == .function && sc.names.lookup n == some .cell) = true then (n, NameKind.cell) else (n, k₀)) :: (r.map _)) = some k := h
    cases hx : x == n with
    | true =>
      simp only [List.lookup_cons, hx]
      by_cases hc : (k₀ == NameKind.free && sc.kind == .function && sc.names.lookup n == some .cell) = true
      · rw [if_pos hc] at h'
        simp only [List.lookup_cons, hx] at h'
        cases h'
        simp only [Bool.and_eq_true, beq_iff_eq] at hc
        exact ⟨k₀, rfl, .inr ⟨hc.1.1, rfl⟩⟩
      · rw [if_neg hc] at h'
        simp only [List.lookup_cons, hx] at h'
        cases h'
        exact ⟨_, rfl, .inl rfl⟩
    | false =>
      simp only [List.lookup_cons, hx]
      by_cases hc : (k₀ == NameKind.free && sc.kind == .function && sc.names.lookup n == some .cell) = true
      · rw [if_pos hc] at h'
        simp only [List.lookup_cons, hx] at h'
        exact ih h'
      · rw [if_neg hc] at h'
        simp only [List.lookup_cons, hx] at h'
        exact ih h'



/-- the names of a comprehension's block: its own (with their places in N), or captured -/
structure BlkOk (N : List Str) (sc scope : Scope) (own : List (Str × Nat)) : Prop where
  kind : scope.kind = .function
  uniq : ∀ y ∈ scope.names, scope.names.lookup y.1 = some y.2
  ix : ∀ p ∈ own, N[p.2]? = some p.1
  free : ∀ y ∈ scope.names, y.2 = .free → sc.names.lookup y.1 = some .cell ∨ sc.names.lookup y.1 = some .free
  own : ∀ y ∈ scope.names, y.2 = .local ∨ y.2 = .cell → y.1 ∈ own.map (·.1) ∨ y.1 ∉ N
/-- the slots of the block's own names forgotten -/
def wipe (σ : St) : List Nat → St
  | [] => σ
  | v :: vs => (wipe σ vs).set v none
theorem wipe_length (σ : St) : ∀ vs : List Nat, (wipe σ vs).length = σ.length
  | [] => rfl
  | v :: vs => by unfold wipe; rw [List.length_set, wipe_length σ vs]
theorem wipe_some {σ : St} {i : Nat} {x : V} : ∀ {vs : List Nat}, (wipe σ vs)[i]? = some (some x) → σ[i]? = some (some x) ∧ i ∉ vs
  | [], h => ⟨h, by simp⟩
  | v :: vs, h => by
    unfold wipe at h
    by_cases hi : v = i
    · subst hi
      by_cases hv : v < (wipe σ vs).length
      · rw [List.getElem?_set_self hv] at h; cases h
      · rw [List.getElem?_eq_none (by simpa using hv)] at h; cases h
    · rw [List.getElem?_set_ne hi] at h
      obtain ⟨h1, h2⟩ := wipe_some h
      exact ⟨h1, by simp only [List.mem_cons, not_or]; exact ⟨fun e => hi e.symm, h2⟩⟩

/-- the context of a block that starts at s, its iterator's objects at fp -/
abbrev Cx.blk (X : Cx) (s : Shared) (H : Hp) (scope : Scope) (cenv : Env) (fp : List Addr) : Cx := { X with s_0 := s, H_0 := H, env := cenv, outer := X.stack, ex := fp, fn := fun x => scope.names.lookup x == some .cell, pn := [], xe := fun _ _ => False }
section
variable {X : Cx} {pins : List (Addr × Obj)} {σ : St} {H : Hp} {s : Shared}
theorem block_start {scope : Scope} {own : List (Str × Nat)} {fp : List Addr} (I : Inv X pins σ H s) (ok : BlkOk X.N X.env.scope scope own) (hN : X.N.Nodup) (hfp : ∀ b ∈ fp, FpOk X pins H b ∧ b < s.heap.objs.size) :
    Inv (X.blk s H scope (compEnvC scope (cellsFrom (s.heap.objs.size + 1) scope.names (cloFrom X.env.cells scope.names [])) s.heap.objs.size X.env) fp) [] (wipe σ (own.map (·.2))) H { s with heap := pushCells (s.heap.push { cls := .type "dict", data := .dict #[] }) scope.names } := by
  have hfree : ∀ y ∈ scope.names, y.2 = .free → ∃ c, X.env.cells.lookup y.1 = some c := fun y hy e => by
    rcases ok.free y hy e with k | k
    · exact I.ok.has _ (.inl k)
    · exact I.ok.has _ (.inr k)
  generalize hcenv : compEnvC scope (cellsFrom (s.heap.objs.size + 1) scope.names (cloFrom X.env.cells scope.names [])) s.heap.objs.size X.env = cenv
  have kp : ∀ b o, s.heap.get? b = some o → (pushCells (s.heap.push { cls := .type "dict", data := .dict #[] }) scope.names).get? b = some o := fun b o e => pushCells_keeps _ _ _ _ (Heap.get?_push_of_some _ e)
  have hL : cenv.locals = s.heap.objs.size := by rw [← hcenv]; rfl
  have hcl : cenv.cells = cellsFrom (s.heap.objs.size + 1) scope.names (cloFrom X.env.cells scope.names []) := by rw [← hcenv]; rfl
  have hsc : cenv.scope = relS scope X.env.scope := by rw [← hcenv]; rfl
  rw [← Heap.size_push s.heap { cls := .type "dict", data := .dict #[] }] at hcl
  have cm : ∀ {y c}, (y, c) ∈ cloFrom X.env.cells scope.names [] → X.env.cells.lookup y = some c ∧ c < s.heap.objs.size := fun {y c} hm => by
    rcases cloFrom_mem hm with hm | ⟨h1, rfl⟩
    · cases hm
    · obtain ⟨c, hc⟩ := hfree _ h1 rfl
      rw [hc]
      obtain ⟨w, z⟩ := I.cell _ _ hc
      exact ⟨rfl, z.lt⟩
  have mem : ∀ {y c}, cenv.cells.lookup y = some c → (X.env.cells.lookup y = some c ∧ c < s.heap.objs.size) ∨ (s.heap.objs.size + 1 ≤ c ∧ CellAt (pushCells (s.heap.push { cls := .type "dict", data := .dict #[] }) scope.names) c none) := fun {y c} e => by
    rw [hcl] at e
    rcases cells_mem (PySem.mem_of_lookup e) with hm | ⟨_, h2, h3⟩
    · exact .inl (cm hm)
    · rw [Heap.size_push] at h2; exact .inr ⟨h2, h3⟩
  have look : ∀ {y}, scope.names.lookup y = some .free → ∃ c, cenv.cells.lookup y = some c ∧ X.env.cells.lookup y = some c := fun {y} hl => by
    have hy : (y, NameKind.free) ∈ scope.names := PySem.mem_of_lookup hl
    obtain ⟨c', e'⟩ := mem_lookup (cells_acc (names := scope.names) (n := (s.heap.push { cls := .type "dict", data := .dict #[] }).objs.size) (cloFrom_has (cells := X.env.cells) (acc := []) hy))
    rw [← hcl] at e'
    refine ⟨c', e', ?_⟩
    rw [hcl] at e'
    rcases cells_mem (PySem.mem_of_lookup e') with hm | ⟨h1, _, _⟩
    · exact (cm hm).1
    · have := ok.uniq _ h1
      rw [hl] at this; cases this
  have okB : (X.blk s H scope cenv fp).Ok := by
    refine ⟨I.ok.mod, by show cenv.scope.kind = _; rw [hsc]; exact ok.kind, by show cenv.globals = _; rw [← hcenv]; exact I.ok.glob, by show cenv.builtins = _; rw [← hcenv]; exact I.ok.blt, by show s.heap.objs.size ≤ cenv.locals; rw [hL]; exact Nat.le_refl _,
      fun y z c e1 e2 => ?_, fun y hy => ?_, fun y c z e => ?_, I.ok.hd, I.ok.frames, .inl rfl, fun b hb => ⟨?_, fun y c e z => ?_⟩, I.bs, Nat.le_trans I.ok.bsz I.sz, fun b o e hb => ?_, fun b hb z => ?_, I.stack, I.stkFree⟩
    · have e1 : cenv.cells.lookup y = some c := e1
      have e2 : cenv.cells.lookup z = some c := e2
      rw [hcl] at e1 e2
      refine cells_inj (fun p hp => ?_) (fun y z c a b => I.ok.inj y z c (cm a).1 (cm b).1) (PySem.mem_of_lookup e1) (PySem.mem_of_lookup e2)
      rw [Heap.size_push]
      exact Nat.lt_succ_of_lt (cm (y := p.1) (c := p.2) hp).2
    · show ∃ c, cenv.cells.lookup y = some c
      have key : ∀ k, cenv.kindOf y = some k → (k = .cell ∨ k = .free) → ∃ c, cenv.cells.lookup y = some c := fun k hk hk' => by
        unfold Env.kindOf at hk
        rw [hsc] at hk
        obtain ⟨k', e, r⟩ := lookup_relS hk
        have : k' = .cell ∨ k' = .free := by
          rcases r with rfl | ⟨rfl, _⟩
          · exact hk'
          · exact .inr rfl
        rcases this with rfl | rfl
        · obtain ⟨c, hm⟩ := cells_has (n := (s.heap.push { cls := .type "dict", data := .dict #[] }).objs.size) (acc := cloFrom X.env.cells scope.names []) (PySem.mem_of_lookup e)
          obtain ⟨c', e'⟩ := mem_lookup hm
          exact ⟨c', by rw [hcl]; exact e'⟩
        · obtain ⟨c, h1, _⟩ := look e
          exact ⟨c, h1⟩
      rcases hy with hy | hy
      · exact key _ hy (.inl rfl)
      · exact key _ hy (.inr rfl)
    · have z : (scope.names.lookup y == some NameKind.cell) = true := z
      have z : scope.names.lookup y = some .cell := by simpa using z
      have e : cenv.cells.lookup y = some c := e
      rw [hcl] at e
      rcases cells_mem (PySem.mem_of_lookup e) with hm | ⟨_, h2, _⟩
      · rcases cloFrom_mem hm with hm | ⟨h1, _⟩
        · cases hm
        · have q := ok.uniq _ h1
          rw [z] at q; cases q
      · rw [Heap.size_push] at h2
        exact Nat.le_of_succ_le h2
    · show b ≠ cenv.locals
      rw [hL]; exact Nat.ne_of_lt (hfp b hb).2
    · have e : cenv.cells.lookup y = some c := e
      rcases mem e with ⟨h1, _⟩ | ⟨h1, _⟩
      · exact (hfp b hb).1.2.2.2.2.1 y c h1 z
      · have h2 : s.heap.objs.size + 1 ≤ b := by rw [← z]; exact h1
        exact absurd (Nat.lt_of_lt_of_le (hfp b hb).2 (Nat.le_of_succ_le h2)) (Nat.lt_irrefl _)
    · rcases (hfp b hb).1.2.2.2.1 with z | z
      · exact I.ok.noex b o e z
      · exact absurd (Nat.lt_of_lt_of_le (Heap.lt_size e) (Nat.le_trans I.ok.bsz z)) (Nat.lt_irrefl _)
    · rcases List.mem_cons.mp (I.stkSub b z) with z | z
      · exact (hfp b hb).1.2.1 z
      · exact (hfp b hb).1.2.2.1 z
  refine ⟨okB, rfl, I.bare, Un.kept kp, ⟨fun _ => none, ?_, fun i y av e1 e2 e3 => ?_⟩, fun y c e => ?_, ?_, fun y c e => ?_, fun p hp => ?_, I.hok.kept kp, by rw [wipe_length]; exact I.len⟩
  · show Heap.Ns _ cenv.locals _
    rw [hL]
    exact Heap.Ns.keeps (Heap.Ns.new ..) fun b o e => pushCells_keeps _ _ _ _ e
  · obtain ⟨e2, hne⟩ := wipe_some e2
    have hfr : scope.names.lookup y = some .free ∧ (cenv.kindOf y = some .cell ∨ cenv.kindOf y = some .free) := by
      have key : ∀ k, cenv.scope.names.lookup y = some k → k = .local ∨ k = .cell ∨ k = .free → scope.names.lookup y = some .free ∧ (cenv.kindOf y = some .cell ∨ cenv.kindOf y = some .free) := fun k hk hk' => by
        have hk0 := hk
        rw [hsc] at hk
        obtain ⟨k', e, r⟩ := lookup_relS hk
        have no : ¬ (k' = .local ∨ k' = .cell) := fun hh => by
          rcases ok.own _ (PySem.mem_of_lookup e) hh with e' | e'
          · obtain ⟨p, hp, hpy⟩ := List.mem_map.mp e'
            have e3 := ok.ix p hp
            have : p.1 = y := hpy
            rw [this] at e3
            exact hne (List.mem_map.mpr ⟨p, hp, nodup_ix hN e3 e1⟩)
          · exact e' (List.mem_of_getElem? e1)
        rcases r with rfl | ⟨rfl, rfl⟩
        · rcases hk' with rfl | rfl | rfl
          · exact absurd (.inl rfl) no
          · exact absurd (.inr rfl) no
          · exact ⟨e, .inr hk0⟩
        · exact ⟨e, .inl hk0⟩
      have e3 : Vis cenv.scope y := e3
      rcases e3 with e3 | e3 | e3
      · exact key _ e3 (.inl rfl)
      · exact key _ e3 (.inr (.inl rfl))
      · exact key _ e3 (.inr (.inr rfl))
    obtain ⟨m, hn, hl⟩ := I.loc
    have hvis : Vis X.env.scope y := (ok.free _ (PySem.mem_of_lookup hfr.1) rfl).elim (fun k => .inr (.inl k)) (fun k => .inr (.inr k))
    obtain ⟨w, r, q⟩ := hl i y av e1 e2 hvis
    refine ⟨w, r, .inr ⟨hfr.2, ?_⟩⟩
    obtain ⟨c, h1, h2⟩ := look hfr.1
    rcases q with ⟨k, _⟩ | ⟨_, c', e', z⟩
    · have k : X.env.scope.names.lookup y = some .local := k
      rcases ok.free _ (PySem.mem_of_lookup hfr.1) rfl with k' | k' <;> rw [show X.env.scope.names.lookup y = _ from k'] at k <;> cases k
    · rw [h2] at e'; cases e'
      exact ⟨c, h1, z.keeps kp⟩
  · have e : cenv.cells.lookup y = some c := e
    rcases mem e with ⟨h1, _⟩ | ⟨_, z⟩
    · obtain ⟨w, z⟩ := I.cell y c h1
      exact ⟨w, z.keeps kp⟩
    · exact ⟨_, z⟩
  · show H cenv.locals = none
    rw [hL]; exact I.hok.fresh (Nat.le_refl _)
  · have e : cenv.cells.lookup y = some c := e
    rcases mem e with ⟨h1, _⟩ | ⟨h1, _⟩
    · exact I.freeC y c h1
    · exact I.hok.fresh (Nat.le_of_succ_le h1)
  · exact absurd (show p ∈ ([] : List (Addr × Obj)) ++ [] from hp) (by simp)

/-- an item appended to a tracked list -/
theorem app_ok {E : Value → Shared → Prop} {D : Addr} {xs : List V} {y : V} {v : Value} {Q : Value → Shared → Prop} (I : Inv X pins σ H s) (hD : H D = some (.lst xs)) (hz : xs.length < sizeLine) (r : RelV y v)
    (h : ∀ s', Inv X pins σ (upd H D (.lst (xs ++ [y]))) s' → Q .none s') : wpAny (model X.prog X.w) X.A (call (.builtin "list.append") [.ref D, v]) Q E s := by
  obtain ⟨hz', its, n, ri, e⟩ := I.hok D _ hD
  have hl := ri.length
  refine append_at (hsz := by rw [List.size_toArray]; omega) e fun h' sb ho' => ?_
  refine h { s with heap := h' } (I.write (t' := s.toks) (by rw [hD]; trivial) (.inl rfl) (fun b u hb q => (sb.2 b hb).trans q) ⟨_, ho'⟩ ⟨by rw [List.length_append]; exact hz, its ++ [v], n + 1, ri.append (.cons r .nil), ?_⟩)
  rw [ho']
  simp

/-- a clause's tests -/
def PTs (X : Cx) (ifs : List Expr) (t : TT) : Prop :=
  ∀ (pins : List (Addr × Obj)) (s : Shared) (σ : St) (H : Hp) (Q : Bool → Hp → Prop), Inv X pins σ H s → t σ H Q →
    wpAny (model X.prog X.w) X.A (forIn ifs true fun c r => if r = true then do let ok ← isTrue c X.env (eval c X.env); pure (ForInStep.yield ok) else pure (ForInStep.yield r)) (TP X pins σ Q) X.xe s
def tYes : TT := fun _ H Q => Q true H
theorem pts_nil : PTs X [] tYes := fun _ _ _ H _ I h => wpAny_tests_nil ⟨H, I, h⟩
theorem pts_one {c : Expr} {t : TT} (h : PT X c t) : PTs X [c] t := fun pins s σ H Q I hw => wpAny_tests_one (h pins s σ H Q I hw)
end

theorem thnF {α : Type} {t : Sem α} {Q Q' : α → Shared → Prop} {M : Model} {A : Around} {E : Value → Shared → Prop} {s : Shared} (h : wpAny M A t Q (fun _ _ => False) s) (hQ : ∀ a s, Q a s → Q' a s) : wpAny M A t Q' E s := wpAny_mono h hQ fun _ _ z => False.elim z

/-- the loop of a list comprehension's block, the target of any form (codeAny_compLoop_tests asks a target that no tuple goes to; statement and proof follow it, PyProof/CompMap.lean:41-61, with the step letOwnedTupleGo kept) -/
theorem compLoop_any {prog : Program} {w : World} {A : Around} {R : Result → Shared → Prop} {s : Shared} {elt target iter : Expr} {ifs : List Expr} {scope : Scope} {pos : Pos} {it acc : Value} {env : Env} (I : Nat → Shared → Prop)
    (turn : ∀ n s, I n s → wpAny (model prog w) A (pyNext it) (fun r s₁ => match r with
      | none => R (.ok .next) s₁
      | some v => wpAny (model prog w) A (letOwnedTupleGo target it v) (fun _ s₁' => wpAny (model prog w) A (assign target env v) (fun _ s₂ =>
          wpAny (model prog w) A (forIn ifs true fun c r => if r = true then do let ok ← isTrue c env (eval c env); pure (ForInStep.yield ok) else pure (ForInStep.yield r)) (fun ok s₃ =>
            if ok = true then wpAny (model prog w) A (eval elt env) (fun x s₄ =>
              wpAny (model prog w) A (call (.builtin "list.append") [acc, x]) (fun _ s₅ => ∃ m, m < n ∧ I m s₅) (notedBy (model prog w) A env fun e s' => R (.error e) s') s₄) (notedBy (model prog w) A env fun e s' => R (.error e) s') s₃
            else ∃ m, m < n ∧ I m s₃) (notedBy (model prog w) A env fun e s' => R (.error e) s') s₂) (notedBy (model prog w) A env fun e s' => R (.error e) s') s₁') (notedBy (model prog w) A env fun e s' => R (.error e) s') s₁) (notedBy (model prog w) A env fun e s' => R (.error e) s') s)
    (n : Nat) (h : I n s) :
    codeAny (model prog w) A (.compLoop (.ListComp elt [⟨target, iter, ifs, 0⟩] scope pos) 0 it acc env) R s := by
  refine codeAny_loop rfl I (fun n s hI => ?_) n h
  show wpAny _ A ((compTurn (.ListComp elt [⟨target, iter, ifs, 0⟩] scope pos) 0 it acc env).onRaise (fun x => do noteFrame x env; theTreesLotGoes x)) _ _ s
  refine wpAny_noted ?_
  rw [compTurn_list]
  refine wpAny_bind (wpAny_standAt (wpAny_bind (wpAny_mono (turn n s hI) (fun r s₁ h₁ => ?_) fun _ _ h' => h')))
  cases r with
  | none => exact wpAny_pure h₁
  | some v =>
    refine wpAny_bind (wpAny_mono h₁ (fun _ s₁' h₁' => ?_) fun _ _ h' => h')
    refine wpAny_bind (wpAny_mono h₁' (fun _ s₂ h₂ => wpAny_bind (wpAny_mono h₂ (fun ok s₃ h₃ => ?_) fun _ _ h' => h')) fun _ _ h' => h')
    cases ok with
    | false => exact wpAny_pure ⟨rfl, h₃⟩
    | true =>
      exact wpAny_bind (wpAny_bind (wpAny_mono h₃ (fun x s₄ h₄ => wpAny_bind (wpAny_mono h₄ (fun _ s₅ h₅ => wpAny_pure (wpAny_pure ⟨rfl, h₅⟩)) fun _ _ h' => h')) fun _ _ h' => h'))

section
variable {X : Cx}
/-- [elt for target in iter if ..]: D the new list; W by the turn and a measure, Nx what a turn is to reach -/
def tLc (wi : TI) (g : TG) (tt : TT) (te : TE) (vs : List Nat) : TE := fun σ H Q => wi σ H fun J H1 => ∀ D, H1 D = none → ∃ W : Nat → Nat → Hp → Prop, (∃ m, W 0 m (upd H1 D (.lst []))) ∧ ∀ i m H, W i m H →
  (J.stop i H ∧ Q (.ref D) H) ∨ (J.go i H ∧ ∃ Nx : Hp → Prop, (∀ H', Nx H' → ∃ m', m' < m ∧ W (i + 1) m' H') ∧ ∀ x H', J.yld i H x H' → g x (wipe σ vs) H' fun σ2 H2 => wipe σ2 vs = wipe σ vs ∧ tt σ2 H2 fun b H3 =>
    if b = true then te σ2 H3 fun y H4 => ∃ acc, H4 D = some (.lst acc) ∧ acc.length < sizeLine ∧ Nx (upd H4 D (.lst (acc ++ [y]))) else Nx H3)
theorem lc_core {pins : List (Addr × Obj)} {s : Shared} {σ : St} {H : Hp} {Q : VK} {elt tg iter : Expr} {ifs : List Expr} {scope : Scope} {own : List (Str × Nat)} {pos pos' : Pos} {wi : TI} {g : TG} {tt : TT} {te : TE} {use : Option (Value → Sem Unit)} {Qf : Value → Shared → Prop}
    (hc : X.calm = true) (hN : X.N.Nodup) (I : Inv X pins σ H s) (hi : PI X tg iter wi) (ok : BlkOk X.N X.env.scope scope own)
    (hg : ∀ (s : Shared) (H : Hp) (C : Addr) (cl : List (Str × Addr)) (fp : List Addr), PG (X.blk s H scope (compEnvC scope cl C X.env) fp) tg g) (ht : ∀ (s : Shared) (H : Hp) (C : Addr) (cl : List (Str × Addr)) (fp : List Addr), PTs (X.blk s H scope (compEnvC scope cl C X.env) fp) ifs tt)
    (he : ∀ (s : Shared) (H : Hp) (C : Addr) (cl : List (Str × Addr)) (fp : List Addr), PE (X.blk s H scope (compEnvC scope cl C X.env) fp) elt te) (hs : ∀ x, foldedSetIterable iter X.env x = pure x)
    (h : tLc wi g tt te (own.map (·.2)) σ H Q)
    (hRR : ∀ D C s' m H', Inv X pins σ H' s' → Q (.ref D) H' → s'.heap.Ns C m → FpOk X pins H' C → compPost (model X.prog X.w) X.A X.xe use Qf (.ref D) C (.ok .next) s') :
    wpAny (model X.prog X.w) X.A (comprehension (.ListComp elt [⟨tg, iter, ifs, 0⟩] scope pos) scope X.env pos' (newList []) false (eval iter X.env) use) Qf X.xe s := by
  have hfree : ∀ y ∈ scope.names, y.2 = .free → ∃ c, X.env.cells.lookup y.1 = some c := fun y hy e => by
    rcases ok.free y hy e with k | k
    · exact I.ok.has _ (.inl k)
    · exact I.ok.has _ (.inr k)
  refine wpAny_comprehension_free (use := use) rfl hs (closure_ok hfree) ok.kind (fun y hy e => by rw [ok.uniq y hy, e])
    (thn (hi pins s σ H _ I h) fun xv s1 hx => thn hx fun itv s2 h2 => ?_)
  obtain ⟨it, fp, tn, J, H2, e, I2, T, st2, f2, q⟩ := h2
  subst e
  refine wpAny_newObj_type (newEnv_comp ?_) (by show 0 ≤ sizeLine; decide)
  generalize hD : s2.heap.objs.size = D
  have hDn : H2 D = none := I2.hok.fresh (Nat.le_of_eq hD)
  obtain ⟨W, ⟨m0, w0⟩, turn⟩ := q D hDn
  -- the new list
  generalize hs3 : ({ s2 with heap := s2.heap.push { cls := .type "list", data := .seq ([] : List Value).toArray } } : Shared) = s3
  have I3 : Inv X pins σ (upd H2 D (.lst [])) s3 := by
    rw [← hs3]
    refine I2.laid (t' := s2.toks) (fun b o e => Heap.get?_push_of_some _ e) (Nat.le_of_eq hD) ⟨Nat.zero_le _, [], 0, .nil, ?_⟩
    rw [← hD]
    exact Heap.get?_push_size _ rfl
  have h3 : s3.heap = s2.heap.push { cls := .type "list", data := .seq ([] : List Value).toArray } := by rw [← hs3]
  have sz : ∀ b ∈ fp, b < s2.heap.objs.size := fun b hb => by
    obtain ⟨o, e, _⟩ := T.obj _ _ st2 b hb
    exact Heap.lt_size e
  have f3 : ∀ b ∈ fp, FpOk X pins (upd H2 D (.lst [])) b ∧ b < s3.heap.objs.size := fun b hb => by
    have hlt := sz b hb
    refine ⟨⟨?_, (f2 b hb).2⟩, by rw [h3, Heap.size_push]; exact Nat.lt_succ_of_lt hlt⟩
    rw [upd_ne (by rw [← hD]; exact Nat.ne_of_lt hlt)]
    exact (f2 b hb).1
  have st3 : tn 0 s3.heap := T.keep _ _ _ st2 fun b _ o e => by rw [h3]; exact Heap.get?_push_of_some _ e
  have I4 := block_start I3 ok hN f3
  have pg := hg s3 (upd H2 D (.lst [])) s3.heap.objs.size (cellsFrom (s3.heap.objs.size + 1) scope.names (cloFrom X.env.cells scope.names [])) fp
  have pt := ht s3 (upd H2 D (.lst [])) s3.heap.objs.size (cellsFrom (s3.heap.objs.size + 1) scope.names (cloFrom X.env.cells scope.names [])) fp
  have pe := he s3 (upd H2 D (.lst [])) s3.heap.objs.size (cellsFrom (s3.heap.objs.size + 1) scope.names (cloFrom X.env.cells scope.names [])) fp
  show codeAny _ _ (.compStart (.ListComp elt [⟨tg, iter, ifs, 0⟩] scope pos) 0 (.ref it) (.ref D) (compEnvC scope (cellsFrom (s3.heap.objs.size + 1) scope.names (cloFrom X.env.cells scope.names [])) s3.heap.objs.size X.env)) (compPost (model X.prog X.w) X.A X.xe use Qf (.ref D) s3.heap.objs.size) { s3 with heap := pushCells (s3.heap.push { cls := .type "dict", data := .dict #[] }) scope.names }
  have nfp : ∀ b ∈ fp, (upd H2 D (.lst [])) b = none := fun b hb => (f3 b hb).1.1
  generalize hce : compEnvC scope (cellsFrom (s3.heap.objs.size + 1) scope.names (cloFrom X.env.cells scope.names [])) s3.heap.objs.size X.env = ce at I4 pg pt pe ⊢
  have cL : ce.locals = s3.heap.objs.size := by subst hce; rfl
  generalize hH3 : upd H2 D (.lst []) = H3 at I3 I4 pg pt pe w0 nfp f3
  generalize hs4 : ({ s3 with heap := pushCells (s3.heap.push { cls := .type "dict", data := .dict #[] }) scope.names } : Shared) = s4 at I4 ⊢
  have st4 : tn 0 s4.heap := T.keep _ _ _ st3 fun b _ o e => by rw [← hs4]; exact pushCells_keeps _ _ _ _ (Heap.get?_push_of_some _ e)
  have stat : ∀ {σ' : St} {H' : Hp} {s' : Shared}, Inv (X.blk s3 H3 scope ce fp) [] σ' H' s' → (∀ b ∈ fp, H' b = none) → ∀ b ∈ fp, FpOk (X.blk s3 H3 scope ce fp) [] H' b := fun {σ' H' s'} I' hn b hb =>
    ⟨hn b hb, (I'.ok.exf b hb).1, I'.ok.exfs b hb, .inl hb, fun x c e => (I'.ok.exf b hb).2 x c e, fun p hp => absurd (show p ∈ ([] : List (Addr × Obj)) ++ [] from hp) (by simp)⟩
  have loop : codeAny (model X.prog X.w) X.A (.compLoop (.ListComp elt [⟨tg, iter, ifs, 0⟩] scope pos) 0 (.ref it) (.ref D) ce) (compPost (model X.prog X.w) X.A X.xe use Qf (.ref D) s3.heap.objs.size) s4 := by
    refine compLoop_any (fun n s' => ∃ i H', Inv (X.blk s3 H3 scope ce fp) [] (wipe σ (own.map (·.2))) H' s' ∧ tn i s'.heap ∧ (∀ b ∈ fp, H' b = none) ∧ W i n H') ?_ m0 ⟨0, H3, I4, st4, nfp, w0⟩
    rintro n s5 ⟨i, H5, I5, st5, n5, w5⟩
    rcases turn i n H5 w5 with ⟨stop, qq⟩ | ⟨go, Nx, hNx, step⟩
    · have td := T.done (X.blk s3 H3 scope ce fp) rfl rfl rfl hc i [] s5 _ H5 (fun _ _ => False) I5 (stat I5 n5) st5 stop
      refine thnF td fun r s6 ⟨hr, I6⟩ => ?_
      subst hr
      -- back in the def's context
      have I7 : Inv X pins σ H5 s6 := I3.call' (ch := fp) I6.os I6.base I6.hok I6.bare fun b hb => ⟨(f3 b hb).1.2.2.2.1, (f3 b hb).1.2.1, (f3 b hb).1.2.2.2.2.1, (f3 b hb).1.2.2.2.2.2⟩
      have nC : H5 s3.heap.objs.size = none := by
        have z : H5 ce.locals = none := I6.free
        rw [cL] at z
        exact z
      obtain ⟨m, hn, _⟩ := I6.loc
      have hn : s6.heap.Ns ce.locals m := hn
      rw [cL] at hn
      exact hRR D s3.heap.objs.size s6 m H5 I7 qq hn (I3.fpOk (Nat.le_refl _) nC)
    · have ti := T.item (X.blk s3 H3 scope ce fp) rfl rfl rfl hc i [] s5 _ H5 (fun _ _ => False) I5 (stat I5 n5) st5 go
      refine thnF ti fun r s6 ⟨u, hr, h6⟩ => ?_
      subst hr
      refine thnF h6 fun _ s7 ⟨x, H7, I7, r7, y7, st7, n7⟩ => ?_
      have I7' := I7.pinned (stat I7 n7) (T.obj _ _ st7)
      refine thnF (pg _ s7 _ H7 x u _ I7' r7 (step x H7 y7)) fun _ s8 ⟨σ8, H8, I8, hw8, q8⟩ => ?_
      refine thnF (pt _ s8 σ8 H8 _ I8 q8) fun b s9 ⟨H9, I9, q9⟩ => ?_
      -- the turn's end
      have fin : ∀ {s' : Shared} {H' : Hp}, Inv (X.blk s3 H3 scope ce fp) ([] ++ pinsAt fp s7.heap) σ8 H' s' → Nx H' → ∃ m, m < n ∧ ∃ i H', Inv (X.blk s3 H3 scope ce fp) [] (wipe σ (own.map (·.2))) H' s' ∧ tn i s'.heap ∧ (∀ b ∈ fp, H' b = none) ∧ W i m H' := fun {s' H'} I' nx => by
        obtain ⟨m', hm, w'⟩ := hNx H' nx
        have pin' : ∀ b ∈ fp, ∀ o, s7.heap.get? b = some o → s'.heap.get? b = some o ∧ H' b = none := fun b hb o e =>
          let z := I'.pin (b, o) (List.mem_append_right _ (List.mem_append_right _ (mem_pinsAt hb e)))
          ⟨z.1, z.2.1⟩
        have hl : (wipe σ (own.map (·.2))).length = σ8.length := by rw [← hw8, wipe_length]
        refine ⟨m', hm, i + 1, H', (I'.unpinned (pins := [])).weak hl (fun j v e => ?_), T.keep _ _ _ st7 fun b hb o e => (pin' b hb o e).1, fun b hb => ?_, w'⟩
        · rw [← hw8] at e
          exact (wipe_some e).1
        · obtain ⟨o, e, _⟩ := T.obj _ _ st7 b hb
          exact (pin' b hb o e).2
      cases b with
      | false =>
        simp only [Bool.false_eq_true, if_false] at q9 ⊢
        exact fin I9 q9
      | true =>
        simp only [if_true] at q9 ⊢
        refine thnF (pe _ s9 σ8 H9 _ I9 q9) fun z s10 ⟨yv, H10, I10, r10, acc, hD10, hz10, nx⟩ => ?_
        exact app_ok (X := X.blk s3 H3 scope ce fp) I10 hD10 hz10 r10 fun s11 I11 => fin I11 nx
  exact codeAny_compStart_list loop (T.self X.A 0 _ _ _ st4 loop)
/-- as a value -/
theorem pe_lc {elt tg iter : Expr} {ifs : List Expr} {scope : Scope} {own : List (Str × Nat)} {pos : Pos} {wi : TI} {g : TG} {tt : TT} {te : TE} (hc : X.calm = true) (hN : X.N.Nodup) (hi : PI X tg iter wi) (ok : BlkOk X.N X.env.scope scope own)
    (hg : ∀ (s : Shared) (H : Hp) (C : Addr) (cl : List (Str × Addr)) (fp : List Addr), PG (X.blk s H scope (compEnvC scope cl C X.env) fp) tg g) (ht : ∀ (s : Shared) (H : Hp) (C : Addr) (cl : List (Str × Addr)) (fp : List Addr), PTs (X.blk s H scope (compEnvC scope cl C X.env) fp) ifs tt)
    (he : ∀ (s : Shared) (H : Hp) (C : Addr) (cl : List (Str × Addr)) (fp : List Addr), PE (X.blk s H scope (compEnvC scope cl C X.env) fp) elt te) (hs : ∀ x, foldedSetIterable iter X.env x = pure x := by intro _; rfl) :
    PE X (.ListComp elt [⟨tg, iter, ifs, 0⟩] scope pos) (tLc wi g tt te (own.map (·.2))) := by
  intro pins s σ H Q I h
  rw [eval_ListComp]
  refine lc_core hc hN I hi ok hg ht he hs h fun D C s' m H' I' q hn f => ⟨m, hn, fun h'' sb => ?_⟩
  obtain ⟨f0, f1, f2, f3, f4, f5⟩ := f
  exact ⟨.ref D, H', I'.turned (t' := s'.toks) (fun b o hb e => (sb.2 b hb).trans e) f0 f1 f3 f4 f5, rfl, q⟩
/-- name = [..] on one line, the name a local -/
theorem ps_setLc {i : Nat} {y : Str} {py : Pos} {elt tg iter : Expr} {ifs : List Expr} {scope : Scope} {own : List (Str × Nat)} {pos spos : Pos} {wi : TI} {g : TG} {tt : TT} {te : TE} (hc : X.calm = true) (hN : X.N.Nodup) (hy : X.N[i]? = some y) (hyl : X.env.scope.names.lookup y = some .local)
    (hsw : swapsWith (.ListComp elt [⟨tg, iter, ifs, 0⟩] scope pos) (some (.Name y py)) spos.line X.env = pure true) (hi : PI X tg iter wi) (ok : BlkOk X.N X.env.scope scope own)
    (hg : ∀ (s : Shared) (H : Hp) (C : Addr) (cl : List (Str × Addr)) (fp : List Addr), PG (X.blk s H scope (compEnvC scope cl C X.env) fp) tg g) (ht : ∀ (s : Shared) (H : Hp) (C : Addr) (cl : List (Str × Addr)) (fp : List Addr), PTs (X.blk s H scope (compEnvC scope cl C X.env) fp) ifs tt)
    (he : ∀ (s : Shared) (H : Hp) (C : Addr) (cl : List (Str × Addr)) (fp : List Addr), PE (X.blk s H scope (compEnvC scope cl C X.env) fp) elt te) (hs : ∀ x, foldedSetIterable iter X.env x = pure x := by intro _; rfl) :
    PS X (.Assign [.Name y py] (.ListComp elt [⟨tg, iter, ifs, 0⟩] scope pos) spos) (tAsg (tLc wi g tt te (own.map (·.2))) (gName i)) := by
  intro pins s σ H D I h
  rw [exec_Assign_Name_used _ _ _ _ hsw]
  refine wpAny_bind (wpAny_standAt (wpAny_bind ?_))
  show wpAny _ X.A (do let _ ← comprehension (.ListComp elt [⟨tg, iter, ifs, 0⟩] scope pos) scope X.env (firstIterPos [⟨tg, iter, ifs, 0⟩] pos) (newList []) false (eval iter X.env) (some (assign (.Name y py) X.env))) _ _ s
  have h : tLc wi g tt te (own.map (·.2)) σ H (fun x H1 => gName i x σ H1 D.nx) := h
  refine wpAny_bind (thn (lc_core (Qf := fun _ s' => SP X pins D .next s') hc hN I hi ok hg ht he hs h fun L C s' m H' I' q hn f => ?_) fun _ s' hq => wpAny_pure (wpAny_pure hq))
  show wpAny _ _ (assign (.Name y py) X.env (.ref L)) _ _ _
  refine wpAny_assign_Name (store_ok2 (v := V.ref L) I' hN hy (.inl hyl) rfl (fun s2 I2 ⟨a, sb, ha⟩ => ?_) (.inr hyl))
  obtain ⟨f0, f1, f2, f3, f4, f5⟩ := f
  have haC : C ≠ a := by
    rcases ha with z | z
    · rw [z]; exact f1
    · exact fun e => f4 y a z e.symm
  refine ⟨m, hn.sameBut sb haC, fun h3 sb3 => ?_⟩
  exact ⟨_, H', I2.turned (t' := s2.toks) (fun b o hb e => (sb3.2 b hb).trans e) f0 f1 f3 f4 f5, q⟩
theorem sw_true {elt : Expr} {gs : List Comprehension} {scope : Scope} {pos py : Pos} {y : Str} {l : Nat} {env : Env} (hk : env.scope.kind = .function) (hy : env.scope.names.lookup y = some .local) (hl : (py.line == pos.line) = true)
    (ha : (scope.names.any fun (n, k) => n == y && (k == .local || k == .cell)) = false) : swapsWith (.ListComp elt gs scope pos) (some (.Name y py)) l env = pure true := by
  have ky : env.kindOf y = some .local := hy
  have hb : env.blockKind = .function := by unfold Env.blockKind; rw [hk]; rfl
  unfold swapsWith
  simp only [hb, ky, ha, Expr.pos, hl]
  rfl
end

/-! ### the forms one uses -/
/-- over a list that the block leaves as it is -/
theorem lc_list {K : PySem.W.Frag} {a : Addr} {xs : List V} {g : TG} {tt : TT} {te : TE} {vs : List Nat} {σ : St} {H1 : Hp} {D : Addr} {Qd : Hp → Prop} (Pv : Nat → Hp → Prop) (h0 : Pv 0 (upd H1 D (.lst []))) (hl : ∀ i H, i ≤ xs.length → Pv i H → SqL K H a xs)
    (hs : ∀ i x H, xs[i]? = some x → Pv i H → g x (wipe σ vs) H fun σ2 H2 => wipe σ2 vs = wipe σ vs ∧ tt σ2 H2 fun b H3 =>
      if b = true then te σ2 H3 fun y H4 => ∃ acc, H4 D = some (.lst acc) ∧ acc.length < sizeLine ∧ Pv (i + 1) (upd H4 D (.lst (acc ++ [y]))) else Pv (i + 1) H3) (hd : ∀ H, Pv xs.length H → Qd H) :
    ∃ W : Nat → Nat → Hp → Prop, (∃ m, W 0 m (upd H1 D (.lst []))) ∧ ∀ i m H, W i m H →
      ((Itl K a).stop i H ∧ Qd H) ∨ ((Itl K a).go i H ∧ ∃ Nx : Hp → Prop, (∀ H', Nx H' → ∃ m', m' < m ∧ W (i + 1) m' H') ∧ ∀ x H', (Itl K a).yld i H x H' → g x (wipe σ vs) H' fun σ2 H2 => wipe σ2 vs = wipe σ vs ∧ tt σ2 H2 fun b H3 =>
        if b = true then te σ2 H3 fun y H4 => ∃ acc, H4 D = some (.lst acc) ∧ acc.length < sizeLine ∧ Nx (upd H4 D (.lst (acc ++ [y]))) else Nx H3) := by
  refine ⟨fun i m H => m = xs.length - i ∧ i ≤ xs.length ∧ Pv i H, ⟨xs.length, by simp, Nat.zero_le _, h0⟩, ?_⟩
  rintro i m H ⟨rfl, hi, p⟩
  have q := hl i H hi p
  by_cases hlt : i < xs.length
  · refine .inr ⟨⟨xs, xs[i], q, by simp [hlt]⟩, Pv (i + 1), fun H' p' => ⟨xs.length - (i + 1), by omega, rfl, hlt, p'⟩, fun x H' y => ?_⟩
    obtain ⟨e, y⟩ := y
    subst e
    exact hs i x _ (y xs q) p
  · have e : i = xs.length := by omega
    subst e
    exact .inl ⟨⟨xs, q, Nat.le_refl _⟩, hd H p⟩
def blkC (N : List Str) (sc scope : Scope) (own : List (Str × Nat)) : Bool :=
  (match scope.kind with | .function => true | _ => false) && (scope.names.all fun y => decide (scope.names.lookup y.1 = some y.2)) && (own.all fun p => decide (N[p.2]? = some p.1)) &&
    (scope.names.all fun y => match y.2 with
      | .free => (match sc.names.lookup y.1 with | some .cell => true | some .free => true | _ => false)
      | .local => decide (y.1 ∈ own.map (·.1)) || decide (y.1 ∉ N)
      | .cell => decide (y.1 ∈ own.map (·.1)) || decide (y.1 ∉ N)
      | _ => true)
theorem blkOk_by {N : List Str} {sc scope : Scope} {own : List (Str × Nat)} (h : blkC N sc scope own = true) : BlkOk N sc scope own := by
  unfold blkC at h
  simp only [Bool.and_eq_true, List.all_eq_true, decide_eq_true_eq] at h
  obtain ⟨⟨⟨h1, h2⟩, h3⟩, h4⟩ := h
  refine ⟨?_, h2, h3, fun y hy e => ?_, fun y hy e => ?_⟩
  · split at h1
    · assumption
    · cases h1
  · have q := h4 y hy
    simp only [e] at q
    split at q <;> first | exact .inl (by assumption) | exact .inr (by assumption) | cases q
  · have q := h4 y hy
    rcases e with e | e <;> (simp only [e, Bool.or_eq_true, decide_eq_true_eq] at q; exact q)
end L2

namespace L2
open PySem PySem.Spec PyProof.Rows


section
variable {prog : Program} {w : World} {A : Around} {R : Result → Shared → Prop} {s : Shared} {elt t0 i0 t1 i1 : Expr} {ifs0 ifs1 : List Expr} {scope : Scope} {pos : Pos} {it acc : Value} {env : Env}
end

section
variable {X : Cx}
end
end L2

namespace L2
open PySem PySem.Spec PyProof.Rows

/-! ### lists of pairs as tables -/
section
variable {κ : Type} [DecidableEq κ]
def valV (kvs : List (κ × V)) (k : κ) : Option V := (kvs.find? fun kv => decide (kv.1 = k)).map (·.2)
/-- in its place, or at the end -/
def putK (kvs : List (κ × V)) (k : κ) (v : V) : List (κ × V) :=
  if (kvs.any fun kv => decide (kv.1 = k)) = true then kvs.map (fun kv => if kv.1 = k then (kv.1, v) else kv) else kvs ++ [(k, v)]

theorem valV_pos {p : κ × V} {r : List (κ × V)} {k : κ} (e : p.1 = k) : valV (p :: r) k = some p.2 := by simp [valV, List.find?_cons, e]
theorem valV_neg {p : κ × V} {r : List (κ × V)} {k : κ} (e : ¬ p.1 = k) : valV (p :: r) k = valV r k := by simp [valV, List.find?_cons, e]
theorem valV_any (k : κ) : ∀ kvs : List (κ × V), (kvs.any fun kv => decide (kv.1 = k)) = (valV kvs k).isSome
  | [] => rfl
  | p :: r => by
    rw [List.any_cons]
    by_cases e : p.1 = k
    · simp only [valV_pos e, decide_eq_true e, Bool.true_or, Option.isSome_some]
    · rw [valV_neg e, decide_eq_false e, Bool.false_or]; exact valV_any k r
theorem valV_map (k j : κ) (y : V) : ∀ kvs : List (κ × V), valV (kvs.map fun kv => if kv.1 = k then (kv.1, y) else kv) j = (valV kvs j).map fun x => if j = k then y else x
  | [] => rfl
  | p :: r => by
    have ih := valV_map k j y r
    rw [List.map_cons]
    by_cases h : p.1 = k
    · rw [if_pos h]
      by_cases e : p.1 = j
      · rw [valV_pos (p := (p.1, y)) e, valV_pos e, Option.map_some, if_pos (e.symm.trans h)]
      · rw [valV_neg (p := (p.1, y)) e, valV_neg e, ih]
    · rw [if_neg h]
      by_cases e : p.1 = j
      · rw [valV_pos (p := p) e, valV_pos e, Option.map_some, if_neg (fun z => h (e.trans z))]
      · rw [valV_neg (p := p) e, valV_neg e, ih]
theorem valV_snoc (k j : κ) (y : V) : ∀ kvs : List (κ × V), valV kvs k = none → valV (kvs ++ [(k, y)]) j = if j = k then some y else valV kvs j
  | [], _ => by
    by_cases e : k = j
    · rw [if_pos e.symm]; exact valV_pos (p := (k, y)) e
    · rw [if_neg (fun z => e z.symm)]; exact valV_neg (p := (k, y)) e
  | p :: r, hn => by
    rw [List.cons_append]
    have hk : ¬ p.1 = k := fun z => by rw [valV_pos z] at hn; cases hn
    rw [valV_neg hk] at hn
    have ih := valV_snoc k j y r hn
    by_cases e : p.1 = j
    · rw [valV_pos e, valV_pos e, if_neg (fun z => hk (e.trans z))]
    · rw [valV_neg e, valV_neg e, ih]
theorem valV_put (kvs : List (κ × V)) (k j : κ) (y : V) : valV (putK kvs k y) j = if j = k then some y else valV kvs j := by
  unfold putK
  by_cases a : (kvs.any fun kv => decide (kv.1 = k)) = true
  · rw [if_pos a, valV_map]
    rw [valV_any] at a
    by_cases e : j = k
    · obtain ⟨x, hx⟩ := Option.isSome_iff_exists.mp a
      rw [if_pos e, e, hx, Option.map_some, if_pos rfl]
    · rw [if_neg e]
      cases valV kvs j with
      | none => rfl
      | some x => rw [Option.map_some, if_neg e]
  · rw [if_neg a]
    refine valV_snoc k j y kvs ?_
    rw [valV_any] at a
    cases q : valV kvs k with
    | none => rfl
    | some x => rw [q] at a; exact (a rfl).elim
theorem length_putK (kvs : List (κ × V)) (k : κ) (v : V) : (putK kvs k v).length ≤ kvs.length + 1 := by
  unfold putK
  split
  · rw [List.length_map]; omega
  · rw [List.length_append, List.length_cons, List.length_nil]; omega
theorem putK_new {kvs : List (κ × V)} {k : κ} (v : V) (h : valV kvs k = none) : putK kvs k v = kvs ++ [(k, v)] := by
  unfold putK
  rw [valV_any, h]
  exact if_neg (by decide)

theorem RelO.isSome_eq {o : Option V} {u : Option Value} (r : RelO o u) : o.isSome = u.isSome := by
  cases o with
  | none => cases u with
    | none => rfl
    | some _ => exact (show False from r).elim
  | some _ => cases u with
    | none => exact (show False from r).elim
    | some _ => rfl

/-- raw tables of the same keys -/
theorem KV.val {kvs : List (κ × V)} {vs : List (κ × Value)} (r : KV kvs vs) (k : κ) : RelO (valV kvs k) (valueAt vs k) := by
  unfold KV at r
  induction r with
  | nil => exact True.intro
  | @cons p q ps qs h t ih =>
    obtain ⟨h1, h2⟩ := h
    by_cases e : p.1 = k
    · have e' : q.1 = k := h1.symm.trans e
      have b : valueAt (q :: qs) k = some q.2 := by simp [valueAt, List.find?_cons, e']
      rw [valV_pos e, b]; exact h2
    · have e' : ¬ q.1 = k := fun z => e (h1.trans z)
      have b : valueAt (q :: qs) k = valueAt qs k := by simp [valueAt, List.find?_cons, e']
      rw [valV_neg e, b]; exact ih
theorem KV.any {kvs : List (κ × V)} {vs : List (κ × Value)} (r : KV kvs vs) (k : κ) : (kvs.any fun kv => decide (kv.1 = k)) = vs.any fun kv => decide (kv.1 = k) := by
  unfold KV at r
  induction r with
  | nil => rfl
  | cons h t ih => rw [List.any_cons, List.any_cons, ih, h.1]
theorem KV.repl {kvs : List (κ × V)} {vs : List (κ × Value)} (r : KV kvs vs) (k : κ) {y : V} {u : Value} (ry : RelV y u) :
    KV (kvs.map fun kv => if kv.1 = k then (kv.1, y) else kv) (vs.map fun kv => if kv.1 = k then (kv.1, u) else kv) := by
  unfold KV at r ⊢
  induction r with
  | nil => exact .nil
  | @cons p q ps qs h t ih =>
    rw [List.map_cons, List.map_cons]
    refine .cons ?_ ih
    obtain ⟨h1, h2⟩ := h
    by_cases e : p.1 = k
    · rw [if_pos e, if_pos (h1.symm.trans e)]; exact ⟨h1, ry⟩
    · rw [if_neg e, if_neg (fun z => e (h1.trans z))]; exact ⟨h1, h2⟩
theorem KV.put {kvs : List (κ × V)} {vs : List (κ × Value)} (r : KV kvs vs) (k : κ) {y : V} {u : Value} (ry : RelV y u) : KV (putK kvs k y) (stored vs k u) := by
  unfold putK stored
  rw [r.any k]
  by_cases e : (vs.any fun kv => decide (kv.1 = k)) = true
  · rw [if_pos e, if_pos e]; exact r.repl k ry
  · rw [if_neg e, if_neg e]; exact Paired.snoc r ⟨rfl, ry⟩
theorem KV.length {kvs : List (κ × V)} {vs : List (κ × Value)} (r : KV kvs vs) : kvs.length = vs.length := Paired.length r
end


/-! ### a tracked dict, its keys ints and texts or tuples of these -/
theorem kV_is {P : Program} {w : World} {k : Key} {u : Value} (r : RelV (kV k) u) : (mixKind P w).is k u = true := by
  cases k with
  | inl i => obtain ⟨t, e⟩ := (show ∃ t, u = Value.int i t from r); subst e; exact mixKind_int P w i t
  | inr x => obtain ⟨t, e⟩ := (show ∃ t, u = Value.str x t from r); subst e; exact mixKind_str P w x t
theorem items_are {P : Program} {w : World} : ∀ {ks : List Key} {us : List Value}, Vals (ks.map kV) us → ItemsAre (mixKind P w) ks us
  | [], _, r => by rw [List.map_nil] at r; cases r; exact .nil
  | k :: ks, _, r => by
    rw [List.map_cons] at r
    cases r with
    | cons h t => exact .cons (kV_is h) (items_are t)

/-- raw entries of a dict with tuple keys -/
abbrev KT (H : Hp) : List (List Key × V) → List (List Key × Addr × Value) → Prop := Paired fun p q => p.1 = q.1 ∧ H q.2.1 = some (.tup (p.1.map kV)) ∧ RelV p.2 q.2.2
theorem KT.val {H : Hp} {kvs : List (List Key × V)} {xs : List (List Key × Addr × Value)} (r : KT H kvs xs) (k : List Key) : RelO (valV kvs k) ((atKey xs k).map (·.2)) := by
  induction r with
  | nil => exact True.intro
  | @cons p q ps qs h t ih =>
    obtain ⟨h1, _, h2⟩ := h
    by_cases e : p.1 = k
    · have e' : q.1 = k := h1.symm.trans e
      have b : atKey (q :: qs) k = some q.2 := by simp [atKey, List.find?_cons, e']
      rw [valV_pos e, b]; exact h2
    · have e' : ¬ q.1 = k := fun z => e (h1.trans z)
      have b : atKey (q :: qs) k = atKey qs k := by simp [atKey, List.find?_cons, e']
      rw [valV_neg e, b]; exact ih
theorem KT.repl {H : Hp} {kvs : List (List Key × V)} {xs : List (List Key × Addr × Value)} (r : KT H kvs xs) (k : List Key) {y : V} {u : Value} (ry : RelV y u) :
    KT H (kvs.map fun kv => if kv.1 = k then (kv.1, y) else kv) (xs.map (putAt k u)) := by
  induction r with
  | nil => exact .nil
  | @cons p q ps qs h t ih =>
    rw [List.map_cons, List.map_cons]
    refine .cons ?_ ih
    obtain ⟨h1, h2, h3⟩ := h
    unfold putAt
    by_cases e : p.1 = k
    · rw [if_pos e, if_pos (h1.symm.trans e)]; exact ⟨h1, h2, ry⟩
    · rw [if_neg e, if_neg (fun z => e (h1.trans z))]; exact ⟨h1, h2, h3⟩
theorem KT.put {H : Hp} {kvs : List (List Key × V)} {xs : List (List Key × Addr × Value)} (r : KT H kvs xs) (k : List Key) {b : Addr} {y : V} {u : Value} (hb : H b = some (.tup (k.map kV))) (ry : RelV y u) :
    KT H (putK kvs k y) (storedH xs k b u) := by
  have e : (kvs.any fun kv => decide (kv.1 = k)) = (atKey xs k).isSome := by
    rw [valV_any, (r.val k).isSome_eq, Option.isSome_map]
  unfold putK storedH
  rw [e]
  by_cases q : (atKey xs k).isSome = true
  · rw [if_pos q, if_pos q]; exact r.repl k ry
  · rw [if_neg q, if_neg q]; exact Paired.snoc r ⟨rfl, hb, ry⟩
theorem KT.keeps {H H' : Hp} {kvs : List (List Key × V)} {xs : List (List Key × Addr × Value)} (r : KT H kvs xs) (ht : ∀ b ys, H b = some (.tup ys) → H' b = some (.tup ys)) : KT H' kvs xs :=
  Paired.mapP r fun _ _ z => ⟨z.1, ht _ _ z.2.1, z.2.2⟩

section
variable {P : Program} {w : World} {H : Hp} {h : Heap} {a : Addr}
theorem rd_of {u : HO} (ok : HOk P w H h) (e : Rd H a u) : ObjOk P w H h a u := e.ok ok
theorem dk_rd {kvs : List (Key × V)} (ok : HOk P w H h) (e : Rd H a (.dK kvs)) : kvs.length ≤ sizeLine ∧ (a == sysModules) = false ∧ ∃ vs, KV kvs vs ∧ h.DictOf (mixKind P w) a vs :=
  show ObjOk P w H h a (.dK kvs) from rd_of ok e
theorem dk_of {kvs : List (Key × V)} (ok : HOk P w H h) (e : H a = some (.dK kvs)) : kvs.length ≤ sizeLine ∧ (a == sysModules) = false ∧ ∃ vs, KV kvs vs ∧ h.DictOf (mixKind P w) a vs := dk_rd ok (.inl e)
/-- a tracked tuple of ints and texts is a key -/
theorem key_of {ks : List Key} (ok : HOk P w H h) (e : H a = some (.tup (ks.map kV))) : (tupleKind (mixKind P w)).is h ks a := by
  obtain ⟨_, its, r, o, h1, h2, n, h3⟩ := (show ObjOk P w H h a (.tup (ks.map kV)) from ok a _ e)
  exact ⟨o, its.toArray, n, h1, h2, h3, by simpa using items_are r⟩
theorem dt_rd {kvs : List (List Key × V)} (ok : HOk P w H h) (e : Rd H a (.dT kvs)) : kvs.length ≤ sizeLine ∧ (a == sysModules) = false ∧
    ∃ xs, KT H kvs xs ∧ h.DictOfH (tupleKind (mixKind P w)) a xs := by
  obtain ⟨z, y, xs, r, o, es, ep, h1, h2, h3, h4, h5⟩ := (show ObjOk P w H h a (.dT kvs) from rd_of ok e)
  refine ⟨z, y, xs, r, o, es, ep, h1, h2, h3, h4, fun x hx => ?_, h5⟩
  have all : ∀ {l : List (List Key × V)} {m : List (List Key × Addr × Value)}, KT H l m → ∀ x ∈ m, (tupleKind (mixKind P w)).is h x.1 x.2.1 := by
    intro l m q
    induction q with
    | nil => intro x hx; exact nomatch hx
    | @cons p q ps qs hq t ih =>
      intro x hx
      rcases List.mem_cons.mp hx with e | hx
      · subst e
        exact key_of ok (by rw [← hq.1]; exact hq.2.1)
      · exact ih x hx
  exact all r x hx
theorem dt_of {kvs : List (List Key × V)} (ok : HOk P w H h) (e : H a = some (.dT kvs)) : kvs.length ≤ sizeLine ∧ (a == sysModules) = false ∧
    ∃ xs, KT H kvs xs ∧ h.DictOfH (tupleKind (mixKind P w)) a xs := dt_rd ok (.inl e)
end

/-- what the dict at a holds at the key y -/
def DGet (H : Hp) (a : Addr) (y : V) (r : Option V) : Prop :=
  (∃ kvs k, Rd H a (.dK kvs) ∧ y = kV k ∧ r = valV kvs k) ∨ ∃ kvs k b, Rd H a (.dT kvs) ∧ y = .ref b ∧ H b = some (.tup (k.map kV)) ∧ r = valV kvs k
/-- the heap behind a[y] = v -/
def DPut (H : Hp) (a : Addr) (y v : V) (H' : Hp) : Prop :=
  (∃ kvs k, H a = some (.dK kvs) ∧ y = kV k ∧ kvs.length < sizeLine ∧ H' = upd H a (.dK (putK kvs k v))) ∨
  ∃ kvs k b, H a = some (.dT kvs) ∧ y = .ref b ∧ H b = some (.tup (k.map kV)) ∧ kvs.length < sizeLine ∧ H' = upd H a (.dT (putK kvs k v))
theorem DGet.k {H : Hp} {a : Addr} {kvs : List (Key × V)} {k : Key} (e : H a = some (.dK kvs)) : DGet H a (kV k) (valV kvs k) := .inl ⟨kvs, k, .inl e, rfl, rfl⟩
theorem DGet.t {H : Hp} {a b : Addr} {kvs : List (List Key × V)} {k : List Key} (e : H a = some (.dT kvs)) (eb : H b = some (.tup (k.map kV))) : DGet H a (.ref b) (valV kvs k) := .inr ⟨kvs, k, b, .inl e, rfl, eb, rfl⟩
theorem DPut.k {H : Hp} {a : Addr} {kvs : List (Key × V)} {k : Key} {v : V} (e : H a = some (.dK kvs)) (hl : kvs.length < sizeLine) : DPut H a (kV k) v (upd H a (.dK (putK kvs k v))) := .inl ⟨kvs, k, e, rfl, hl, rfl⟩


section
variable {X : Cx} {pins : List (Addr × Obj)} {σ : St} {H : Hp} {s : Shared} {a : Addr} {y v : V} {u r : Value} {o : Option V} {A : Around} {E : Value → Shared → Prop}

theorem Inv.big (I : Inv X pins σ H s) : sysModules < s.heap.objs.size := by
  have h : mainGlobals < s.heap.objs.size := (I.mod.glob.keeps I.bk).lt
  exact Nat.lt_trans (by decide) h

/-- d[y], there -/
theorem d_getItem {Q : Value → Shared → Prop} (hu : A.units + 1 < cLine) (I : Inv X pins σ H s) (g : DGet H a y (some v)) (ry : RelV y u) (h : ∀ w' s', Inv X pins σ H s' → RelV v w' → Q w' s') :
    wpAny (model X.prog X.w) A (getItem (.ref a) u) Q E s := by
  rcases g with ⟨kvs, k, e, ey, l⟩ | ⟨kvs, k, b, e, ey, eb, l⟩
  · subst ey
    obtain ⟨z, hd, vs, rel, dd⟩ := dk_rd I.hok e
    obtain ⟨w', hw, rw'⟩ := RelO.some_of (v := v) (o := valueAt vs k) (by rw [l]; exact rel.val k)
    exact wpAny_getItem_of (kV_is ry) dd.mapOf hw (h w' _ (I.tok _) rw')
  · subst ey
    cases (show u = Value.ref b from ry)
    obtain ⟨z, hd, xs, rel, dd⟩ := dt_rd I.hok e
    obtain ⟨w', hw, rw'⟩ := RelO.some_of (v := v) (o := (atKey xs k).map (·.2)) (by rw [l]; exact rel.val k)
    obtain ⟨p, hp, hp2⟩ := Option.map_eq_some_iff.mp hw
    refine wpAny_getItem_heap (tupleKind_room_in1 hu) (key_of I.hok eb) dd hp ?_
    rw [hp2]
    exact h w' _ (I.tok _) rw'
/-- y in d -/
theorem d_in {Q : Value → Shared → Prop} (hu : A.units + 1 < cLine) (I : Inv X pins σ H s) (g : DGet H a y o) (ry : RelV y u) (h : ∀ s', Inv X pins σ H s' → Q (.bool o.isSome) s') :
    wpAny (model X.prog X.w) A (compareOp .In u (.ref a)) Q E s := by
  rcases g with ⟨kvs, k, e, ey, l⟩ | ⟨kvs, k, b, e, ey, eb, l⟩
  · subst ey
    obtain ⟨z, hd, vs, rel, dd⟩ := dk_rd I.hok e
    refine wpAny_in_of (kV_is ry) hd dd.mapOf ?_
    rw [← (rel.val k).isSome_eq, ← l]
    exact h _ (I.tok _)
  · subst ey
    cases (show u = Value.ref b from ry)
    obtain ⟨z, hd, xs, rel, dd⟩ := dt_rd I.hok e
    refine wpAny_in_heap (tupleKind_room_in1 hu) (key_of I.hok eb) hd dd ?_
    have q := (rel.val k).isSome_eq
    rw [Option.isSome_map] at q
    rw [← q, ← l]
    exact h _ (I.tok _)
theorem d_notIn {Q : Value → Shared → Prop} (hu : A.units + 1 < cLine) (I : Inv X pins σ H s) (g : DGet H a y o) (ry : RelV y u) (h : ∀ s', Inv X pins σ H s' → Q (.bool (!o.isSome)) s') :
    wpAny (model X.prog X.w) A (compareOp .NotIn u (.ref a)) Q E s := by
  rcases g with ⟨kvs, k, e, ey, l⟩ | ⟨kvs, k, b, e, ey, eb, l⟩
  · subst ey
    obtain ⟨z, hd, vs, rel, dd⟩ := dk_rd I.hok e
    refine wpAny_notIn_of (kV_is ry) hd dd.mapOf ?_
    rw [← (rel.val k).isSome_eq, ← l]
    exact h _ (I.tok _)
  · subst ey
    cases (show u = Value.ref b from ry)
    obtain ⟨z, hd, xs, rel, dd⟩ := dt_rd I.hok e
    refine wpAny_notIn_heap (tupleKind_room_in1 hu) (key_of I.hok eb) hd dd ?_
    have q := (rel.val k).isSome_eq
    rw [Option.isSome_map] at q
    rw [← q, ← l]
    exact h _ (I.tok _)
/-- a dict's object is replaced -/
theorem d_write {h' : Heap} {t' : Nat} {ob : HO} (I : Inv X pins σ H s) (mu : Mut (H a)) (hs : Heap.SameBut a s.heap h') (he : ∃ q, h'.get? a = some q) (new : ObjOk X.prog X.w (upd H a ob) h' a ob) :
    Inv X pins σ (upd H a ob) { s with heap := h', toks := t' } :=
  I.write (x := a) (e := a) mu (.inl rfl) (fun b q hb z => (hs.2 b hb).trans z) he new
theorem dk_new {P : Program} {w : World} {H' : Hp} {h' : Heap} {kvs : List (Key × V)} {vs : List (Key × Value)} (z : kvs.length ≤ sizeLine) (hd : (a == sysModules) = false) (rel : KV kvs vs) (dd : h'.DictOf (mixKind P w) a vs) :
    ObjOk P w H' h' a (.dK kvs) := ⟨z, hd, vs, rel, dd⟩
/-- d[y] = v -/
theorem d_setItem {H' : Hp} {Q : Unit → Shared → Prop} (hu : A.units + 1 < cLine) (I : Inv X pins σ H s) (g : DPut H a y v H') (ry : RelV y u) (rv : RelV v r) (h : ∀ s', Inv X pins σ H' s' → Q () s') :
    wpAny (model X.prog X.w) A (setItem (.ref a) u r) Q E s := by
  rcases g with ⟨kvs, k, e, ey, l, eH⟩ | ⟨kvs, k, b, e, ey, eb, l, eH⟩
  · subst ey eH
    obtain ⟨z, hd, vs, rel, dd⟩ := dk_of I.hok e
    have hz : vs.length ≤ sizeLine := by rw [← rel.length]; exact z
    have hl : (putK kvs k v).length ≤ sizeLine := by have := length_putK kvs k v; omega
    refine wpAny_setItem_pairs (hsz := hz) (kV_is ry) dd fun h' dd' hs => h _ ?_
    have he : ∃ q, h'.get? a = some q := let ⟨q, _, _, hq, _⟩ := dd'; ⟨q, hq⟩
    exact d_write I (by rw [e]; exact True.intro) hs he (dk_new hl hd (rel.put k rv) dd')
  · subst ey eH
    cases (show u = Value.ref b from ry)
    obtain ⟨z, hd, xs, rel, dd⟩ := dt_of I.hok e
    have hz : xs.length ≤ sizeLine := by rw [← Paired.length rel]; exact z
    have hl : (putK kvs k v).length ≤ sizeLine := by have := length_putK kvs k v; omega
    refine wpAny_setItem_heap (hsz := hz) (tupleKind_room_in1 hu) (key_of I.hok eb) dd fun h' dd' hs => h _ ?_
    obtain ⟨q, es, ep, hq, h2, h3, h4, _, h5⟩ := dd'
    refine d_write I (by rw [e]; exact True.intro) hs ⟨q, hq⟩ ⟨hl, hd, _, (rel.put k eb rv).keeps fun c ys ec => ?_, q, es, ep, hq, h2, h3, h4, h5⟩
    rw [upd_ne (ne_of ec e (fun z => nomatch z))]
    exact ec
end

section
variable {X : Cx} {pins : List (Addr × Obj)} {σ : St} {H : Hp} {s : Shared} {a : Addr} {kvs : List (Key × V)} {k : Key} {u : Value} {A : Around} {E : Value → Shared → Prop}
end


/-! ### readings and rules -/
/-- the element of a subscription, not a slice -/
def NoSl (i : Expr) : Prop := ∀ ov iv, subscripted i false ov iv = operate [ov, iv] (getItem ov iv)
theorem subD_of {prog : Program} {w : World} {A : Around} {E : Value → Shared → Prop} {s : Shared} {env : Env} {value slice : Expr} {pos : Pos} {T id : String} {Q : Value → Shared → Prop}
    (hl : typeLookup (.type T) "__getitem__" = pure (some (.builtin id))) (hs : NoSl slice)
    (h : wpAny (model prog w) A (eval value env) (fun o s₁ => wpAny (model prog w) A (eval slice env) (fun i s₂ => s₂.TypeIs o T ∧ wpAny (model prog w) A (getItem o i) Q E s₂) E s₁) E s) :
    wpAny (model prog w) A (eval (.Subscript value slice pos) env) Q E s := by
  refine Subscript_ (wpAny_mono h (fun o s₁ h₁ => wpAny_mono h₁ (fun i s₂ h₂ => ?_) fun _ _ x => x) fun _ _ x => x)
  obtain ⟨hT, h₂⟩ := h₂
  unfold subscriptTail
  refine wpAny_bind ?_
  rw [getitemInPython_of_ne hT.not_modules]
  refine wpAny_bind (wpAny_specialOf hT hl ?_)
  have fin : wpAny (model prog w) A (subscripted slice false o i) (fun r s₃ => wpAny (model prog w) A (letTemporaryGo value o r >>= fun _ => pure r) Q E s₃) E s₂ := by
    rw [hs o i]
    exact wpAny_operating (wpAny_mono h₂ (fun r s₃ h₃ => wpAny_bind (wpAny_letTemporaryGo (wpAny_pure h₃))) fun _ _ x => x)
  first
    | exact wpAny_pure (wpAny_bind fin)
    | exact wpAny_bind (wpAny_pure (wpAny_bind fin))
    | exact wpAny_bind fin

theorem dict_typeIs {X : Cx} {pins : List (Addr × Obj)} {σ : St} {H : Hp} {s : Shared} {a : Addr} {y : V} {o : Option V} (I : Inv X pins σ H s) (g : DGet H a y o) : s.TypeIs (.ref a) "dict" := by
  rcases g with ⟨kvs, k, e, _, _⟩ | ⟨kvs, k, b, e, _, _, _⟩
  · obtain ⟨_, _, vs, _, dd⟩ := dk_rd I.hok e
    exact dd.typeIs
  · obtain ⟨_, _, xs, _, dd⟩ := dt_rd I.hok e
    exact dd.typeIs

/-- d[y] -/
def tDGet (td ty : TE) : TE := fun σ H Q => td σ H fun x H1 => ty σ H1 fun y H2 => ∃ a v, x = .ref a ∧ DGet H2 a y (some v) ∧ Q v H2
/-- y in d, y not in d -/
def tDIn (ty td : TE) : TE := fun σ H Q => ty σ H fun y H1 => td σ H1 fun x H2 => ∃ a o, x = .ref a ∧ DGet H2 a y o ∧ Q (.bl o.isSome) H2
def tDNotIn (ty td : TE) : TE := fun σ H Q => ty σ H fun y H1 => td σ H1 fun x H2 => ∃ a o, x = .ref a ∧ DGet H2 a y o ∧ Q (.bl (!o.isSome)) H2
/-- d[y] = v -/
def sDPut (td ty tv : TE) : TS := fun D σ H => tv σ H fun v H1 => td σ H1 fun x H2 => ty σ H2 fun y H3 => ∃ a H4, x = .ref a ∧ DPut H3 a y v H4 ∧ D.nx σ H4

section
variable {X : Cx} {o i e value : Expr} {pos pos' tpos : Pos} {td ty tv : TE}
theorem pe_dget (hu : X.A.units + 1 < cLine) (ho : PE X o td) (hi : PE X i ty) (hs : NoSl i) : PE X (.Subscript o i pos) (tDGet td ty) := by
  intro pins s σ H Q I h
  refine subD_of PySem.F.slot_dict_getitem.lookup hs (thn (ho pins s σ H _ I h) fun u s1 ⟨x, H1, I1, rx, q1⟩ => thn (hi pins s1 σ H1 _ I1 q1) fun iv s2 ⟨y, H2, I2, ry, a, v, ex, g, q2⟩ => ?_)
  subst ex
  obtain rfl : u = Value.ref a := rx
  exact ⟨dict_typeIs I2 g, d_getItem hu I2 g ry fun w' s3 I3 rw' => ⟨v, H2, I3, rw', q2⟩⟩
theorem pc_din (hu : X.A.units + 1 < cLine) (hi : PE X i ty) (ho : PE X o td) : PC X .In i o (tDIn ty td) := by
  intro pins s σ H Q I h
  refine thn (hi pins s σ H _ I h) fun iv s1 ⟨y, H1, I1, ry, q1⟩ => thn (ho pins s1 σ H1 _ I1 q1) fun u s2 ⟨x, H2, I2, rx, a, ov, ex, g, q2⟩ => ?_
  subst ex
  obtain rfl : u = Value.ref a := rx
  exact d_in hu I2 g ry fun s3 I3 => ⟨.bl ov.isSome, H2, I3, rfl, q2⟩
theorem pc_dnotin (hu : X.A.units + 1 < cLine) (hi : PE X i ty) (ho : PE X o td) : PC X .NotIn i o (tDNotIn ty td) := by
  intro pins s σ H Q I h
  refine thn (hi pins s σ H _ I h) fun iv s1 ⟨y, H1, I1, ry, q1⟩ => thn (ho pins s1 σ H1 _ I1 q1) fun u s2 ⟨x, H2, I2, rx, a, ov, ex, g, q2⟩ => ?_
  subst ex
  obtain rfl : u = Value.ref a := rx
  exact d_notIn hu I2 g ry fun s3 I3 => ⟨.bl (!ov.isSome), H2, I3, rfl, q2⟩
theorem ps_dput (hu : X.A.units + 1 < cLine) (ho : PE X o td) (hi : PE X i ty) (hv : PE X value tv) (hs : swapsWith value (some (.Subscript o i pos')) pos.line X.env = pure false) :
    PS X (.Assign [.Subscript o i pos'] value pos) (sDPut td ty tv) := by
  intro pins s σ H D I h
  refine wpAny_Assign_Subscript (thn (hv pins s σ H _ I h) fun r s1 ⟨v, H1, I1, rv, q1⟩ => thn (ho pins s1 σ H1 _ I1 q1) fun u s2 ⟨x, H2, I2, rx, q2⟩ => thn (hi pins s2 σ H2 _ I2 q2) fun iv s3 ⟨y, H3, I3, ry, a, H4, ex, g, q3⟩ => ?_) hs
  subst ex
  obtain rfl : u = Value.ref a := rx
  exact d_setItem hu I3 g ry rv fun s4 I4 => ⟨σ, H4, I4, q3⟩
end


/-! ### displays -/
theorem dk_empty {P : Program} {w : World} {H : Hp} (h : Heap) (hb : sysModules < h.objs.size) : ObjOk P w H (h.push { cls := .type "dict", data := .dict #[] }) h.objs.size (.dK []) :=
  ⟨Nat.zero_le _, beq_eq_false_iff_ne.mpr (Ne.symm (Nat.ne_of_lt hb)), [], .nil, Heap.DictOf.new h⟩
theorem dt_empty {P : Program} {w : World} {H : Hp} (h : Heap) (hb : sysModules < h.objs.size) : ObjOk P w H (h.push { cls := .type "dict", data := .dict #[] }) h.objs.size (.dT []) :=
  ⟨Nat.zero_le _, beq_eq_false_iff_ne.mpr (Ne.symm (Nat.ne_of_lt hb)), [], .nil, _, #[], 0, Heap.get?_push_size _ rfl, ⟨rfl, rfl, rfl⟩, rfl, rfl, List.nodup_nil⟩
/-- {}, to be a dict of the kind that is wanted -/
def tDNewK : TE := fun _ H Q => ∀ p, H p = none → Q (.ref p) (upd H p (.dK []))
def tDNewT : TE := fun _ H Q => ∀ p, H p = none → Q (.ref p) (upd H p (.dT []))
section
variable {X : Cx} {pos : Pos}
theorem pe_dnewK : PE X (.Dict [] [] pos) tDNewK := fun pins s σ H Q I h =>
  wpAny_Dict_empty ⟨.ref s.heap.objs.size, _, I.laid (a := s.heap.objs.size) (o := .dK []) (t' := s.toks) (fun _ _ q => Heap.get?_push_of_some _ q) (Nat.le_refl _) (dk_empty s.heap I.big), rfl, h _ (I.hok.fresh (Nat.le_refl _))⟩
theorem pe_dnewT : PE X (.Dict [] [] pos) tDNewT := fun pins s σ H Q I h =>
  wpAny_Dict_empty ⟨.ref s.heap.objs.size, _, I.laid (a := s.heap.objs.size) (o := .dT []) (t' := s.toks) (fun _ _ q => Heap.get?_push_of_some _ q) (Nat.le_refl _) (dt_empty s.heap I.big), rfl, h _ (I.hok.fresh (Nat.le_refl _))⟩
end




/-! ### methods -/
structure M2 (X : Cx) (o : Expr) (m : Str) (apos : Pos) (e f : Expr) (cpos : Pos) : Prop where
  base : attributeBase o m X.env (eval o X.env) = eval o X.env
  few : ((backTo cpos (starEach [e, f] X.env)).all (fun x => !x.1) && (backToKw cpos (keywordEach [] X.env)).all (fun x => x.1.isSome)
    && decide (([e, f] : List Expr).length + ([] : List Keyword).length + (if ([] : List Keyword).isEmpty then 0 else 1) < 30)) = true
  line : (apos.endLine == cpos.line) = true
  trees : backTo cpos (starEach [e, f] X.env) = [(false, eval e X.env), (false, eval f X.env)]

/-- a is a dict, whatever its keys -/
def IsD (H : Hp) (a : Addr) : Prop := (∃ kvs, Rd H a (.dK kvs)) ∨ ∃ kvs, Rd H a (.dT kvs)
theorem isD_at {X : Cx} {pins : List (Addr × Obj)} {σ : St} {H : Hp} {s : Shared} {a : Addr} (I : Inv X pins σ H s) (d : IsD H a) :
    s.TypeIs (.ref a) "dict" ∧ (∀ b, Value.ref a = .ref b → ∃ ob, s.heap.get? b = some ob ∧ ob.dict = none) ∧ (a == sysModules) = false := by
  rcases d with ⟨kvs, e⟩ | ⟨kvs, e⟩
  · obtain ⟨_, hd, vs, _, dd⟩ := dk_rd I.hok e
    refine ⟨dd.typeIs, fun b q => ?_, hd⟩
    cases q
    obtain ⟨ob, _, _, h1, h2, _⟩ := dd
    exact ⟨ob, h1, h2.2.1⟩
  · obtain ⟨_, hd, xs, _, dd⟩ := dt_rd I.hok e
    refine ⟨dd.typeIs, fun b q => ?_, hd⟩
    cases q
    obtain ⟨ob, _, _, h1, h2, _⟩ := dd
    exact ⟨ob, h1, h2.2.1⟩

section
variable {X : Cx} {pins : List (Addr × Obj)} {σ : St} {H : Hp} {s : Shared} {a : Addr} {y d : V} {u r : Value} {o : Option V} {A : Around} {E : Value → Shared → Prop}
end

section
variable {X : Cx} {o e f : Expr} {apos cpos : Pos} {td ty tx : TE}
end

/-! ### dict(d): a copy -/
section
variable {X : Cx} {pins : List (Addr × Obj)} {σ : St} {H : Hp} {s : Shared} {a : Addr} {kvs : List (Key × V)} {A : Around} {E : Value → Shared → Prop}
end


section
variable {X : Cx} {pins : List (Addr × Obj)} {σ : St} {H : Hp} {s : Shared} {a : Addr} {y : V} {u : Value} {A : Around} {E : Value → Shared → Prop}
end
end L2

namespace L2
open PySem PySem.Spec PyProof.Rows


section
variable {prog : Program} {w : World} {A : Around} {E : Value → Shared → Prop}


end

section
variable {X : Cx}
end
end L2

namespace L2
open PySem PySem.Spec PyProof.Rows


section
variable {X : Cx} {pins : List (Addr × Obj)} {σ : St} {H : Hp} {s : Shared} {h' : Heap}
/-- several records of ours have turned -/
theorem Inv.turnedL {t' : Nat} {ch : List Addr} (I : Inv X pins σ H s) (k : ∀ b o, b ∉ ch → s.heap.get? b = some o → h'.get? b = some o) (hf : ∀ b ∈ ch, FpOk X pins H b) : Inv X pins σ H { s with heap := h', toks := t' } := by
  have nit : ∀ b u, H b = some u → b ∉ ch := fun b u e z => by
    have q := (hf b z).1
    rw [q] at e; cases e
  refine I.step (g' := s.gens) (d' := s.drawn) (ch := ch) (fun b hb => ⟨(hf b hb).2.2.2.1, (hf b hb).2.1, (hf b hb).2.2.2.2.1, (hf b hb).2.2.2.2.2⟩) (fun b o _ _ hc e _ => k b o hc e) (fun b o _ _ hc e _ => ⟨o.slots, k b o hc e⟩)
    (fun _ _ _ _ n => n) (fun b o hc e => ⟨o, k b o hc e⟩) (fun _ _ e => e) (fun _ _ _ e => e) (fun b ps e => ⟨#[], by rw [e]; simp⟩) (fun m hm => ?_) (fun b u e => ?_) I.bare
  · obtain ⟨o, es, ep, ho, r⟩ := hm
    exact ⟨o, es, ep, k _ o (fun z => (hf _ z).2.1 rfl) ho, r⟩
  · refine (I.hok b u e).stay (fun c v hc q => k c v ?_ q) (fun _ q => q) fun _ _ q => q
    rcases hc with z | z
    · rw [z]; exact nit b u e
    · exact nit c _ z
/-- .. and one new object is laid -/
theorem Inv.turnedNew {t' : Nat} {ch : List Addr} {T : Addr} {ob : HO} (I : Inv X pins σ H s) (k : ∀ b o, b ∉ ch → s.heap.get? b = some o → h'.get? b = some o) (hf : ∀ b ∈ ch, FpOk X pins H b) (hT : s.heap.objs.size ≤ T)
    (new : ObjOk X.prog X.w (upd H T ob) h' T ob) : Inv X pins σ (upd H T ob) { s with heap := h', toks := t' } := by
  have hn : H T = none := I.hok.fresh hT
  have nit : ∀ b u, H b = some u → b ∉ ch := fun b u e z => by
    have q := (hf b z).1
    rw [q] at e; cases e
  refine I.step (g' := s.gens) (d' := s.drawn) (ch := ch) (fun b hb => ⟨(hf b hb).2.2.2.1, (hf b hb).2.1, (hf b hb).2.2.2.2.1, (hf b hb).2.2.2.2.2⟩) (fun b o _ _ hc e _ => k b o hc e) (fun b o _ _ hc e _ => ⟨o.slots, k b o hc e⟩)
    (fun b o _ e n => ?_) (fun b o hc e => ⟨o, k b o hc e⟩) (fun b xs e => ?_) (fun b o u e => ?_) (fun b ps e => ⟨#[], ?_⟩) (fun m hm => ?_) (fun b u e => ?_) I.bare
  · rw [upd_ne (Nat.ne_of_lt (Nat.lt_of_lt_of_le (Heap.lt_size e) hT))]; exact n
  · rw [upd_ne (ne_of_none e hn)]; exact e
  · rw [upd_ne (ne_of_none e hn)]; exact e
  · rw [upd_ne (ne_of_none e hn), e]; simp
  · obtain ⟨o, es, ep, ho, r⟩ := hm
    exact ⟨o, es, ep, k _ o (fun z => (hf _ z).2.1 rfl) ho, r⟩
  · by_cases hb : b = T
    · subst hb
      rw [upd_same] at e
      cases e
      exact new
    · rw [upd_ne hb] at e
      refine (I.hok b u e).stay (fun c v hc q => k c v ?_ q) (fun c q => by rw [upd_ne (ne_of_none q hn)]; exact q) fun c xs q => by rw [upd_ne (ne_of_none q hn)]; exact q
      rcases hc with z | z
      · rw [z]; exact nit b u e
      · exact nit c _ z

/-! ### locking a thing while a statement runs -/
theorem Inv.lock {d : Addr} {u : HO} (I : Inv X pins σ H s) (h : H d = some u) (mu : Mut (some u)) : ∃ od, Inv X pins σ (upd H d (.frz od u)) s := by
  have x := I.hok d u h
  have ex : ∃ od, s.heap.get? d = some od := by
    cases u with
    | lst xs => obtain ⟨_, _, _, _, e⟩ := x; exact ⟨_, e⟩
    | dK kvs => obtain ⟨_, _, _, _, o, _, _, e, _⟩ := x; exact ⟨o, e⟩
    | dT kvs => obtain ⟨_, _, _, _, o, _, _, e, _⟩ := x; exact ⟨o, e⟩
    | set S n => obtain ⟨o, _, _, _, e, _⟩ := x; exact ⟨o, e⟩
    | ins C dx fs => obtain ⟨_, _, _, e, _⟩ := x; exact ⟨_, e⟩
    | ext φ => obtain ⟨_, ⟨_, e⟩, _⟩ := x; exact ⟨_, e⟩
    | _ => exact False.elim mu
  obtain ⟨od, e⟩ := ex
  have new : ObjOk X.prog X.w (upd H d (.frz od u)) s.heap d (.frz od u) := by
    refine ⟨e, x.stay (fun b v _ q => q) (fun b q => ?_) fun b xs q => ?_⟩
    · rw [upd_ne (fun z => by rw [z, h] at q; cases q; exact mu)]; exact q
    · rw [upd_ne (fun z => by rw [z, h] at q; cases q; exact mu)]; exact q
  exact ⟨od, I.write (x := d) (e := d) (t' := s.toks) (h' := s.heap) (by rw [h]; exact mu) (.inl rfl) (fun b v _ q => q) ⟨od, e⟩ new⟩
theorem Inv.nofrz {d : Addr} {u : HO} (I : Inv X pins σ H s) (h : H d = some u) (mu : Mut (some u)) : ∀ o' u', X.H_0 d ≠ some (.frz o' u') := fun o' u' e => by
  have q := I.base.frzs d o' u' e
  rw [h] at q
  cases q
  exact mu
theorem Inv.unlock {d : Addr} {od : Obj} {u : HO} (I : Inv X pins σ H s) (h : H d = some (.frz od u)) (hn : ∀ o' u', X.H_0 d ≠ some (.frz o' u')) : Inv X pins σ (upd H d u) s := by
  have neH : ∀ b o, H b = some o → (∀ o' u', o ≠ .frz o' u') → b ≠ d := fun b o e hne z => by
    rw [z, h] at e
    cases e
    exact hne _ _ rfl
  have neN : ∀ b, H b = none → b ≠ d := fun b e z => by rw [z, h] at e; cases e
  refine ⟨I.ok, I.os, I.bare, ⟨I.base.keep, I.base.slot, fun b o e n hx => ?_, I.base.there, fun b xs e => ?_, fun b o x e => ?_, fun b ps e => ?_⟩, I.loc, I.cell, ?_, fun x c e => ?_, fun p hp => ?_, fun b o e => ?_, I.len⟩
  · rw [upd_ne (neN b (I.base.free b o e n hx))]; exact I.base.free b o e n hx
  · have q := I.base.tups b xs e
    rw [upd_ne (neH b _ q (fun _ _ z => nomatch z))]; exact q
  · have q := I.base.frzs b o x e
    rw [upd_ne (fun z => by rw [z] at e; exact hn _ _ e)]; exact q
  · obtain ⟨m, q⟩ := I.base.tbls b ps e
    exact ⟨m, by rw [upd_ne (neH b _ q (fun _ _ z => nomatch z))]; exact q⟩
  · rw [upd_ne (neN _ I.free)]; exact I.free
  · rw [upd_ne (neN c (I.freeC x c e))]; exact I.freeC x c e
  · obtain ⟨e, n, r⟩ := I.pin p hp
    exact ⟨e, by rw [upd_ne (neN _ n)]; exact n, r⟩
  · by_cases hb : b = d
    · rw [hb, upd_same] at e
      cases e
      rw [hb]
      obtain ⟨_, x⟩ := I.hok d _ h
      exact x.stay (fun c v _ q => q) (fun c q => by rw [upd_ne (neH c _ q (fun _ _ z => nomatch z))]; exact q) fun c xs q => by rw [upd_ne (neH c _ q (fun _ _ z => nomatch z))]; exact q
    · rw [upd_ne hb] at e
      exact (I.hok b o e).stay (fun c v _ q => q) (fun c q => by rw [upd_ne (neH c _ q (fun _ _ z => nomatch z))]; exact q) fun c xs q => by rw [upd_ne (neH c _ q (fun _ _ z => nomatch z))]; exact q
end
/-- the statement runs while the thing at d is locked (read, not written); d and what stands there are the reading's choice -/
def tLock (t : TS) : TS := fun D σ H => ∃ d u, H d = some u ∧ Mut (some u) ∧ ∀ od, t ⟨fun σ' H' => H' d = some (.frz od u) ∧ D.nx σ' (upd H' d u), fun v H' => H' d = some (.frz od u) ∧ D.rt v (upd H' d u), fun σ' H' => H' d = some (.frz od u) ∧ D.bk σ' (upd H' d u), fun σ' H' => H' d = some (.frz od u) ∧ D.ct σ' (upd H' d u)⟩ σ (upd H d (.frz od u))
section
variable {X : Cx}
theorem ps_lock {st : Stmt} {t : TS} (h : PS X st t) : PS X st (tLock t) := by
  intro pins s σ H D I hw
  obtain ⟨d, u, hd, mu, hw⟩ := hw
  obtain ⟨od, I1⟩ := I.lock hd mu
  refine thn (h pins s σ _ _ I1 (hw od)) fun f s1 q => ?_
  cases f with
  | next => obtain ⟨σ', H', I2, e, q⟩ := q; exact ⟨σ', _, I2.unlock e (I.nofrz hd mu), q⟩
  | brk => obtain ⟨σ', H', I2, e, q⟩ := q; exact ⟨σ', _, I2.unlock e (I.nofrz hd mu), q⟩
  | cont => obtain ⟨σ', H', I2, e, q⟩ := q; exact ⟨σ', _, I2.unlock e (I.nofrz hd mu), q⟩
  | ret v => obtain ⟨x, σ', H', I2, r, e, q⟩ := q; exact ⟨x, σ', _, I2.unlock e (I.nofrz hd mu), r, q⟩

/-! ### one iterator just laid -/
theorem pi_one {tg : Expr} {pins : List (Addr × Obj)} {σ : St} {H : Hp} {s : Shared} {R : It → Hp → Prop} {J : It} {tn : Nat → Heap → Prop} {tk : Nat} (I : Inv X pins σ H s) (o : Obj)
    (T : Turn X.prog X.w X.K tg J [s.heap.objs.size] s.heap.objs.size tn) (st : tn 0 (s.heap.push o)) (q : R J H) : PIE X pins σ tg R (.ref s.heap.objs.size) { s with heap := s.heap.push o, toks := tk } := by
  refine ⟨s.heap.objs.size, [s.heap.objs.size], tn, J, H, rfl, I.kept fun b ob e => Heap.get?_push_of_some _ e, T, st, fun b hb => ?_, q⟩
  have e : b = s.heap.objs.size := by simpa using hb
  subst e
  exact I.fpOk (Nat.le_refl _) (I.hok.fresh (Nat.le_refl _))
end

/-! ### range with a step -/
section
variable {X : Cx} {tg : Expr}
end

/-! ### reversed(list) -/
section
variable {X : Cx} {tg : Expr}
end

/-! ### a str -/

/-! ### a dict's keys: any dict's entries -/
section
variable {prog : Program} {w : World} {A : Around} {E : Value → Shared → Prop} {s : Shared}
end

/-! ### a locked dict -/
theorem kv_get {κ : Type} {kvs : List (κ × V)} {vs : List (κ × Value)} (h : KV kvs vs) : ∀ {i : Nat} {k : κ} {v : V}, kvs[i]? = some (k, v) → ∃ u, vs[i]? = some (k, u) ∧ RelV v u := by
  unfold KV at h
  induction h with
  | nil => intro i k v e; simp at e
  | @cons a b l₁ l₂ r t ih =>
    intro i k v e
    cases i with
    | zero =>
      simp only [List.getElem?_cons_zero, Option.some.injEq] at e
      subst e
      refine ⟨b.2, ?_, r.2⟩
      simp only [List.getElem?_cons_zero]
      exact congrArg some (Prod.ext r.1.symm rfl)
    | succ j =>
      simp only [List.getElem?_cons_succ] at e ⊢
      exact ih e
theorem paired_get {α β : Type} {G : α → β → Prop} {l₁ : List α} {l₂ : List β} (h : Paired G l₁ l₂) : ∀ {i : Nat} {a : α}, l₁[i]? = some a → ∃ b, l₂[i]? = some b ∧ G a b := by
  induction h with
  | nil => intro i a e; simp at e
  | @cons a b l₁ l₂ r t ih =>
    intro i a' e
    cases i with
    | zero =>
      simp only [List.getElem?_cons_zero, Option.some.injEq] at e
      subst e
      exact ⟨b, rfl, r⟩
    | succ j =>
      simp only [List.getElem?_cons_succ] at e ⊢
      exact ih e
section
variable {X : Cx} {pins : List (Addr × Obj)} {σ : St} {H : Hp} {s : Shared} {d : Addr} {o : Obj}
theorem Inv.frzK {kvs : List (Key × V)} (I : Inv X pins σ H s) (h : H d = some (.frz o (.dK kvs))) :
    (d == sysModules) = false ∧ s.heap.get? d = some o ∧ o.ExactDict ∧ ∃ (es : Array DictEntry) (ep : Nat) (vs : List (Key × Value)), o.data = .dict es ep ∧ es.size = kvs.length ∧ KV kvs vs ∧ s.heap.DictAt (mixKind X.prog X.w) d vs ep := by
  obtain ⟨hd, z, hs, vs, kv, o', es, ep, ho, hx, hdt, r⟩ := I.hok d _ h
  rw [hd] at ho
  cases ho
  refine ⟨hs, hd, hx, es, ep, vs, hdt, ?_, kv, o, es, hd, hx, hdt, r⟩
  have l1 := r.2.1.length
  have l2 : kvs.length = vs.length := Paired.length kv
  rw [Array.length_toList] at l1
  omega
end

/-- the values -/
def Itd (d : Addr) (o : Obj) (kvs : List (Key × V)) : It :=
  ⟨fun i H => H d = some (.frz o (.dK kvs)) ∧ i < kvs.length, fun i H x H' => H' = H ∧ ∃ k, kvs[i]? = some (k, x), fun i H => H d = some (.frz o (.dK kvs)) ∧ kvs.length ≤ i⟩
theorem dict_ep {o : Obj} {es es' : Array DictEntry} {ep ep' : Nat} (h : o.data = .dict es ep) (h' : o.data = .dict es' ep') : es' = es ∧ ep' = ep := by
  rw [h] at h'
  cases h'
  exact ⟨rfl, rfl⟩
section
variable {P : Program} {w : World} {K : PySem.W.Frag} {tg : Expr} {d : Addr} {o : Obj} {es : Array DictEntry} {ep : Nat}
theorem turn_vals {kvs : List (Key × V)} (it : Addr) (hod : o.data = .dict es ep) : Turn P w K tg (Itd d o kvs) [it] it (fun i h => h.IsValIter it d i kvs.length ep) where
  mem := by simp
  obj := fun i h st b hb => by
    have e : b = it := by simpa using hb
    subst e
    obtain ⟨oi, e, c, dd⟩ := st
    exact ⟨oi, e, fun v z => by rw [dd] at z; cases z⟩
  keep := fun i h h' st k => st.at fun oi e => k it (by simp) oi e
  item := by
    intro X hP hw hK hc i pins s σ H E I hf st hg
    subst hP hw hK
    obtain ⟨hd, hi⟩ := hg
    obtain ⟨f0, f1, f2, f3, f4, f5⟩ := hf it (by simp)
    obtain ⟨hs, hgd, hx, es', ep', vs, hdt, hsz, kv, hm⟩ := I.frzK hd
    obtain ⟨rfl, rfl⟩ := dict_ep hod hdt
    obtain ⟨⟨k, v⟩, hkv⟩ : ∃ p, kvs[i]? = some p := ⟨kvs[i], List.getElem?_eq_getElem hi⟩
    obtain ⟨u, hu, ru⟩ := kv_get kv hkv
    have hl : kvs.length = vs.length := Paired.length kv
    rw [hl] at st
    refine wpAny_pyNext_values_item st hm hu fun h' st' sb => ?_
    have I1 : Inv X pins σ H { s with heap := h' } := I.turned (t' := s.toks) (fun b ob hb e => (sb.2 b hb).trans e) f0 f1 f3 f4 f5
    obtain ⟨oi, e, c, dd⟩ := id st'
    refine ⟨u, rfl, go_of (s := { s with heap := h' }) e c dd (by decide) ⟨v, H, I1, ru, ⟨rfl, k, hkv⟩, ?_, fun b hb => (hf b hb).1⟩⟩
    show h'.IsValIter it d (i + 1) kvs.length _
    rw [hl]
    exact st'
  done := by
    intro X hP hw hK hc i pins s σ H E I hf st hg
    subst hP hw hK
    obtain ⟨hd, hi⟩ := hg
    obtain ⟨f0, f1, f2, f3, f4, f5⟩ := hf it (by simp)
    obtain ⟨hs, hgd, hx, es', ep', vs, hdt, hsz, kv, hm⟩ := I.frzK hd
    obtain ⟨rfl, rfl⟩ := dict_ep hod hdt
    have hl : kvs.length = vs.length := Paired.length kv
    rw [hl] at st
    exact wpAny_pyNext_values_end (I.ok.hd hc) st hm (List.getElem?_eq_none (by omega)) fun h' eb => ⟨rfl, I.turned (t' := s.toks) (fun b ob hb e => eb b ob hb e) f0 f1 f3 f4 f5⟩
  self := fun A i s Q E st h => wpAny_pyIter_valiter st h
end

/-! ### for k in d, d.keys(), d.values(), d.items() -/
def iVals (td : TE) : TI := fun σ H R => td σ H fun x H1 => ∃ d o kvs, x = .ref d ∧ H1 d = some (.frz o (.dK kvs)) ∧ R (Itd d o kvs) H1
section
variable {X : Cx} {tg e : Expr} {td : TE} {apos cpos : Pos}
theorem pi_values (he : PE X e td) (hbase : attributeBase e "values" X.env (eval e X.env) = eval e X.env := by rfl) (hline : (apos.endLine == cpos.line) = true := by rfl) : PI X tg (.Call (.Attribute e "values" apos) [] [] cpos) (iVals td) := by
  intro pins s σ H R I h
  refine wpAny_Call_method (T := "dict") (id := "dict.values") hbase rfl hline F.plainAttrs_dict F.slot_dict_values F.type_dict_values (thn (he pins s σ H _ I h) fun u s1 ⟨x, H1, I1, rx, d, o, kvs, ex, hd, q⟩ => ?_)
  subst ex
  obtain rfl : u = Value.ref d := rx
  obtain ⟨hs, hgd, hx, es, ep, vs, hdt, hsz, kv, hm⟩ := I1.frzK hd
  have hl : kvs.length = vs.length := Paired.length kv
  refine ⟨hm.dictOf.typeIs, hm.dictOf.mapOf.noDict, ?_⟩
  have I2 : Inv X pins σ H1 { s1 with heap := s1.heap.push { cls := .type "dict_values", data := .fields #[.ref d] } } := I1.kept (t' := s1.toks) fun b ob q => Heap.get?_push_of_some _ q
  have fin : wpAny (model X.prog X.w) X.A (pyIter (.ref s1.heap.objs.size)) (PIE X pins σ tg R) X.xe { s1 with heap := s1.heap.push { cls := .type "dict_values", data := .fields #[.ref d] } } := by
    refine wpAny_pyIter_values (d := d) (knd := mixKind X.prog X.w) ⟨_, Heap.get?_push_size _ rfl, rfl, rfl⟩ (hm.push _) (pi_one (tk := s1.toks) I2 _ (turn_vals _ hdt) ⟨_, Heap.get?_push_size _ rfl, rfl, ?_⟩ q)
    rw [hl] <;> rfl
  show wpAny _ _ (callWith cpos (.builtin "dict.values") [.ref d] [] []) _ X.xe s1
  exact method_meetsIn F.slot_dict_values F.entry_dict_values rfl (PySem.evalArgs_none ⟨rfl, hm.dictOf.typeIs, F.args_dict_values_1 _, _, meets_dict_values (mixKind X.prog X.w) d hs, ⟨vs, hm.dictOf⟩, fin⟩)
end

/-! ### enumerate(list) -/
/-- the list at a as it stands at each turn, each item in a new pair -/
def Ite (K : PySem.W.Frag) (a : Addr) : It :=
  ⟨fun i H => ∃ (xs : List V) (x : V), SqL K H a xs ∧ xs[i]? = some x, fun i H v H' => ∃ T x, v = .ref T ∧ H T = none ∧ H' = upd H T (.tup [.int (i : Nat), x]) ∧ ∀ xs, SqL K H a xs → xs[i]? = some x, fun i H => ∃ xs : List V, SqL K H a xs ∧ xs.length ≤ i⟩
theorem turn_enum {P : Program} {w : World} {K : PySem.W.Frag} {elts : List Expr} {kk : Nat} {tpos : Pos} (a e it : Addr) :
    Turn P w K (.Tuple elts kk tpos) (Ite K a) [e, it] e (fun i h => (∃ old, IsEnum h e it ((i : Nat) : Int) old) ∧ h.IsListIter it a i ∧ e ≠ it) where
  mem := by simp
  obj := fun i h st b hb => by
    obtain ⟨⟨old, he⟩, ⟨o, ho, hc, hd⟩, _⟩ := st
    have e' : b = e ∨ b = it := by simpa using hb
    rcases e' with z | z
    · rw [z]; exact ⟨_, he, fun v q => nomatch q⟩
    · rw [z]; exact ⟨o, ho, fun v q => by rw [hd] at q; cases q⟩
  keep := fun i h h' st k => let ⟨⟨old, he⟩, hi, hne⟩ := st; ⟨⟨old, k e (by simp) _ he⟩, hi.at fun o q => k it (by simp) o q, hne⟩
  item := by
    intro X hP hw hK hc i pins s σ H E I hf st hg
    subst hP hw hK
    obtain ⟨⟨old, he⟩, hit, hne⟩ := st
    obtain ⟨xs, x, hq, hx⟩ := hg
    obtain ⟨its, rv, p, hz⟩ := I.list hq
    obtain ⟨u, hu, ru⟩ := rv.get hx
    have hel : e < s.heap.objs.size := Heap.lt_size he
    have hil : it < s.heap.objs.size := by obtain ⟨_, q, _⟩ := hit; exact Heap.lt_size q
    refine wpAny_pyNext_enum_item he hit p.isList (x := u) (by simpa using hu) hne fun h' ho hit' hT hsz hk => ?_
    refine ⟨_, rfl, wpAny_letOwnedTupleGo_enum (s := { s with heap := h', toks := s.toks + 1 }) ho fun h'' he' sb => ?_⟩
    have hT2 : h''.get? s.heap.objs.size = some { cls := .type "tuple", data := .seq #[.int i s.toks, u] } := (sb.2 _ (Nat.ne_of_gt hel)).trans hT
    have new : ObjOk X.prog X.w (upd H s.heap.objs.size (.tup [.int (i : Nat), x])) h'' s.heap.objs.size (.tup [.int (i : Nat), x]) :=
      ⟨by show 2 ≤ sizeLine; decide, [.int i s.toks, u], .cons ⟨_, rfl⟩ (.cons ru .nil), ⟨_, hT2, rfl, _, rfl⟩⟩
    have I1 : Inv X pins σ (upd H s.heap.objs.size (.tup [.int (i : Nat), x])) { s with heap := h'', toks := s.toks + 1 } :=
      I.turnedNew (ch := [e, it]) (fun b ob hb q => (sb.2 b (fun z => hb (by simp [z]))).trans (hk b ob (fun z => hb (by simp [z])) (fun z => hb (by simp [z])) q)) hf (Nat.le_refl _) new
    refine ⟨.ref s.heap.objs.size, _, I1, rfl, ⟨_, x, rfl, I.hok.fresh (Nat.le_refl _), rfl, fun ys hy => by rw [I.list_inj hy hq]; exact hx⟩, ⟨⟨u, ?_⟩, hit'.at fun o q => (sb.2 it (Ne.symm hne)).trans q, hne⟩, fun b hb => ?_⟩
    · have e1 : ((i + 1 : Nat) : Int) = (i : Int) + 1 := by omega
      rw [e1]; exact he'
    · have hb' : b < s.heap.objs.size := by
        have e' : b = e ∨ b = it := by simpa using hb
        rcases e' with z | z
        · rw [z]; exact hel
        · rw [z]; exact hil
      rw [upd_ne (Nat.ne_of_lt hb')]
      exact (hf b hb).1
  done := by
    intro X hP hw hK hc i pins s σ H E I hf st hg
    subst hP hw hK
    obtain ⟨⟨old, he⟩, hit, hne⟩ := st
    obtain ⟨xs, hq, hx⟩ := hg
    obtain ⟨its, rv, p, hz⟩ := I.list hq
    obtain ⟨f0, f1, f2, f3, f4, f5⟩ := hf it (by simp)
    have hl := rv.length
    exact wpAny_pyNext_enum_end (I.ok.hd hc) he hit p.isList (by simp; omega) fun h' eb => ⟨rfl, I.turned (t' := s.toks) (fun b o hb q => eb b o hb q) f0 f1 f3 f4 f5⟩
  self := fun A i s Q E st h => let ⟨⟨_, he⟩, _⟩ := st; wpAny_pyIter_enum he h
def iEnum (K : PySem.W.Frag) (ta : TA) : TI := fun σ H R => ta σ H fun vs H1 => ∃ a xs, vs = [.ref a] ∧ SqL K H1 a xs ∧ R (Ite K a) H1
theorem pi_enum {X : Cx} {e : Expr} {ta : TA} {p pos tpos : Pos} {elts : List Expr} {kk : Nat} (hg : Gl X "enumerate") (hm : X.mg "enumerate" = none) (ha : PA X [e] ta) (hs : starEach [e] X.env = [(false, eval e X.env)] := by rfl) :
    PI X (.Tuple elts kk tpos) (.Call (.Name "enumerate" p) [e] [] pos) (iEnum X.K ta) := by
  intro pins s σ H R I h
  refine Call_ (ld_blt I hg hm boot_enumerate (PyProof.Rows.callWith_type1 (thn (ha pos pins s σ H _ I h) fun us s1 ⟨vs, H1, I1, r1, q1⟩ => ?_) hs rfl))
  obtain ⟨a, xs, ex, hq, q⟩ := q1
  subst ex
  cases r1 with
  | cons r rr =>
    cases rr
    cases r
    obtain ⟨its, rv, p', hz⟩ := I1.list hq
    refine call_enumerate_list p'.isList fun h' he hit hsz hk => wpAny_pyIter_enum he ?_
    have I2 : Inv X pins σ H1 { s1 with heap := h' } := I1.kept (t' := s1.toks) hk
    refine ⟨s1.heap.objs.size + 1, [s1.heap.objs.size + 1, s1.heap.objs.size], _, _, H1, rfl, I2, turn_enum a (s1.heap.objs.size + 1) s1.heap.objs.size, ⟨⟨.none, he⟩, hit, Nat.succ_ne_self _⟩, fun b hb => ?_, q⟩
    have e' : b = s1.heap.objs.size + 1 ∨ b = s1.heap.objs.size := by simpa using hb
    have hle : s1.heap.objs.size ≤ b := by
      rcases e' with z | z
      · rw [z]; exact Nat.le_add_right _ _
      · rw [z]; exact Nat.le_refl _
    exact I1.fpOk hle (I1.hok.fresh hle)
/-! ### zip(list, list) -/
theorem boot_zip5 : bootBuiltins "zip" = some (.type "zip") := by decide +kernel
/-- the lists at a and b as they stand at each turn, the items in new pairs -/
def Itz (K : PySem.W.Frag) (a b : Addr) : It :=
  ⟨fun i H => ∃ (xs ys : List V) (x y : V), SqL K H a xs ∧ SqL K H b ys ∧ xs[i]? = some x ∧ ys[i]? = some y,
    fun i H v H' => ∃ T x y, v = .ref T ∧ H T = none ∧ H' = upd H T (.tup [x, y]) ∧ (∀ xs, SqL K H a xs → xs[i]? = some x) ∧ ∀ ys, SqL K H b ys → ys[i]? = some y,
    fun i H => ∃ xs ys : List V, SqL K H a xs ∧ SqL K H b ys ∧ (xs.length ≤ i ∨ ys.length ≤ i)⟩
theorem turn_zip {P : Program} {w : World} {K : PySem.W.Frag} {elts : List Expr} {kk : Nat} {tpos : Pos} {a b z TI TO i1 i2 : Addr} (D : ZipApart z TI TO i1 i2 a b) :
    Turn P w K (.Tuple elts kk tpos) (Itz K a b) [z, TI, TO, i1, i2] z (fun i h => IsZip h z TI TO .none ∧ IsPair h TI (.ref i1) (.ref i2) ∧ (∃ x y, IsPair h TO x y) ∧ h.IsListIter i1 a i ∧ h.IsListIter i2 b i) where
  mem := by simp
  obj := fun i h st c hc => by
    obtain ⟨hz, hTI, ⟨x, y, hTO⟩, ⟨o1, e1, _, d1⟩, ⟨o2, e2, _, d2⟩⟩ := st
    have e' : c = z ∨ c = TI ∨ c = TO ∨ c = i1 ∨ c = i2 := by simpa using hc
    rcases e' with q | q | q | q | q
    · rw [q]; exact ⟨_, hz, fun v q => nomatch q⟩
    · rw [q]; exact ⟨_, hTI, fun v q => nomatch q⟩
    · rw [q]; exact ⟨_, hTO, fun v q => nomatch q⟩
    · rw [q]; exact ⟨o1, e1, fun v q => by rw [d1] at q; cases q⟩
    · rw [q]; exact ⟨o2, e2, fun v q => by rw [d2] at q; cases q⟩
  keep := fun i h h' st k => by
    obtain ⟨hz, hTI, ⟨x, y, hTO⟩, h1, h2⟩ := st
    exact ⟨k z (by simp) _ hz, k TI (by simp) _ hTI, ⟨x, y, k TO (by simp) _ hTO⟩, h1.at fun o q => k i1 (by simp) o q, h2.at fun o q => k i2 (by simp) o q⟩
  item := by
    intro X hP hw hK hc i pins s σ H E I hf st hg
    subst hP hw hK
    obtain ⟨hz, hTI, ⟨x0, y0, hTO⟩, h1, h2⟩ := st
    obtain ⟨xs, ys, x, y, hqx, hqy, hx, hy⟩ := hg
    obtain ⟨its, rv, p, _⟩ := I.list hqx
    obtain ⟨its2, rv2, p2, _⟩ := I.list hqy
    obtain ⟨u, hu, ru⟩ := rv.get hx
    obtain ⟨u2, hu2, ru2⟩ := rv2.get hy
    have hzl : z < s.heap.objs.size := Heap.lt_size hz
    refine wpAny_pyNext_zip_item D hz hTI hTO h1 h2 p.isList p2.isList (x := u) (y := u2) (by simpa using hu) (by simpa using hu2) fun h' z' TO' h1' h2' hT hsz hk => ?_
    refine ⟨_, rfl, wpAny_letOwnedTupleGo_zip (s := { s with heap := h' }) z' fun h'' z'' sb => ?_⟩
    have hT2 : h''.get? s.heap.objs.size = some { cls := .type "tuple", data := .seq #[u, u2] } := (sb.2 _ (Nat.ne_of_gt hzl)).trans hT
    have new : ObjOk X.prog X.w (upd H s.heap.objs.size (.tup [x, y])) h'' s.heap.objs.size (.tup [x, y]) :=
      ⟨by show 2 ≤ sizeLine; decide, [u, u2], .cons ru (.cons ru2 .nil), ⟨_, hT2, rfl, _, rfl⟩⟩
    have I1 : Inv X pins σ (upd H s.heap.objs.size (.tup [x, y])) { s with heap := h'' } :=
      I.turnedNew (t' := s.toks) (ch := [z, TI, TO, i1, i2]) (fun c o hb q => (sb.2 c (fun q' => hb (by simp [q']))).trans (hk c o (fun q' => hb (by simp [q'])) (fun q' => hb (by simp [q'])) (fun q' => hb (by simp [q'])) (fun q' => hb (by simp [q'])) q)) hf (Nat.le_refl _) new
    refine ⟨.ref s.heap.objs.size, _, I1, rfl, ⟨_, x, y, rfl, I.hok.fresh (Nat.le_refl _), rfl, fun l hl => by rw [I.list_inj hl hqx]; exact hx, fun l hl => by rw [I.list_inj hl hqy]; exact hy⟩, ⟨z'', ?_, ⟨u, u2, ?_⟩, ?_, ?_⟩, fun c hcm => ?_⟩
    · exact (sb.2 _ D.TIz).trans (hk _ _ D.TIz D.TITO D.TIi1 D.TIi2 hTI)
    · exact (sb.2 _ D.TOz).trans TO'
    · exact h1'.at fun o q => (sb.2 _ D.i1z).trans q
    · exact h2'.at fun o q => (sb.2 _ D.i2z).trans q
    · have hlt : c < s.heap.objs.size := by
        have e' : c = z ∨ c = TI ∨ c = TO ∨ c = i1 ∨ c = i2 := by simpa using hcm
        rcases e' with q | q | q | q | q
        · rw [q]; exact hzl
        · rw [q]; exact Heap.lt_size hTI
        · rw [q]; exact Heap.lt_size hTO
        · rw [q]; obtain ⟨_, e1, _⟩ := h1; exact Heap.lt_size e1
        · rw [q]; obtain ⟨_, e2, _⟩ := h2; exact Heap.lt_size e2
      rw [upd_ne (Nat.ne_of_lt hlt)]
      exact (hf c hcm).1
  done := by
    intro X hP hw hK hc i pins s σ H E I hf st hg
    subst hP hw hK
    obtain ⟨hz, hTI, ⟨x0, y0, hTO⟩, h1, h2⟩ := st
    obtain ⟨xs, ys, hqx, hqy, hend⟩ := hg
    obtain ⟨its, rv, p, _⟩ := I.list hqx
    obtain ⟨its2, rv2, p2, _⟩ := I.list hqy
    have l1 := rv.length
    have l2 := rv2.length
    have he : its.toArray[i]? = none ∨ its2.toArray[i]? = none := by
      rcases hend with q | q
      · exact .inl (by simp; omega)
      · exact .inr (by simp; omega)
    exact wpAny_pyNext_zip_end (I.ok.hd hc) D hz hTI hTO h1 h2 p.isList p2.isList he fun h' hk => ⟨rfl, I.turnedL (t' := s.toks) (ch := [z, TI, TO, i1, i2]) (fun c o hb q =>
      hk c o (fun q' => hb (by simp [q'])) (fun q' => hb (by simp [q'])) (fun q' => hb (by simp [q'])) (fun q' => hb (by simp [q'])) q) hf⟩
  self := fun A i s Q E st h => wpAny_pyIter_zip st.1 h
def iZip (K : PySem.W.Frag) (ta : TA) : TI := fun σ H R => ta σ H fun vs H1 => ∃ a b xs ys, vs = [.ref a, .ref b] ∧ SqL K H1 a xs ∧ SqL K H1 b ys ∧ R (Itz K a b) H1
theorem pi_zip {X : Cx} {e e2 : Expr} {ta : TA} {p pos tpos : Pos} {elts : List Expr} {kk : Nat} (hg : Gl X "zip") (hm : X.mg "zip" = none) (ha : PA X [e, e2] ta)
    (hs : starEach [e, e2] X.env = (false, eval e X.env) :: starEach [e2] X.env := by rfl) (hpl : (backTo pos (starEach [e2] X.env)).any (·.1) = false := by rfl) :
    PI X (.Tuple elts kk tpos) (.Call (.Name "zip" p) [e, e2] [] pos) (iZip X.K ta) := by
  intro pins s σ H R I h
  refine Call_ (ld_blt I hg hm boot_zip5 (PyProof.Rows.callWith_type1 (thn (ha pos pins s σ H _ I h) fun us s1 ⟨vs, H1, I1, r1, q1⟩ => ?_) hs hpl))
  obtain ⟨a, b, xs, ys, ex, hqx, hqy, q⟩ := q1
  subst ex
  cases r1 with
  | cons r rr =>
    cases rr with
    | cons r' rr =>
      cases rr
      cases r
      cases r'
      obtain ⟨its, rv, p1, _⟩ := I1.list hqx
      obtain ⟨its2, rv2, p2, _⟩ := I1.list hqy
      have la : a < s1.heap.objs.size := p1.lt
      have lb : b < s1.heap.objs.size := p2.lt
      refine call_zip_2 p1.isList p2.isList fun h' hz hTI hTO h1 h2 hsz hk => wpAny_pyIter_zip hz ?_
      have I2 : Inv X pins σ H1 { s1 with heap := h' } := I1.kept (t' := s1.toks) hk
      refine ⟨s1.heap.objs.size + 4, [s1.heap.objs.size + 4, s1.heap.objs.size + 2, s1.heap.objs.size + 3, s1.heap.objs.size, s1.heap.objs.size + 1], _, _, H1, rfl, I2, turn_zip (PySem.W.ktu_apart s1.heap.objs.size a b la lb), ⟨hz, hTI, ⟨_, _, hTO⟩, h1, h2⟩, fun c hcm => ?_, q⟩
      have e' : c = s1.heap.objs.size + 4 ∨ c = s1.heap.objs.size + 2 ∨ c = s1.heap.objs.size + 3 ∨ c = s1.heap.objs.size ∨ c = s1.heap.objs.size + 1 := by simpa using hcm
      have hle : s1.heap.objs.size ≤ c := by
        rcases e' with z | z | z | z | z
        · rw [z]; exact Nat.le_add_right _ _
        · rw [z]; exact Nat.le_add_right _ _
        · rw [z]; exact Nat.le_add_right _ _
        · rw [z]; exact Nat.le_refl _
        · rw [z]; exact Nat.le_add_right _ _
      exact I1.fpOk hle (I1.hok.fresh hle)
end L2

section 
namespace Bits
open PySem PyProof.Rows








end Bits
end 

section 
namespace TL
open PySem PySem.Builtin PySem.Builtin.Str PySem.StrLaws


/-! ### the list functions -/




/-! ### the model's split and partition are these -/




/-! ### computing spl and par -/


/-! ### digits -/

/-! ### words: x.split() -/
end TL
end 

namespace L2
open PySem PySem.Spec PyProof.Rows




section
variable {X : Cx} {pins : List (Addr × Obj)} {σ : St} {H : Hp} {s : Shared} {Q : VK}
end

section
variable {X : Cx}





/-! ### of a text alone -/

/-! ### of a text and a text -/

end

section
variable {X : Cx} {o e : Expr} {to te : TE}

end
end L2

namespace L2
open PySem PySem.Spec PyProof.Rows

section
variable {X : Cx}
end

/-! ### slices of a text -/


end L2

namespace Att
open PySem PySem.W PySem.Calls PyProof.Rows

/-! ### the script -/



/-! ### the attachment: holds_open's last premise (the goal 'hc' behind k_head) from a wpAny of the law's body -/



/-! ### rules over ANY heap (no ledger) from facts about the written part K: the library's own take a ledger (News) for what they write -/
section
variable {prog : Program} {w : World} {A : Around} {E : Value → Shared → Prop} {s : Shared} {K : Frag}





/-! the whole heap as the ledger: makes every rule that writes through a ledger a rule over any heap -/

end
end Att

namespace L2
open PySem PySem.Spec PyProof.Rows



end L2

namespace L2
open PySem PySem.Spec PyProof.Rows


end L2

/- THE LAST THEOREM (shape; LID, My.* are yours):
   My.Adr: a structure of the addresses that your layer names (classes, functions); My.Txt K t: a structure (Prop) of the equations over K;
   My.txt_mk : {K} {implicit addresses ..} (e1 : nsIn K mainGlobals "law" = some (some (.ref f))) (e2 : K.lookup f = some ⟨oc, od, .func (fnOf "law" "law" params body scope dV kV doc pm an cdv ct), sl⟩) (e3 : codeIn K cdv "law" = true) .. : ∃ t, My.Txt K t

set_option maxRecDepth 100000 in
set_option maxHeartbeats 0 in
theorem PySem.Challenge.cw_LID_holds : PySem.Challenge.rw_LID.Holds := by
  w_on; o_law; k_head; (case hw => w_witness2)
  k_fill
  refine L2.walk_of (l := PySem.Challenge.rw_LID) (n := 63) (k := 40) (x := "script") (CX := fun w => ..) (sp := fun _ => My.sp_law) rfl (by decide) rfl ⟨rfl, by decide, by decide⟩ (fun w h Y => PySem.W.kIn_of Y) ?F ?S ?C
  case F =>
    intro w mg fa h KX G hmg
    have T : ∃ t, My.Txt (L2.KOf KX) t := by
      dsimp only [L2.KOf]                          -- K must stand as «<heap const> w.params» for k_is
      refine' My.txt_mk ?e1 ?e2 ?e3 ..
      (case e1 => PySem.W.k_is)                    -- in the order: a name -> its address -> its object -> its parts
      (case e2 => PySem.W.k_is)
      ..
    obtain ⟨t, T⟩ := T
    have e0 := hmg.symm.trans (PySem.W.mg_of KX G T.law)
    cases e0                                       -- fa is the law's own address
    exact ⟨_, fun s u => .of_eq rfl, fun base kb nb => My.law_fn T kb nb⟩     -- if «.of_eq rfl» comes too early: refine' ⟨_, ?b, fun base kb nb => My.law_fn T kb nb⟩; exact fun s u => .of_eq rfl
  case S => exact fun w H a ns hl hO hS => ..
  case C => exact ..
(the tactic k_is has no namespace: write k_is) -/

/-! SHORT WORDS over the layer: a def of the text, its body, what a loop and a test want. -/
namespace L2
open PySem PySem.Spec PyProof.Rows

/-! ### the text by places -/
/-- the j-th statement of a class's body -/
def inClass (s : Stmt) (j : Nat) : Stmt := match s with
  | .ClassDef _ _ _ body _ _ _ _ _ _ _ => body.getD j (.Pass ⟨0, 0, 0, 0⟩)
  | _ => .Pass ⟨0, 0, 0, 0⟩
def defArgs (s : Stmt) : Arguments := match s with
  | .FunctionDef _ a _ _ _ _ _ _ _ _ => a
  | _ => { posonlyargs := [], args := [], vararg := none, kwonlyargs := [], kw_defaults := [], kwarg := none, defaults := [] }
def defBody (s : Stmt) : List Stmt := match s with
  | .FunctionDef _ _ b _ _ _ _ _ _ _ => b
  | _ => []
def defScope (s : Stmt) : Scope := match s with
  | .FunctionDef _ _ _ _ _ _ sc _ _ _ => sc
  | _ => { kind := .function, names := [], isGenerator := false, isCoroutine := false }

/-! ### no exception leaves a def -/
abbrev CX0 : CXT := fun _ _ _ _ _ _ => False
abbrev E0 : XK := fun _ _ _ => False
theorem pass0 {X : Cx} : Passes CX0 X E0 := fun _ _ _ _ _ _ _ h => h.elim

/-! ### a def (or method) of the text as it stands behind the top -/
structure Fun (K : PySem.W.Frag) (x qual : Str) (st : Stmt) (f : Addr) (fd : FuncData) : Prop where
  ex : ∃ (oc : Value) (od : Option Addr) (kV doc pm : Value) (an : Option Addr) (cdv ct : Value) (osl : Array (Option Value)),
    fd = PySem.W.fnOf x qual (defArgs st) (defBody st) (defScope st) .none kV doc pm an cdv ct ∧ K.lookup f = some ⟨oc, od, .func fd, osl⟩ ∧ PySem.W.codeIn K cdv qual = true
  kp : PySem.W.keepIn K (.ref f) = true
section
variable {P : Program} {w : World} {K : PySem.W.Frag} {mg : Str → Option Value} {base : Heap}
/-- THE RULE for a def: its body as a term of rules, and the reading of that term -/
theorem Fun.ok {x qual : Str} {st : Stmt} {f : Addr} {fd : FuncData} {N ps : List Str} {k : Nat} {sp : Sp} (F : Fun K x qual st f fd) (S : FnScope N ps (defScope st)) (len : ∀ vs H Q E, sp vs H Q E → vs.length = ps.length)
    (hbody : ∀ (cdv : Value) (A : Around) (outer : List Env) (s : Shared) (H : Hp) (vs : List V) (Q : VK) (E : XK), Room k (A.deeper (envOfC qual (defScope st) s.heap.objs.size f cdv)) → sp vs H Q E →
      ∃ t, PSs (cxOf CX0 P w K mg base N qual (defScope st) f cdv A outer s H E).nox (defBody st) t ∧ t { nx := fun _ H' => Q .non H', rt := Q } (start N vs) H) : FnOk P w K mg base CX0 (k + 1) f fd ps sp := by
  obtain ⟨oc, od, kV, doc, pm, an, cdv, ct, osl, rfl, lk, hcd⟩ := F.ex
  refine fn_of lk hcd S len fun A outer s H vs Q E hr hsp => ?_
  obtain ⟨t, h, q⟩ := hbody cdv A outer s H vs Q E hr hsp
  exact ⟨t, h.nox, q⟩
/-- how its arguments bind (no defaults): h is «fun _ _ _ _ _ _ us hl => match us, hl with | [_, _], _ => rfl», one _ a parameter -/
theorem Fun.binds {x qual : Str} {st : Stmt} {f : Addr} {fd : FuncData} {ps : List Str} (F : Fun K x qual st f fd)
    (h : ∀ (kV doc pm : Value) (an : Option Addr) (cdv ct : Value) (us : List Value), us.length = ps.length → bindArgs (PySem.W.fnOf x qual (defArgs st) (defBody st) (defScope st) .none kV doc pm an cdv ct) ⟨us, []⟩ = pure (ps.zip us)) : Binds K fd ps [] := by
  obtain ⟨oc, od, kV, doc, pm, an, cdv, ct, osl, rfl, lk, hcd⟩ := F.ex
  exact .all (h kV doc pm an cdv ct)
theorem fun_mk {x qual : Str} {st : Stmt} {f : Addr} {oc : Value} {od an : Option Addr} {osl : Array (Option Value)} {kV doc pm cdv ct : Value} (l : K.lookup f = some ⟨oc, od, .func (PySem.W.fnOf x qual (defArgs st) (defBody st) (defScope st) .none kV doc pm an cdv ct), osl⟩)
    (c : PySem.W.codeIn K cdv qual = true) (k : PySem.W.keepIn K (.ref f) = true) : Fun K x qual st f (PySem.W.fnOf x qual (defArgs st) (defBody st) (defScope st) .none kV doc pm an cdv ct) := ⟨⟨oc, od, kV, doc, pm, an, cdv, ct, osl, rfl, l, c⟩, k⟩
end
theorem hu_of {A : Around} {k : Nat} (hr : Room k A) : A.units + 1 < cLine := Nat.lt_of_le_of_lt (Nat.add_le_add_left (by decide : 1 ≤ 64) _) hr.units
theorem small1000 {n : Nat} (h : n ≤ 1000) : n < sizeLine := Nat.lt_of_le_of_lt h (by decide)

/-! ### expressions in short: the name that stands in the i-th slot -/
section
variable {X : Cx}
theorem pv (i : Nat) {x : Str} {pos : Pos} (hN : X.N[i]? = some x := by rfl) (hv : Vis X.env.scope x := by first | exact Or.inl rfl | exact Or.inr (Or.inl rfl) | exact Or.inr (Or.inr rfl)) (hd : (x == ("__debug__" : Str)) = false := by decide)
    (hcd : (x == ("__classdict__" : Str)) = false := by decide) : PE X (.Name x pos) (tVar i) := pe_var hN hv hd hcd
end

/-! ### tests -/
theorem iteF {A B : Prop} (h : B) : if false = true then A else B := by
  rw [if_neg Bool.false_ne_true]
  exact h
theorem iteT {A B : Prop} (h : A) : if true = true then A else B := by
  rw [if_pos rfl]
  exact h

/-! ### heaps -/
/-- all that was tracked is as it was -/
def Same (H H' : Hp) : Prop := ∀ b o, H b = some o → H' b = some o
theorem Same.refl (H : Hp) : Same H H := fun _ _ h => h
theorem Same.trans {H H1 H2 : Hp} (a : Same H H1) (b : Same H1 H2) : Same H H2 := fun c o h => b c o (a c o h)
theorem Same.free {H H' : Hp} (e : Same H H') {l : Addr} (h : H' l = Option.none) : H l = Option.none := by
  cases q : H l with
  | none => rfl
  | some o =>
    rw [e l o q] at h
    cases h
theorem Same.seq {K : PySem.W.Frag} {H H' : Hp} {a : Addr} {xs : List V} (e : Same H H') (h : SqL K H a xs) : SqL K H' a xs := by
  rcases h with (h | ⟨o, h⟩) | h
  · exact .inl (.inl (e _ _ h))
  · exact .inl (.inr ⟨o, e _ _ h⟩)
  · exact .inr h

/-! ### a dict's pairs: keys that differ -/
section
variable {κ : Type} [DecidableEq κ]
theorem nd_snoc : ∀ {l : List κ} {k : κ}, l.Nodup → ¬ k ∈ l → (l ++ [k]).Nodup
  | [], k, _, _ => by simp
  | a :: r, k, h, hk => by
    obtain ⟨h1, h2⟩ := List.nodup_cons.mp h
    show (a :: (r ++ [k])).Nodup
    refine List.nodup_cons.mpr ⟨fun m => ?_, nd_snoc h2 fun m => hk (List.mem_cons.mpr (Or.inr m))⟩
    rcases List.mem_append.mp m with q | q
    · exact h1 q
    · exact hk (List.mem_cons.mpr (Or.inl (List.mem_singleton.mp q).symm))
end
/-! ### lists -/
theorem at_of {xs : List V} {z : Int} {j : Nat} {v : V} (e : z = (j : Int)) (h : xs[j]? = some v) : atI xs z = some v := by
  rw [e]
  exact atI_nat h
theorem nd_ix {α : Type} {l : List α} (hN : l.Nodup) {i j : Nat} {x : α} (a : l[i]? = some x) (b : l[j]? = some x) : i = j := by
  obtain ⟨h1, e1⟩ := List.getElem?_eq_some_iff.mp a
  obtain ⟨h2, e2⟩ := List.getElem?_eq_some_iff.mp b
  exact (List.getElem_inj hN).mp (e1.trans e2.symm)
end L2
section
set_option maxHeartbeats 2000000
namespace L2
open PySem PySem.Spec PyProof.Rows
open PySem.W (WData Codec OpenSpec Well WellAll ReadsW ReadsAllW)
/-! ### an answer as data -/
mutual
/-- x stands for the datum d, lists and tuples all the way -/
inductive Dw (K : PySem.W.Frag) (H : Hp) : V → WData → Prop
  | non : Dw K H .non .none
  | bl (b : Bool) : Dw K H (.bl b) (.bool b)
  | int (i : Int) : Dw K H (.int i) (.int i)
  | str (x : Str) : Dw K H (.str x) (.str x)
  | byt (b : Array UInt8) : Dw K H (.byt b) (.bytes b.toList)
  | lst {a : Addr} {xs : List V} {ds : List WData} : SqL K H a xs → DwAll K H xs ds → Dw K H (.ref a) (.list ds)
  | tup {a : Addr} {xs : List V} {ds : List WData} : SqT K H a xs → DwAll K H xs ds → Dw K H (.ref a) (.tuple ds)
inductive DwAll (K : PySem.W.Frag) (H : Hp) : List V → List WData → Prop
  | nil : DwAll K H [] []
  | cons {v : V} {vs : List V} {d : WData} {ds : List WData} : Dw K H v d → DwAll K H vs ds → DwAll K H (v :: vs) (d :: ds)
end
theorem dw_ints {K : PySem.W.Frag} {H : Hp} : ∀ ns : List Int, DwAll K H (ns.map V.int) (ns.map WData.int)
  | [] => .nil
  | n :: r => .cons (.int n) (dw_ints r)
theorem ints_dw {K : PySem.W.Frag} {H : Hp} : ∀ (ns : List Int) (xs : List V), DwAll K H xs (ns.map WData.int) → xs = ns.map V.int
  | [], xs, h => by
    cases h
    rfl
  | n :: r, xs, h => by
    cases h with
    | cons h1 h2 =>
      cases h1
      rw [ints_dw r _ h2] <;> rfl
section
variable {P : Program} {w : World} {K : PySem.W.Frag} {H : Hp} {h : Heap} {R : PySem.W.WRecords} {cl : Str → Option Addr}
theorem sqL_at {a : Addr} {xs : List V} (hok : HOk P w H h) (KX : K.In h) (q : SqL K H a xs) : ∃ (its : List Value) (o : Obj) (n : Nat), Vals xs its ∧ h.get? a = some o ∧ o.cls = .type "list" ∧ o.data = .seq its.toArray n := by
  rcases q with q | ⟨o, its, n, e, hc, _, hd, _, hv⟩
  · obtain ⟨_, its, n, hv, e⟩ := (show ObjOk P w H h a (.lst xs) from q.ok hok)
    exact ⟨its, _, n, hv, e, rfl, rfl⟩
  · exact ⟨its.toList, o, n, hv, KX _ _ e, hc, by simp [hd]⟩
theorem sqT_at {a : Addr} {xs : List V} (hok : HOk P w H h) (KX : K.In h) (q : SqT K H a xs) : ∃ (its : List Value) (o : Obj) (n : Nat), Vals xs its ∧ h.get? a = some o ∧ o.cls = .type "tuple" ∧ o.data = .seq its.toArray n := by
  rcases q with q | ⟨o, its, n, e, hc, hd, _, hv⟩
  · obtain ⟨_, its, hv, o, e, hc, n, hd⟩ := (show ObjOk P w H h a (.tup xs) from q.ok hok)
    exact ⟨its, o, n, hv, e, hc, hd⟩
  · exact ⟨its.toList, o, n, hv, KX _ _ e, hc, by simp [hd]⟩
mutual
theorem Dw.reads (hok : HOk P w H h) (KX : K.In h) : ∀ (d : WData) (v : V) (u : Value), Dw K H v d → RelV v u → ∃ as, ReadsW R cl h u d as
  | .none, _, _, x, r => by
    cases x
    cases r
    exact ⟨_, ReadsW.none⟩
  | .bool b, _, _, x, r => by
    cases x
    cases r
    exact ⟨_, ReadsW.bool b⟩
  | .int i, _, _, x, r => by
    cases x
    obtain ⟨t, rfl⟩ := r
    exact ⟨_, ReadsW.int i t⟩
  | .str s, _, _, x, r => by
    cases x
    obtain ⟨t, rfl⟩ := r
    exact ⟨_, ReadsW.str s t⟩
  | .bytes b, _, _, x, r => by
    cases x
    obtain ⟨t, rfl⟩ := r
    exact ⟨_, ReadsW.bytes _ t⟩
  | .list ds, _, _, x, r => by
    cases x with
    | lst hs ha =>
      cases r
      obtain ⟨its, o, n, rv, ho, hc, hd⟩ := sqL_at hok KX hs
      obtain ⟨as, hr⟩ := Dw.readsAll hok KX ds _ its ha rv
      exact ⟨_, ReadsW.list ho hc hd hr⟩
  | .tuple ds, _, _, x, r => by
    cases x with
    | tup hs ha =>
      cases r
      obtain ⟨its, o, n, rv, ho, hc, hd⟩ := sqT_at hok KX hs
      obtain ⟨as, hr⟩ := Dw.readsAll hok KX ds _ its ha rv
      exact ⟨_, ReadsW.tuple ho hc hd hr⟩
  | .float _, _, _, x, _ => by cases x
  | .dict _, _, _, x, _ => by cases x
  | .bytearray _, _, _, x, _ => by cases x
  | .set _, _, _, x, _ => by cases x
  | .frozenset _, _, _, x, _ => by cases x
  | .obj _ _, _, _, x, _ => by cases x
theorem Dw.readsAll (hok : HOk P w H h) (KX : K.In h) : ∀ (ds : List WData) (vs : List V) (us : List Value), DwAll K H vs ds → Vals vs us → ∃ as, ReadsAllW R cl h us ds as
  | [], _, _, x, r => by
    cases x
    cases r
    exact ⟨_, ReadsAllW.nil⟩
  | d :: ds, _, _, x, r => by
    cases x with
    | cons h1 h2 =>
      cases r with
      | cons r1 r2 =>
        obtain ⟨as, q1⟩ := Dw.reads hok KX d _ _ h1 r1
        obtain ⟨bs, q2⟩ := Dw.readsAll hok KX ds _ _ h2 r2
        exact ⟨_, ReadsAllW.cons q1 q2⟩
end
end
/-! ### the arguments -/
mutual
/-- data that a codec tells -/
def plW : WData → Bool
  | .none => true
  | .bool _ => true
  | .int _ => true
  | .str _ => true
  | .bytes _ => true
  | .list xs => plWs xs
  | .tuple xs => plWs xs
  | _ => false
def plWs : List WData → Bool
  | [] => true
  | x :: r => plW x && plWs r
end
theorem plWs_map {α : Type} {f : α → WData} (h : ∀ a, plW (f a) = true) : ∀ l : List α, plWs (l.map f) = true
  | [] => rfl
  | x :: r => by
    show (plW (f x) && plWs (r.map f)) = true
    rw [h x, plWs_map h r] <;> rfl
theorem pl_enc : ∀ (c : Codec) (a : c.denote), plW (c.enc a) = true
  | .unit, _ => rfl
  | .bool, _ => rfl
  | .int _ _, _ => rfl
  | .nat _ _, _ => rfl
  | .u8, _ => rfl
  | .bytes _ _, _ => rfl
  | .text _ _ _ _, _ => rfl
  | .list _ _ c, a => plWs_map (fun x => pl_enc c x) a
  | .pair c d, a => by
    show (plW (c.enc a.1) && (plW (d.enc a.2) && true)) = true
    rw [pl_enc c a.1, pl_enc d a.2] <;> rfl
  | .triple c d e, a => by
    show (plW (c.enc a.1) && (plW (d.enc a.2.1) && (plW (e.enc a.2.2) && true))) = true
    rw [pl_enc c a.1, pl_enc d a.2.1, pl_enc e a.2.2] <;> rfl
  | .option c, none => rfl
  | .option c, some x => pl_enc c x
theorem pl_encAll : ∀ (cs : List Codec) (a : Codec.denoteAll cs), plWs (Codec.encAll cs a) = true
  | [], _ => rfl
  | c :: cs, a => by
    show (plW (c.enc a.1) && plWs (Codec.encAll cs a.2)) = true
    rw [pl_enc c a.1, pl_encAll cs a.2] <;> rfl
theorem weight_mem : ∀ {xs : List WData} {d : WData}, d ∈ xs → d.weight ≤ WData.weightAll xs
  | [], d, h => absurd h (by simp)
  | x :: r, d, h => by
    show d.weight ≤ x.weight + 1 + WData.weightAll r
    rcases List.mem_cons.mp h with e | m
    · rw [e]
      omega
    · have z := weight_mem m
      omega
def toV : Value → V
  | .none => .non
  | .bool b => .bl b
  | .int i _ => .int i
  | .str x _ => .str x
  | .bytes b _ => .byt b
  | .ref a => .ref a
  | _ => .non
/-- a value of the arguments, its objects among A -/
def OkU (A : List Addr) : Value → Prop
  | .none => True
  | .bool _ => True
  | .int _ _ => True
  | .str _ _ => True
  | .bytes _ _ => True
  | .ref a => a ∈ A
  | _ => False
theorem OkU.mono {A B : List Addr} (h : ∀ a ∈ A, a ∈ B) : ∀ {u : Value}, OkU A u → OkU B u := fun {u} x => by
  cases u with
  | ref a => exact h a x
  | none => trivial
  | bool b => trivial
  | int i t => trivial
  | str s t => trivial
  | bytes b t => trivial
  | _ => exact False.elim x
theorem relV_toV {A : List Addr} {u : Value} (x : OkU A u) : RelV (toV u) u := by
  cases u with
  | ref a => rfl
  | none => rfl
  | bool b => rfl
  | int i t => exact ⟨t, rfl⟩
  | str s t => exact ⟨t, rfl⟩
  | bytes b t => exact ⟨t, rfl⟩
  | _ => exact False.elim x
theorem vals_toV {A : List Addr} : ∀ {vs : List Value}, (∀ u ∈ vs, OkU A u) → Vals (vs.map toV) vs
  | [], _ => .nil
  | u :: r, h => .cons (relV_toV (h u (List.mem_cons_self ..))) (vals_toV fun x hx => h x (List.mem_cons_of_mem _ hx))
/-- an object of the arguments -/
def ArgOb (h : Heap) (A : List Addr) (a : Addr) : Prop := ∃ vs : List Value, vs.length ≤ sizeLine ∧ (∀ u ∈ vs, OkU A u) ∧
  (h.get? a = some { cls := .type "list", data := .seq vs.toArray } ∨ h.get? a = some { cls := .type "tuple", data := .seq vs.toArray })
theorem ArgOb.mono {h : Heap} {A B : List Addr} {a : Addr} (k : ∀ a ∈ A, a ∈ B) (x : ArgOb h A a) : ArgOb h B a := by
  obtain ⟨vs, h1, h2, h3⟩ := x
  exact ⟨vs, h1, fun u hu => (h2 u hu).mono k, h3⟩
theorem wellAll_len {P : Params} {h : Heap} : ∀ {vs : List Value} {ds : List WData}, WellAll P h vs ds → vs.length = ds.length
  | _, _, .nil => rfl
  | _, _, .cons _ b => by
    show _ + 1 = _ + 1
    rw [wellAll_len b]
theorem well_list {P : Params} {h : Heap} {v : Value} {ds : List WData} (x : Well P h v (.list ds)) : ∃ (a : Addr) (vs : List Value), v = .ref a ∧ h.get? a = some { cls := .type "list", data := .seq vs.toArray } ∧ WellAll P h vs ds := by
  cases x with
  | list ho hall => exact ⟨_, _, rfl, ho, hall⟩
theorem well_tuple {P : Params} {h : Heap} {v : Value} {ds : List WData} (x : Well P h v (.tuple ds)) : ∃ (a : Addr) (vs : List Value), v = .ref a ∧ h.get? a = some { cls := .type "tuple", data := .seq vs.toArray } ∧ WellAll P h vs ds := by
  cases x with
  | tuple ho hall => exact ⟨_, _, rfl, ho, hall⟩
theorem well_cons {P : Params} {h : Heap} {us : List Value} {d : WData} {ds : List WData} (x : WellAll P h us (d :: ds)) : ∃ (v : Value) (vs : List Value), us = v :: vs ∧ Well P h v d ∧ WellAll P h vs ds := by
  cases x with
  | cons a b => exact ⟨_, _, rfl, a, b⟩
theorem line_of {n : Nat} (h : n ≤ 1048576) : n ≤ sizeLine := Nat.le_trans h (by decide)
section
variable {P : Params} {h : Heap}
mutual
theorem area_one : ∀ (d : WData) (v : Value), Well P h v d → plW d = true → d.weight ≤ 1048576 → ∃ A : List Addr, OkU A v ∧ ∀ a ∈ A, ArgOb h A a
  | .none, _, x, _, _ => by
    cases x
    exact ⟨[], trivial, fun a m => absurd m (by simp)⟩
  | .bool b, _, x, _, _ => by
    cases x
    exact ⟨[], trivial, fun a m => absurd m (by simp)⟩
  | .int i, _, x, _, _ => by
    cases x
    exact ⟨[], trivial, fun a m => absurd m (by simp)⟩
  | .str s, _, x, _, _ => by
    cases x
    exact ⟨[], trivial, fun a m => absurd m (by simp)⟩
  | .bytes b, _, x, _, _ => by
    cases x
    exact ⟨[], trivial, fun a m => absurd m (by simp)⟩
  | .list ds, _, x, p, z => by
    obtain ⟨a, vs, rfl, ho, hall⟩ := well_list x
    have z2 : WData.weightAll ds ≤ 1048576 := z
    obtain ⟨A, h1, h2⟩ := area_all ds _ hall p fun d hd => Nat.le_trans (weight_mem hd) z2
    have k : ∀ b ∈ A, b ∈ a :: A := fun b hb => List.mem_cons_of_mem _ hb
    refine ⟨a :: A, List.mem_cons_self .., fun b hb => ?_⟩
    rcases List.mem_cons.mp hb with e | m
    · rw [e]
      exact ⟨vs, line_of (by rw [wellAll_len hall]; exact Nat.le_trans (PySem.W.length_le_weightAllW ds) z2), fun u hu => (h1 u hu).mono k, .inl ho⟩
    · exact (h2 b m).mono k
  | .tuple ds, _, x, p, z => by
    obtain ⟨a, vs, rfl, ho, hall⟩ := well_tuple x
    have z2 : WData.weightAll ds ≤ 1048576 := z
    obtain ⟨A, h1, h2⟩ := area_all ds _ hall p fun d hd => Nat.le_trans (weight_mem hd) z2
    have k : ∀ b ∈ A, b ∈ a :: A := fun b hb => List.mem_cons_of_mem _ hb
    refine ⟨a :: A, List.mem_cons_self .., fun b hb => ?_⟩
    rcases List.mem_cons.mp hb with e | m
    · rw [e]
      exact ⟨vs, line_of (by rw [wellAll_len hall]; exact Nat.le_trans (PySem.W.length_le_weightAllW ds) z2), fun u hu => (h1 u hu).mono k, .inr ho⟩
    · exact (h2 b m).mono k
  | .float _, _, _, p, _ => Bool.noConfusion (show false = true from p)
  | .dict _, _, _, p, _ => Bool.noConfusion (show false = true from p)
  | .bytearray _, _, _, p, _ => Bool.noConfusion (show false = true from p)
  | .set _, _, _, p, _ => Bool.noConfusion (show false = true from p)
  | .frozenset _, _, _, p, _ => Bool.noConfusion (show false = true from p)
  | .obj _ _, _, _, p, _ => Bool.noConfusion (show false = true from p)
theorem area_all : ∀ (ds : List WData) (vs : List Value), WellAll P h vs ds → plWs ds = true → (∀ d ∈ ds, d.weight ≤ 1048576) → ∃ A : List Addr, (∀ u ∈ vs, OkU A u) ∧ ∀ a ∈ A, ArgOb h A a
  | [], _, x, _, _ => by
    cases x
    exact ⟨[], fun u m => absurd m (by simp), fun a m => absurd m (by simp)⟩
  | d :: ds, _, x, p, z => by
    obtain ⟨v, vs, rfl, x1, x2⟩ := well_cons x
    have q : plW d = true ∧ plWs ds = true := Bool.and_eq_true_iff.mp p
    obtain ⟨A, a1, a2⟩ := area_one d v x1 q.1 (z d (List.mem_cons_self ..))
    obtain ⟨B, b1, b2⟩ := area_all ds vs x2 q.2 fun e he => z e (List.mem_cons_of_mem _ he)
    have kA : ∀ b ∈ A, b ∈ A ++ B := fun b hb => List.mem_append.mpr (.inl hb)
    have kB : ∀ b ∈ B, b ∈ A ++ B := fun b hb => List.mem_append.mpr (.inr hb)
    refine ⟨A ++ B, fun u hu => ?_, fun b hb => ?_⟩
    · rcases List.mem_cons.mp hu with e | m
      · rw [e]
        exact a1.mono kA
      · exact (b1 u m).mono kB
    · rcases List.mem_append.mp hb with m | m
      · exact (a2 b m).mono kA
      · exact (b2 b m).mono kB
end
end
/-- what is tracked of an argument's object -/
def hoOf (o : Obj) : Option HO := match o.data with
  | .seq vs _ => if (o.cls == Value.type "list") = true then some (.frz o (.lst (vs.toList.map toV))) else some (.frz o (.tup (vs.toList.map toV)))
  | _ => none
def argH (K : PySem.W.Frag) (h : Heap) (A : List Addr) : Hp := fun b => if b ∈ A then (if (K.lookup b).isNone = true then (h.get? b).bind hoOf else none) else none
/-- nothing is tracked but what is known to the object -/
def OnlyF (H : Hp) : Prop := ∀ b, H b = none ∨ ∃ o u, H b = some (.frz o u)
theorem hoOf_lst (vs : List Value) : hoOf { cls := .type "list", data := .seq vs.toArray } = some (.frz { cls := .type "list", data := .seq vs.toArray } (.lst (vs.map toV))) := by
  show (if (Value.type "list" == Value.type "list") = true then some (HO.frz { cls := .type "list", data := .seq vs.toArray } (.lst (vs.toArray.toList.map toV))) else some (HO.frz { cls := .type "list", data := .seq vs.toArray } (.tup (vs.toArray.toList.map toV)))) = _
  rw [if_pos (beq_self_eq_true _)]
theorem hoOf_tup (vs : List Value) : hoOf { cls := .type "tuple", data := .seq vs.toArray } = some (.frz { cls := .type "tuple", data := .seq vs.toArray } (.tup (vs.map toV))) := by
  show (if (Value.type "tuple" == Value.type "list") = true then some (HO.frz { cls := .type "tuple", data := .seq vs.toArray } (.lst (vs.toArray.toList.map toV))) else some (HO.frz { cls := .type "tuple", data := .seq vs.toArray } (.tup (vs.toArray.toList.map toV)))) = _
  rw [if_neg (by decide)]
section
variable {P : Program} {w : World} {K : PySem.W.Frag} {h : Heap} {A : List Addr}
theorem argH_at {b : Addr} {o : Obj} (hb : b ∈ A) (hk : K.lookup b = none) (e : h.get? b = some o) : argH K h A b = hoOf o := by
  unfold argH
  rw [if_pos hb, hk, if_pos (show (none : Option Obj).isNone = true from rfl), e] <;> rfl
theorem of_argH {b : Addr} {u : HO} (q : argH K h A b = some u) : b ∈ A ∧ K.lookup b = none := by
  unfold argH at q
  by_cases hb : b ∈ A
  · rw [if_pos hb] at q
    cases hk : K.lookup b with
    | none => exact ⟨hb, rfl⟩
    | some o =>
      rw [hk, if_neg (by simp)] at q
      cases q
  · rw [if_neg hb] at q
    cases q
/-- what stands tracked -/
theorem argH_is (ar : ∀ a ∈ A, ArgOb h A a) {b : Addr} {u : HO} (q : argH K h A b = some u) : K.lookup b = none ∧ ∃ vs : List Value, vs.length ≤ sizeLine ∧ (∀ u ∈ vs, OkU A u) ∧
    ((h.get? b = some { cls := .type "list", data := .seq vs.toArray } ∧ u = .frz { cls := .type "list", data := .seq vs.toArray } (.lst (vs.map toV))) ∨
     (h.get? b = some { cls := .type "tuple", data := .seq vs.toArray } ∧ u = .frz { cls := .type "tuple", data := .seq vs.toArray } (.tup (vs.map toV)))) := by
  obtain ⟨hb, hk⟩ := of_argH q
  obtain ⟨vs, h1, h2, h3⟩ := ar b hb
  refine ⟨hk, vs, h1, h2, ?_⟩
  rcases h3 with e | e
  · rw [argH_at hb hk e, hoOf_lst] at q
    exact .inl ⟨e, (Option.some.inj q).symm⟩
  · rw [argH_at hb hk e, hoOf_tup] at q
    exact .inr ⟨e, (Option.some.inj q).symm⟩
theorem argH_only (ar : ∀ a ∈ A, ArgOb h A a) : OnlyF (argH K h A) := fun b => by
  cases q : argH K h A b with
  | none => exact .inl rfl
  | some u =>
    obtain ⟨_, vs, _, _, ⟨_, e⟩ | ⟨_, e⟩⟩ := argH_is ar q
    · exact .inr ⟨_, _, by rw [e]⟩
    · exact .inr ⟨_, _, by rw [e]⟩
theorem argH_ok (ar : ∀ a ∈ A, ArgOb h A a) : HOk P w (argH K h A) h := fun b u q => by
  obtain ⟨_, vs, h1, h2, ⟨e, rfl⟩ | ⟨e, rfl⟩⟩ := argH_is ar q
  · exact ⟨e, by rw [List.length_map]; exact h1, vs, _, vals_toV h2, e⟩
  · exact ⟨e, by rw [List.length_map]; exact h1, vs, vals_toV h2, _, e, rfl, _, rfl⟩
theorem seq_inj {c c' : Value} {vs us : List Value} (e : (some { cls := c, data := .seq vs.toArray } : Option Obj) = some { cls := c', data := .seq us.toArray }) : c = c' ∧ vs = us := by
  have e1 := Option.some.inj e
  have e2 : c = c' := congrArg Obj.cls e1
  have e3 : Data.seq vs.toArray = Data.seq us.toArray := congrArg Obj.data e1
  injection e3 with e4
  refine ⟨e2, ?_⟩
  have e5 := congrArg Array.toList e4
  simpa using e5
/-- a list argument -/
theorem argL (KX : K.In h) (ar : ∀ a ∈ A, ArgOb h A a) {a : Addr} {vs : List Value} (ha : a ∈ A) (e : h.get? a = some { cls := .type "list", data := .seq vs.toArray }) : (∀ u ∈ vs, OkU A u) ∧ SqL K (argH K h A) a (vs.map toV) := by
  obtain ⟨us, h1, h2, h3⟩ := ar a ha
  have hu : us = vs := by
    rcases h3 with q | q
    · rw [e] at q
      exact (seq_inj q).2.symm
    · rw [e] at q
      exact absurd (Value.type.inj (seq_inj q).1) (by decide)
  subst hu
  refine ⟨h2, ?_⟩
  cases hk : K.lookup a with
  | none => exact .inl (.inr ⟨_, by rw [argH_at ha hk e, hoOf_lst]⟩)
  | some o =>
    have e2 := KX a o hk
    rw [e] at e2
    obtain rfl := Option.some.inj e2
    exact .inr ⟨_, us.toArray, _, hk, rfl, rfl, rfl, by rw [List.size_toArray]; exact h1, by simpa using vals_toV h2⟩
theorem argT (KX : K.In h) (ar : ∀ a ∈ A, ArgOb h A a) {a : Addr} {vs : List Value} (ha : a ∈ A) (e : h.get? a = some { cls := .type "tuple", data := .seq vs.toArray }) : (∀ u ∈ vs, OkU A u) ∧ SqT K (argH K h A) a (vs.map toV) := by
  obtain ⟨us, h1, h2, h3⟩ := ar a ha
  have hu : us = vs := by
    rcases h3 with q | q
    · rw [e] at q
      exact absurd (Value.type.inj (seq_inj q).1) (by decide)
    · rw [e] at q
      exact (seq_inj q).2.symm
  subst hu
  refine ⟨h2, ?_⟩
  cases hk : K.lookup a with
  | none => exact .inl (.inr ⟨_, by rw [argH_at ha hk e, hoOf_tup]⟩)
  | some o =>
    have e2 := KX a o hk
    rw [e] at e2
    obtain rfl := Option.some.inj e2
    exact .inr ⟨_, us.toArray, _, hk, rfl, rfl, by rw [List.size_toArray]; exact h1, by simpa using vals_toV h2⟩
mutual
theorem dw_one {Pm : Params} (KX : K.In h) (ar : ∀ a ∈ A, ArgOb h A a) : ∀ (d : WData) (v : Value), Well Pm h v d → plW d = true → OkU A v → Dw K (argH K h A) (toV v) d
  | .none, _, x, _, _ => by
    cases x
    exact .non
  | .bool b, _, x, _, _ => by
    cases x
    exact .bl b
  | .int i, _, x, _, _ => by
    cases x
    exact .int i
  | .str s, _, x, _, _ => by
    cases x
    exact .str s
  | .bytes b, _, x, _, _ => by
    cases x
    have z := Dw.byt (K := K) (H := argH K h A) b.toArray
    exact z
  | .list ds, _, x, p, hu => by
    obtain ⟨a, vs, rfl, ho, hall⟩ := well_list x
    obtain ⟨h2, hs⟩ := argL KX ar hu ho
    exact .lst hs (dw_all KX ar ds _ hall p h2)
  | .tuple ds, _, x, p, hu => by
    obtain ⟨a, vs, rfl, ho, hall⟩ := well_tuple x
    obtain ⟨h2, hs⟩ := argT KX ar hu ho
    exact .tup hs (dw_all KX ar ds _ hall p h2)
  | .float _, _, _, p, _ => Bool.noConfusion (show false = true from p)
  | .dict _, _, _, p, _ => Bool.noConfusion (show false = true from p)
  | .bytearray _, _, _, p, _ => Bool.noConfusion (show false = true from p)
  | .set _, _, _, p, _ => Bool.noConfusion (show false = true from p)
  | .frozenset _, _, _, p, _ => Bool.noConfusion (show false = true from p)
  | .obj _ _, _, _, p, _ => Bool.noConfusion (show false = true from p)
theorem dw_all {Pm : Params} (KX : K.In h) (ar : ∀ a ∈ A, ArgOb h A a) : ∀ (ds : List WData) (vs : List Value), WellAll Pm h vs ds → plWs ds = true → (∀ u ∈ vs, OkU A u) → DwAll K (argH K h A) (vs.map toV) ds
  | [], _, x, _, _ => by
    cases x
    exact .nil
  | d :: ds, _, x, p, hu => by
    obtain ⟨v, vs, rfl, x1, x2⟩ := well_cons x
    have q : plW d = true ∧ plWs ds = true := Bool.and_eq_true_iff.mp p
    exact .cons (dw_one KX ar d v x1 q.1 (hu _ (List.mem_cons_self ..))) (dw_all KX ar ds vs x2 q.2 fun u m => hu u (List.mem_cons_of_mem _ m))
end
end
/-! ### the call -/
theorem spec_call {P : Program} {w : World} {K : PySem.W.Frag} {mg mb : Str → Option Value} {CX : CXT} {k : Nat} {fa : Addr} {fd : FuncData} {ps : List Str} {sp : Sp} {s₁ : Shared} {vals : List Value} {ds : List WData} {R : PySem.W.WRecords} {cl : Str → Option Addr} {d0 : WData}
    (KX : K.In s₁.heap) (hns : s₁.heap.Ns mainGlobals mg) (hb : s₁.heap.Ns builtinsNs mb) (hbb : ∀ x : Str, x ≠ "__name__" → mb x = bootBuiltins x) (hlim : s₁.heap.NoLimit) (hg : s₁.gens = #[])
    (hwl : WellAll w.params s₁.heap vals ds) (hpl : plWs ds = true) (hwt : ∀ d ∈ ds, d.weight ≤ 1048576) (hr : Room k callerA)
    (F : ∀ base : Heap, K.In base → base.Ns mainGlobals mg → FnOk P w K mg base CX k fa fd ps sp) (hbind : ∀ (s : Shared) (us : List Value), us.length = ps.length → BindsTo s fd ⟨us, []⟩ (ps.zip us)) (hlen : ds.length = ps.length)
    (hsp : ∀ (H : Hp) (xs : List V), OnlyF H → DwAll K H xs ds → sp xs H (fun v H' => Dw K H' v d0) fun _ _ _ => False)
    (hCX : ∀ H e s', CX [] H s₁ (fun _ _ _ => False) e s' → False) :
    codeAny (model P w) callerA (.call (.ref fa) ⟨vals, []⟩) (fun r s' => ∃ u as, r = .ok (.ret u) ∧ ReadsW R cl s'.heap u d0 as ∧ OldK s₁.heap s'.heap ∧ s'.os = s₁.os ∧ AllBare s'.gens) s₁ := by
  obtain ⟨A, ho, ar⟩ := area_all ds vals hwl hpl hwt
  have hO : OnlyF (argH K s₁.heap A) := argH_only ar
  have hok : HOk P w (argH K s₁.heap A) s₁.heap := argH_ok ar
  have hS := dw_all KX ar ds vals hwl hpl ho
  have hV := vals_toV ho
  have hK : ∀ b u, argH K s₁.heap A b = some u → K.lookup b = none := fun b u q => (argH_is ar q).1
  have noA : ∀ {b : Addr} {o : Obj} {es : Array DictEntry} {ep : Nat}, s₁.heap.get? b = some o → o.data = .dict es ep → argH K s₁.heap A b = none := fun {b o es ep} e d => by
    cases q : argH K s₁.heap A b with
    | none => rfl
    | some u =>
      obtain ⟨_, vs, _, _, ⟨e2, _⟩ | ⟨e2, _⟩⟩ := argH_is ar q
      · rw [e2] at e
        cases e
        have d' : Data.seq vs.toArray _ = Data.dict es ep := d
        cases d'
      · rw [e2] at e
        cases e
        have d' : Data.seq vs.toArray _ = Data.dict es ep := d
        cases d'
  generalize argH K s₁.heap A = H at hO hok hS hK noA
  have base_of : ∀ {b : Addr} {o : Obj}, s₁.heap.get? b = some o → H b = none → (hidT s₁.heap H).get? b = some o := fun e n => hidT_get e n
  have nsK : ∀ {b : Addr} {m : Str → Option Value}, s₁.heap.Ns b m → (hidT s₁.heap H).Ns b m := fun {b m} ⟨o, es, ep, e, d, r⟩ => ⟨o, es, ep, base_of e (noA e d), d, r⟩
  have nK : ∀ b o, K.lookup b = some o → H b = none := fun b o e => by
    cases q : H b with
    | none => rfl
    | some u =>
      rw [hK b u q] at e
      cases e
  have hKb : K.In (hidT s₁.heap H) := fun b o e => base_of (KX b o e) (nK b o e)
  have hM : Mod K mg (hidT s₁.heap H) := ⟨hKb, nsK hns, ⟨mb, nsK hb, hbb⟩, let ⟨mc, h1, h2⟩ := hlim; ⟨mc, nsK h1, h2⟩⟩
  have e0 : Env0 P w K mg (hidT s₁.heap H) callerA [] s₁ H := ⟨rfl, hM, fun b o e => of_hidT e, Nat.le_of_eq (hidT_size _ _), trivial, fun b hb => absurd (show b ∈ ([] : List Addr) from hb) (by simp), hok, .of_eq hg⟩
  have hl : vals.length = ps.length := by rw [wellAll_len hwl]; exact hlen
  refine codeAny_mono ((F _ hKb (nsK hns)).run callerA [] s₁ H ⟨vals, []⟩ vals (vals.map toV) _ _ hr e0 (hbind s₁ vals hl) hV (hsp H _ hO hS)) fun r s' x => ?_
  cases r with
  | error e => exact (hCX H e s' x).elim
  | ok fl =>
    cases fl with
    | next => exact False.elim x
    | brk => exact False.elim x
    | cont => exact False.elim x
    | ret u =>
      obtain ⟨v, H', os, bare, un, hok', r', q⟩ := x
      have kept : ∀ b o, s₁.heap.get? b = some o → s'.heap.get? b = some o := fun b o e => by
        cases q2 : H b with
        | none => exact un.keep b o e q2 (by intro z; exact absurd (show b ∈ ([] : List Addr) from z) (by simp)) (by simp)
        | some u2 =>
          rcases hO b with z | ⟨ob, u3, z⟩
          · rw [q2] at z
            cases z
          · have z2 := un.frzs b ob _ z
            obtain ⟨e1, _⟩ := hok b _ z
            obtain ⟨e2, _⟩ := hok' b _ z2
            rw [e] at e1
            cases e1
            exact e2
      have KX' : K.In s'.heap := fun b o e => kept b o (KX b o e)
      obtain ⟨as, hrd⟩ := Dw.reads (R := R) (cl := cl) hok' KX' d0 v u q r'
      exact ⟨u, as, rfl, hrd, OldK.of_keep kept, os, bare⟩
/-! ### the row -/
theorem layable_weight {ds : List WData} (h : WData.layableAll ds = true) : ∀ d ∈ ds, d.weight ≤ 1048576 := fun d hd =>
  (PySem.W.layableW_iff.mp (List.all_eq_true.mp h d hd)).2.2
theorem encAll_len : ∀ (cs : List Codec) (a : Codec.denoteAll cs), (Codec.encAll cs a).length = cs.length
  | [], _ => rfl
  | c :: cs, a => by
    show (Codec.encAll cs a.2).length + 1 = cs.length + 1
    rw [encAll_len cs a.2]
/-- the goal that k_headS leaves (case hc), from the promise of the row's def: whatever the arguments that the codecs let and the row asks for, the def gives what stands for enc (f ..) -/
theorem walk_spec {r : OpenSpec} {k : Nat} {q : Program} {loose : List Str} {XP : (Str → Option Value) → Heap → Prop} {YP : World → Heap → Prop} {d : DefRec} {K : Params → PySem.W.Frag} {CX : World → CXT} {ps : List Str} {sp : World → Sp}
    (hwell : r.wellSaid = true) (hdf : d.params.defaults = []) (hlen : r.args.length = ps.length) (hr : Room k callerA)
    (hY : ∀ (w : World) (h : Heap), YP w h → (K w.params).In h)
    (F : ∀ (w : World) (mg : Str → Option Value) (fa : Addr) (h : Heap), YP w h → (K w.params).In h → h.Ns mainGlobals mg → mg d.name = some (.ref fa) →
      ∃ fd : FuncData, (∀ (s : Shared) (us : List Value), us.length = ps.length → BindsTo s fd ⟨us, []⟩ (ps.zip us)) ∧
        ∀ base : Heap, (K w.params).In base → base.Ns mainGlobals mg → FnOk r.prog w (K w.params) mg base (CX w) k fa fd ps (sp w))
    (hsp : ∀ (w : World) (H : Hp) (xs : List V) (a : Codec.denoteAll r.args), OnlyF H → Codec.withinAll r.args a = true → Codec.app r.args r.asked a = true → DwAll (K w.params) H xs (Codec.encAll r.args a) →
      sp w xs H (fun v H' => Dw (K w.params) H' v (r.ret.enc (Codec.app r.args r.f a))) fun _ _ _ => False)
    (hCX : ∀ (w : World) (H : Hp) (s : Shared) (e : Value) (s' : Shared), CX w [] H s (fun _ _ _ => False) e s' → False) :
    PySem.W.WalkOS q loose XP YP r d [] (fun f vs => PySem.call f vs) := by
  intro w s_0 s₁ mg mb G Y fa o pm cd doc dV kV ho hd hcd hD hmg hg args vals as hpre hlay hrd hwl hlo
  obtain ⟨a, e1, e2⟩ := PySem.W.os_pre_some hpre
  obtain ⟨e3, hwi⟩ := Codec.encAll_of_decAll r.args args a e1
  subst e3
  have KX := hY w _ Y
  obtain ⟨fd, hb, hF⟩ := F w mg fa _ Y KX G.T.g hmg
  refine PySem.W.enter_call (codeAny_mono (spec_call (R := []) (cl := classAt s_0.heap) (d0 := r.ret.enc (Codec.app r.args r.f a)) KX G.T.g G.T.b G.T.builtins G.T.nolimit hg hwl (pl_encAll _ _) (layable_weight hlay) hr hF hb (by rw [encAll_len]; exact hlen)
    (fun H xs hO hS => hsp w H xs a hO hwi e2 hS) fun H e s' => hCX w H s₁ e s') fun r' s' hq => ?_)
  obtain ⟨u, as', rfl, h1, h2, h3, h4⟩ := hq
  exact ⟨.inl ⟨u, _, as', rfl, fun _ => rfl, h1, (OpenSpec.post_iff hwell hwi _ _).mpr rfl, fun z => Bool.noConfusion (show false = true from z)⟩, h2, h3, h4⟩
/-- the same where the promise hangs on the written part alone -/
theorem walk_specK {r : OpenSpec} {k : Nat} {q : Program} {loose : List Str} {XP : (Str → Option Value) → Heap → Prop} {YP : World → Heap → Prop} {d : DefRec} {K : Params → PySem.W.Frag} {CX : CXT} {ps : List Str} {sp : PySem.W.Frag → Sp}
    (hwell : r.wellSaid = true) (hdf : d.params.defaults = []) (hlen : r.args.length = ps.length) (hr : Room k callerA)
    (hY : ∀ (w : World) (h : Heap), YP w h → (K w.params).In h)
    (F : ∀ (w : World) (mg : Str → Option Value) (fa : Addr) (h : Heap), YP w h → (K w.params).In h → h.Ns mainGlobals mg → mg d.name = some (.ref fa) →
      ∃ fd : FuncData, (∀ (s : Shared) (us : List Value), us.length = ps.length → BindsTo s fd ⟨us, []⟩ (ps.zip us)) ∧
        ∀ base : Heap, (K w.params).In base → base.Ns mainGlobals mg → FnOk r.prog w (K w.params) mg base CX k fa fd ps (sp (K w.params)))
    (hsp : ∀ (K : PySem.W.Frag) (H : Hp) (xs : List V) (a : Codec.denoteAll r.args), OnlyF H → Codec.withinAll r.args a = true → Codec.app r.args r.asked a = true → DwAll K H xs (Codec.encAll r.args a) →
      sp K xs H (fun v H' => Dw K H' v (r.ret.enc (Codec.app r.args r.f a))) fun _ _ _ => False)
    (hCX : ∀ (H : Hp) (s : Shared) (e : Value) (s' : Shared), CX [] H s (fun _ _ _ => False) e s' → False) :
    PySem.W.WalkOS q loose XP YP r d [] (fun f vs => PySem.call f vs) :=
  walk_spec (K := K) (CX := fun _ => CX) (sp := fun w => sp (K w.params)) hwell hdf hlen hr hY F (fun w H xs a h1 h2 h3 h4 => hsp (K w.params) H xs a h1 h2 h3 h4) fun _ H s e s' => hCX H s e s'
end L2
-- rests on (row put in by the clerk, for the bench that shows a file only what it spells): KE.SpHead KE.OsShapes
end
namespace XM
open Sw70
/-! ### fractions -/
structure Str4 where
  tick : Int
  len : Int
  rise : Int
  over : Int
  passed : Int
def rise (m n : Mark) : Int := if m.slope = true then (n.quarter : Int) - m.quarter else 0
def strs4 : Int → List Mark → List Str4
  | _, [] => []
  | p, [m] => [⟨m.tick, m.quarter, 0, 1, p⟩]
  | p, m :: n :: l => ⟨m.tick, m.quarter, rise m n, (n.tick : Int) - m.tick, p⟩ :: strs4 (p + (2 * (m.quarter : Int) + rise m n) * ((n.tick : Int) - m.tick)) (n :: l)
def val (s : Str4) (x : Rat) : Rat := (s.passed : Rat) / 2 + (s.len : Rat) * (x - s.tick) + (s.rise : Rat) * (x - s.tick) * (x - s.tick) / (2 * (s.over : Rat))
def pick (x : Rat) (f : Str4) : List Str4 → Str4
  | [] => f
  | s :: r => pick x (if (s.tick : Rat) ≤ x then s else f) r
theorem strs_tick : ∀ (l : List Mark) (p : Int) (s : Str4), s ∈ strs4 p l → ∃ m ∈ l, s.tick = (m.tick : Int)
  | [], _, s, h => by simp [strs4] at h
  | [m], p, s, h => by
    simp [strs4] at h
    exact ⟨m, by simp, by rw [h]⟩
  | m :: n :: l, p, s, h => by
    rw [strs4, List.mem_cons] at h
    rcases h with h | h
    · exact ⟨m, by simp, by rw [h]⟩
    · obtain ⟨m', h1, h2⟩ := strs_tick (n :: l) _ s h
      exact ⟨m', List.mem_cons_of_mem _ h1, h2⟩
theorem pick_none (x : Rat) : ∀ (r : List Str4) (f : Str4), (∀ s ∈ r, x < (s.tick : Rat)) → pick x f r = f
  | [], _, _ => rfl
  | s :: r, f, h => by
    rw [pick, if_neg (Rat.not_le.mpr (h s (by simp)))]
    exact pick_none x r f fun t ht => h t (by simp [ht])
theorem pick_yes {x : Rat} {f s : Str4} {r : List Str4} (h : (s.tick : Rat) ≤ x) : pick x f (s :: r) = pick x s r := by
  rw [pick, if_pos h]
abbrev Inc (l : List Mark) : Prop := l.Pairwise fun a b => a.tick < b.tick
theorem rat_cast (n : Nat) : rat n = (n : Rat) := rfl
theorem rat_int (n : Nat) : rat n = ((n : Int) : Rat) := rfl
theorem rat_lt {a b : Nat} (h : a < b) : rat a < rat b := Rat.natCast_lt_natCast.mpr h
theorem rat_le {a b : Nat} (h : a ≤ b) : rat a ≤ rat b := Rat.natCast_le_natCast.mpr h
theorem rat_nn (a : Nat) : 0 ≤ rat a := Rat.natCast_nonneg
theorem rat_pos {a : Nat} (h : 0 < a) : 0 < rat a := Rat.natCast_pos.mpr h
theorem lasts_at : ∀ (n : Mark) (l : List Mark), Inc (n :: l) → lasts (n :: l) (rat n.tick) = 0
  | n, [], _ => by
    rw [lasts]
    grind
  | n, k :: l, h => by
    have h1 := (List.pairwise_cons.mp h).1 k (by simp)
    rw [lasts, if_pos (rat_le (Nat.le_of_lt h1)), part]
    grind
theorem val_pick : ∀ (l : List Mark) (m : Mark) (p : Int) (x : Rat) (f : Str4), Inc (m :: l) → rat m.tick ≤ x → val (pick x f (strs4 p (m :: l))) x = (p : Rat) / 2 + lasts (m :: l) x
  | [], m, p, x, f, _, hx => by
    rw [strs4, pick_yes (show (((m.tick : Int)) : Rat) ≤ x from hx), pick, val, lasts, rat_int, rat_int]
    grind
  | n :: l, m, p, x, f, h, hx => by
    have hmn := (List.pairwise_cons.mp h).1 n (by simp)
    have h2 := (List.pairwise_cons.mp h).2
    have hD : (0 : Rat) < rat n.tick - rat m.tick := by
      have := rat_lt hmn
      grind
    rw [strs4, pick_yes (show (((m.tick : Int)) : Rat) ≤ x from hx)]
    by_cases hn : rat n.tick ≤ x
    · rw [val_pick l n _ x _ h2 hn, lasts]
      have e : part m n (rat n.tick) = ((2 * (m.quarter : Int) + rise m n : Int) : Rat) * (((n.tick : Int) - m.tick : Int) : Rat) / 2 := by
        rw [part, rise]
        simp only [rat_int] at hD ⊢
        by_cases hs : m.slope = true
        · rw [if_pos hs, if_pos hs]
          simp only [Rat.intCast_add, Rat.intCast_sub, Rat.intCast_mul]
          grind
        · rw [if_neg hs, if_neg hs]
          simp only [Rat.intCast_add, Rat.intCast_sub, Rat.intCast_mul]
          grind
      have e2 : ((p + (2 * (m.quarter : Int) + rise m n) * ((n.tick : Int) - m.tick) : Int) : Rat) / 2 = (p : Rat) / 2 + part m n (rat n.tick) := by
        rw [e]
        simp only [Rat.intCast_add, Rat.intCast_mul]
        grind
      rw [e2]
      by_cases hx2 : x ≤ rat n.tick
      · have ex : x = rat n.tick := Rat.le_antisymm hx2 hn
        rw [if_pos hx2, ex, lasts_at n l h2]
        grind
      · rw [if_neg hx2]
        grind
    · have hn' := Rat.not_le.mp hn
      rw [pick_none, lasts, if_pos (Rat.le_of_lt hn'), val, part, rise]
      · simp only [rat_int] at hD ⊢
        by_cases hs : m.slope = true
        · rw [if_pos hs, if_pos hs]
          simp only [Rat.intCast_sub]
          grind
        · rw [if_neg hs, if_neg hs]
          grind
      · intro s hs
        obtain ⟨k, hk, e⟩ := strs_tick _ _ s hs
        rw [e]
        rcases List.mem_cons.mp hk with rfl | hk
        · exact hn'
        · have := rat_lt ((List.pairwise_cons.mp h2).1 k hk)
          rw [rat_int, rat_int] at this
          rw [rat_int] at hn'
          grind
end XM
namespace XM
open Sw70
/-! ### later places are later -/
theorem part_mono {m n : Mark} {x y : Rat} (hm : 1 ≤ m.quarter) (hn : 1 ≤ n.quarter) (h0 : rat m.tick ≤ x) (hxy : x < y) (hy : y ≤ rat n.tick) : part m n x < part m n y := by
  have hp : (0 : Rat) < rat m.quarter := rat_pos hm
  have hq : (0 : Rat) < rat n.quarter := rat_pos hn
  rw [part, part]
  by_cases hs : m.slope = true
  · rw [if_pos hs, if_pos hs]
    generalize rat m.quarter = p at *
    generalize rat n.quarter = q at *
    generalize rat m.tick = a at *
    generalize rat n.tick = b at *
    have hD : (0 : Rat) < b - a := by grind
    have e : (p * (y - a) + (q - p) * (y - a) * (y - a) / (2 * (b - a))) - (p * (x - a) + (q - p) * (x - a) * (x - a) / (2 * (b - a))) = (y - x) * (p * ((b - y) + (b - x)) + q * ((x - a) + (y - a))) / (2 * (b - a)) := by grind
    have h1 : (0 : Rat) < p * ((b - y) + (b - x)) := Rat.mul_pos hp (by grind)
    have h2 : (0 : Rat) < q * ((x - a) + (y - a)) := Rat.mul_pos hq (by grind)
    have h3 : (0 : Rat) < (y - x) * (p * ((b - y) + (b - x)) + q * ((x - a) + (y - a))) := Rat.mul_pos (by grind) (by grind)
    have h4 : (0 : Rat) < (y - x) * (p * ((b - y) + (b - x)) + q * ((x - a) + (y - a))) / (2 * (b - a)) := by
      rw [Rat.lt_div_iff (by grind)]
      grind
    grind
  · rw [if_neg hs, if_neg hs]
    have := Rat.mul_lt_mul_of_pos_left (a := x - rat m.tick) (b := y - rat m.tick) (by grind) hp
    exact this
theorem part_at (m n : Mark) : part m n (rat m.tick) = 0 := by
  rw [part]
  grind
theorem lasts_mono : ∀ (l : List Mark) (m : Mark) (x y : Rat), Inc (m :: l) → (∀ k ∈ m :: l, 1 ≤ k.quarter) → rat m.tick ≤ x → x < y → lasts (m :: l) x < lasts (m :: l) y
  | [], m, x, y, _, hq, hx, hxy => by
    rw [lasts, lasts]
    exact Rat.mul_lt_mul_of_pos_left (by grind) (rat_pos (hq m (by simp)))
  | n :: l, m, x, y, h, hq, hx, hxy => by
    have hmn := (List.pairwise_cons.mp h).1 n (by simp)
    have h2 := (List.pairwise_cons.mp h).2
    have q1 := hq m (by simp)
    have q2 := hq n (by simp)
    rw [lasts, lasts]
    by_cases hy : y ≤ rat n.tick
    · rw [if_pos hy, if_pos (by grind)]
      exact part_mono q1 q2 hx hxy hy
    · rw [if_neg hy]
      by_cases hx2 : x ≤ rat n.tick
      · rw [if_pos hx2]
        have a1 : part m n x ≤ part m n (rat n.tick) := by
          by_cases e : x = rat n.tick
          · rw [e]; exact Rat.le_refl
          · exact Rat.le_of_lt (part_mono q1 q2 hx (Rat.lt_of_le_of_ne hx2 e) Rat.le_refl)
        have a2 := lasts_mono l n (rat n.tick) y h2 (fun k hk => hq k (by simp [List.mem_cons.mp hk])) Rat.le_refl (Rat.not_le.mp hy)
        rw [lasts_at n l h2] at a2
        grind
      · rw [if_neg hx2]
        have a2 := lasts_mono l n x y h2 (fun k hk => hq k (by simp [List.mem_cons.mp hk])) (Rat.le_of_lt (Rat.not_le.mp hx2)) hxy
        grind
/-! ### swung places -/
def swin (s : Swing) (x : Rat) : Bool := decide (rat s.low ≤ x) && decide (x < rat s.high)
theorem swin_iff {s : Swing} {x : Rat} : swin s x = true ↔ rat s.low ≤ x ∧ x < rat s.high := by simp [swin]
/-- the pair's number, what lies behind its beginning, where it comes to stand -/
def kOf (s : Swing) (x : Rat) : Int := ((x - rat s.low) / rat s.pair).floor
def bend (L a b r : Rat) : Rat := if r ≤ L / 2 then r * 2 * a / (a + b) else L * a / (a + b) + (r - L / 2) * 2 * b / (a + b)
def swg (s : Swing) (x : Rat) : Rat := rat s.low + (kOf s x : Rat) * rat s.pair + bend (rat s.pair) (rat s.a) (rat s.b) (x - rat s.low - (kOf s x : Rat) * rat s.pair)
theorem rat_add (a b : Nat) : rat (a + b) = rat a + rat b := Rat.natCast_add a b
theorem swung_eq (l : List Swing) (x : Rat) : swung l x = match l.find? fun s => swin s x with
    | none => x
    | some s => swg s x := by
  show (match l.find? fun s => swin s x with
    | none => x
    | some s => _) = _
  cases l.find? fun s => swin s x with
  | none => rfl
  | some s =>
    simp only [swg, bend, kOf, rat_add]
    first | rfl | (congr 1; split <;> rfl)
theorem bend_mono {L a b r t : Rat} (hL : 0 < L) (ha : 0 < a) (hb : 0 < b) (hr : 0 ≤ r) (ht : r < t) : bend L a b r < bend L a b t := by
  have hab : 0 < a + b := by grind
  have e1 : r * 2 * a / (a + b) = r * (2 * a / (a + b)) := by grind
  have e2 : t * 2 * a / (a + b) = t * (2 * a / (a + b)) := by grind
  have e3 : (r - L / 2) * 2 * b / (a + b) = (r - L / 2) * (2 * b / (a + b)) := by grind
  have e4 : (t - L / 2) * 2 * b / (a + b) = (t - L / 2) * (2 * b / (a + b)) := by grind
  have e5 : L * a / (a + b) = (L / 2) * (2 * a / (a + b)) := by grind
  have p1 : 0 < 2 * a / (a + b) := by rw [Rat.lt_div_iff hab]; grind
  have p2 : 0 < 2 * b / (a + b) := by rw [Rat.lt_div_iff hab]; grind
  unfold bend
  rw [e1, e2, e3, e4, e5]
  generalize 2 * a / (a + b) = u at *
  generalize 2 * b / (a + b) = v at *
  by_cases h1 : t ≤ L / 2
  · rw [if_pos h1, if_pos (by grind)]
    exact Rat.mul_lt_mul_of_pos_right ht p1
  · rw [if_neg h1]
    have q1 : 0 < (t - L / 2) * v := Rat.mul_pos (by grind) p2
    by_cases h2 : r ≤ L / 2
    · rw [if_pos h2]
      have := Rat.mul_le_mul_of_nonneg_right h2 (Rat.le_of_lt p1)
      grind
    · rw [if_neg h2]
      have := Rat.mul_lt_mul_of_pos_right (a := r - L / 2) (b := t - L / 2) (by grind) p2
      grind
theorem bend_zero {L a b : Rat} (hL : 0 < L) : bend L a b 0 = 0 := by
  unfold bend
  rw [if_pos (by grind)]
  grind
theorem bend_full {L a b : Rat} (hL : 0 < L) (ha : 0 < a) (hb : 0 < b) : bend L a b L = L := by
  have hab : 0 < a + b := by grind
  unfold bend
  rw [if_neg (by grind)]
  have e : (L - L / 2) * 2 * b / (a + b) = L * b / (a + b) := by grind
  rw [e]
  grind
structure SwOk (s : Swing) : Prop where
  lt : s.low < s.high
  last : s.high ≤ 1000000
  pair : 2 ≤ s.pair
  even : s.pair % 2 = 0
  fit : (s.high - s.low) % s.pair = 0
  a1 : 1 ≤ s.a
  a2 : s.a ≤ 20
  b1 : 1 ≤ s.b
  b2 : s.b ≤ 20
theorem swOk_of {s : Swing} : swingOk s = true ↔ SwOk s := by
  constructor
  · intro h
    simp only [swingOk, Bool.and_eq_true, decide_eq_true_eq, beq_iff_eq] at h
    obtain ⟨h1, h2, h3, h4, h5, h6, h7, h8, h9⟩ := h
    exact ⟨h1, h2, h3, h4, h5, h6, h7, h8, h9⟩
  · intro h
    simp only [swingOk, Bool.and_eq_true, decide_eq_true_eq, beq_iff_eq]
    exact ⟨h.lt, h.last, h.pair, h.even, h.fit, h.a1, h.a2, h.b1, h.b2⟩
theorem kOf_le {s : Swing} (o : SwOk s) (x : Rat) : 0 ≤ x - rat s.low - (kOf s x : Rat) * rat s.pair ∧ x - rat s.low - (kOf s x : Rat) * rat s.pair < rat s.pair := by
  have hp : 0 < rat s.pair := rat_pos (by have := o.pair; omega)
  have h1 := Rat.floor_le ((x - rat s.low) / rat s.pair)
  have h2 := Rat.lt_floor_add_one ((x - rat s.low) / rat s.pair)
  unfold kOf
  generalize ((x - rat s.low) / rat s.pair).floor = k at *
  have h3 := Rat.mul_le_mul_of_nonneg_right h1 (Rat.le_of_lt hp)
  have h4 := Rat.mul_lt_mul_of_pos_right h2 hp
  rw [Rat.div_mul_cancel (by grind)] at h3 h4
  rw [Rat.intCast_add] at h4
  grind
theorem swg_lo {s : Swing} (o : SwOk s) (x : Rat) : rat s.low + (kOf s x : Rat) * rat s.pair ≤ swg s x := by
  have hp : 0 < rat s.pair := rat_pos (by have := o.pair; omega)
  obtain ⟨h1, h2⟩ := kOf_le o x
  unfold swg
  generalize x - rat s.low - (kOf s x : Rat) * rat s.pair = r at *
  have : 0 ≤ bend (rat s.pair) (rat s.a) (rat s.b) r := by
    rw [← bend_zero (a := rat s.a) (b := rat s.b) hp]
    by_cases e : r = 0
    · rw [e]; exact Rat.le_refl
    · exact Rat.le_of_lt (bend_mono hp (rat_pos o.a1) (rat_pos o.b1) Rat.le_refl (Rat.lt_of_le_of_ne h1 (Ne.symm e)))
  grind
theorem swg_hi {s : Swing} (o : SwOk s) (x : Rat) : swg s x < rat s.low + ((kOf s x : Rat) + 1) * rat s.pair := by
  have hp : 0 < rat s.pair := rat_pos (by have := o.pair; omega)
  obtain ⟨h1, h2⟩ := kOf_le o x
  unfold swg
  generalize x - rat s.low - (kOf s x : Rat) * rat s.pair = r at *
  have := bend_mono hp (rat_pos o.a1) (rat_pos o.b1) h1 h2
  rw [bend_full hp (rat_pos o.a1) (rat_pos o.b1)] at this
  grind
theorem kOf_nn {s : Swing} (o : SwOk s) {x : Rat} (hx : rat s.low ≤ x) : 0 ≤ kOf s x := by
  have hp : 0 < rat s.pair := rat_pos (by have := o.pair; omega)
  unfold kOf
  rw [Rat.le_floor_iff]
  have : (0 : Rat) ≤ (x - rat s.low) / rat s.pair := by
    rw [Rat.div_def]
    exact Rat.mul_nonneg (by grind) (Rat.le_of_lt (Rat.inv_pos.mpr hp))
  simpa using this
theorem kOf_top {s : Swing} (o : SwOk s) {x : Rat} (hx : x < rat s.high) : rat s.low + ((kOf s x : Rat) + 1) * rat s.pair ≤ rat s.high := by
  have hp : 0 < rat s.pair := rat_pos (by have := o.pair; omega)
  obtain ⟨h1, h2⟩ := kOf_le o x
  obtain ⟨c, hc⟩ : ∃ c : Nat, s.high = s.low + c * s.pair := ⟨(s.high - s.low) / s.pair, by
    have := Nat.div_add_mod (s.high - s.low) s.pair
    rw [o.fit] at this
    have := o.lt
    have e : (s.high - s.low) / s.pair * s.pair = s.pair * ((s.high - s.low) / s.pair) := Nat.mul_comm _ _
    omega⟩
  have eh : rat s.high = rat s.low + (c : Rat) * rat s.pair := by
    rw [hc, rat_add]
    congr 1
    exact Rat.natCast_mul c s.pair
  rw [eh] at hx ⊢
  have h3 : (kOf s x : Rat) < (c : Rat) := by
    have : (kOf s x : Rat) * rat s.pair < (c : Rat) * rat s.pair := by grind
    exact (Rat.mul_lt_mul_right hp).mp this
  have h4 : kOf s x + 1 ≤ (c : Int) := by
    have : kOf s x < (c : Int) := by
      rw [← Rat.intCast_natCast] at h3
      exact Rat.intCast_lt_intCast.mp h3
    omega
  have h5 : ((kOf s x + 1 : Int) : Rat) ≤ ((c : Int) : Rat) := Rat.intCast_le_intCast.mpr h4
  rw [Rat.intCast_add] at h5
  have h6 := Rat.mul_le_mul_of_nonneg_right h5 (Rat.le_of_lt hp)
  have e1 : ((1 : Int) : Rat) = 1 := rfl
  have e2 : ((c : Int) : Rat) = (c : Rat) := rfl
  rw [e1, e2] at h6
  grind
theorem swg_in {s : Swing} (o : SwOk s) {x : Rat} (h : rat s.low ≤ x ∧ x < rat s.high) : rat s.low ≤ swg s x ∧ swg s x < rat s.high := by
  have hp : 0 < rat s.pair := rat_pos (by have := o.pair; omega)
  have h1 := swg_lo o x
  have h2 := swg_hi o x
  have h3 := kOf_top o h.2
  have h4 : (0 : Rat) ≤ (kOf s x : Rat) := Rat.intCast_nonneg.mpr (kOf_nn o h.1)
  have h5 := Rat.mul_nonneg h4 (Rat.le_of_lt hp)
  grind
theorem kOf_mono {s : Swing} (o : SwOk s) {x y : Rat} (h : x ≤ y) : kOf s x ≤ kOf s y := by
  have hp : 0 < rat s.pair := rat_pos (by have := o.pair; omega)
  unfold kOf
  refine Rat.floor_monotone ?_
  rw [Rat.div_def, Rat.div_def]
  exact Rat.mul_le_mul_of_nonneg_right (by grind) (Rat.le_of_lt (Rat.inv_pos.mpr hp))
theorem swg_mono {s : Swing} (o : SwOk s) {x y : Rat} (h : x < y) : swg s x < swg s y := by
  have hp : 0 < rat s.pair := rat_pos (by have := o.pair; omega)
  have hk := kOf_mono o (Rat.le_of_lt h)
  by_cases e : kOf s x = kOf s y
  · obtain ⟨h1, h2⟩ := kOf_le o x
    unfold swg
    rw [← e]
    have := bend_mono (r := x - rat s.low - (kOf s x : Rat) * rat s.pair) (t := y - rat s.low - (kOf s x : Rat) * rat s.pair) hp (rat_pos o.a1) (rat_pos o.b1) h1 (by grind)
    grind
  · have h1 := swg_hi o x
    have h2 := swg_lo o y
    have h3 : kOf s x + 1 ≤ kOf s y := by omega
    have h5 : ((kOf s x + 1 : Int) : Rat) ≤ (kOf s y : Rat) := Rat.intCast_le_intCast.mpr h3
    rw [Rat.intCast_add] at h5
    have h6 := Rat.mul_le_mul_of_nonneg_right h5 (Rat.le_of_lt hp)
    have e1 : ((1 : Int) : Rat) = 1 := rfl
    rw [e1] at h6
    grind
structure SwsOk (l : List Swing) : Prop where
  ok : ∀ s ∈ l, SwOk s
  ap : ∀ s ∈ l, ∀ t ∈ l, s ≠ t → s.high ≤ t.low ∨ t.high ≤ s.low
theorem swung_mono {l : List Swing} (o : SwsOk l) {x y : Rat} (h : x < y) : swung l x < swung l y := by
  rw [swung_eq, swung_eq]
  cases ex : l.find? fun s => swin s x with
  | none =>
    cases ey : l.find? fun s => swin s y with
    | none => exact h
    | some t =>
      have ht := List.mem_of_find?_eq_some ey
      have hy := swin_iff.mp (List.find?_some (p := fun s => swin s y) ey)
      have hx := List.find?_eq_none.mp ex t ht
      rw [swin_iff] at hx
      have h1 := swg_in (o.ok t ht) hy
      show x < swg t y
      grind
  | some s =>
    have hs := List.mem_of_find?_eq_some ex
    have hx := swin_iff.mp (List.find?_some (p := fun s => swin s x) ex)
    have h1 := swg_in (o.ok s hs) hx
    cases ey : l.find? fun s => swin s y with
    | none =>
      have hy := List.find?_eq_none.mp ey s hs
      rw [swin_iff] at hy
      show swg s x < y
      grind
    | some t =>
      have ht := List.mem_of_find?_eq_some ey
      have hy := swin_iff.mp (List.find?_some (p := fun s => swin s y) ey)
      show swg s x < swg t y
      by_cases e : s = t
      · subst e
        exact swg_mono (o.ok s hs) h
      · have h2 := swg_in (o.ok t ht) hy
        rcases o.ap s hs t ht e with q | q
        · have := rat_le q
          grind
        · have := rat_le q
          grind
theorem swung_nn {l : List Swing} (o : SwsOk l) {x : Rat} (h : 0 ≤ x) : 0 ≤ swung l x := by
  rw [swung_eq]
  cases ex : l.find? fun s => swin s x with
  | none => exact h
  | some s =>
    have hs := List.mem_of_find?_eq_some ex
    have hx := swin_iff.mp (List.find?_some (p := fun s => swin s x) ex)
    have h1 := swg_in (o.ok s hs) hx
    have := rat_nn s.low
    show 0 ≤ swg s x
    grind
theorem swung_top {l : List Swing} (o : SwsOk l) {x : Rat} (h : x ≤ 1000000) : swung l x ≤ 1000000 := by
  rw [swung_eq]
  cases ex : l.find? fun s => swin s x with
  | none => exact h
  | some s =>
    have hs := List.mem_of_find?_eq_some ex
    have hx := swin_iff.mp (List.find?_some (p := fun s => swin s x) ex)
    have h1 := swg_in (o.ok s hs) hx
    have h2 := rat_le (o.ok s hs).last
    have e : rat 1000000 = 1000000 := rfl
    rw [e] at h2
    show swg s x ≤ 1000000
    grind
end XM
namespace XM
open Sw70
/-! ### whole numbers for fractions -/
structure Frac (x : Rat) (u l : Int) : Prop where
  pos : 0 < l
  eq : (u : Rat) = x * (l : Rat)
theorem Frac.posQ {x : Rat} {u l : Int} (f : Frac x u l) : (0 : Rat) < (l : Rat) := Rat.intCast_pos.mpr f.pos
theorem Frac.int (n : Int) : Frac (n : Rat) n 1 := ⟨by decide, by show (n : Rat) = (n : Rat) * ((1 : Int) : Rat); rw [show ((1 : Int) : Rat) = 1 from rfl]; grind⟩
theorem Frac.nat (n : Nat) : Frac (rat n) (n : Int) 1 := Frac.int n
theorem Frac.le_iff {x : Rat} {u l : Int} (f : Frac x u l) (n : Int) : (n : Rat) ≤ x ↔ n * l ≤ u := by
  rw [← Rat.intCast_le_intCast, Rat.intCast_mul, f.eq]
  exact ⟨fun h => Rat.mul_le_mul_of_nonneg_right h (Rat.le_of_lt f.posQ), fun h => Rat.le_of_mul_le_mul_right h f.posQ⟩
theorem Frac.lt_iff {x : Rat} {u l : Int} (f : Frac x u l) (n : Int) : x < (n : Rat) ↔ u < n * l := by
  rw [← Rat.intCast_lt_intCast, Rat.intCast_mul, f.eq]
  exact (Rat.mul_lt_mul_right f.posQ).symm
theorem Frac.lt {x y : Rat} {u l v k : Int} (f : Frac x u l) (g : Frac y v k) : x < y ↔ u * k < v * l := by
  rw [← Rat.intCast_lt_intCast, Rat.intCast_mul, Rat.intCast_mul, f.eq, g.eq]
  have e1 : x * (l : Rat) * (k : Rat) = x * ((l : Rat) * k) := by grind
  have e2 : y * (k : Rat) * (l : Rat) = y * ((l : Rat) * k) := by grind
  rw [e1, e2]
  exact (Rat.mul_lt_mul_right (Rat.mul_pos f.posQ g.posQ)).symm
theorem Frac.floor {x : Rat} {u l : Int} (f : Frac x u l) : x.floor = u / l := by
  have h1 : u / l ≤ x.floor := by
    rw [Rat.le_floor_iff, f.le_iff]
    exact Int.ediv_mul_le _ (by have := f.pos; omega)
  have h2 : x.floor < u / l + 1 := by
    rw [Rat.floor_lt_iff, f.lt_iff]
    exact Int.lt_ediv_add_one_mul_self _ f.pos
  omega
theorem Frac.nn {x : Rat} {u l : Int} (f : Frac x u l) : 0 ≤ x ↔ 0 ≤ u := by
  have := f.le_iff 0
  rw [Int.zero_mul] at this
  exact this
theorem Frac.div {x : Rat} {u l : Int} (f : Frac x u l) : x = Rat.divInt u l := by
  rw [Rat.divInt_eq_div, f.eq, Rat.mul_div_cancel (by have := f.posQ; grind)]
/-- told: the whole number, what is left in lowest terms -/
theorem told_eq {x : Rat} {u l : Int} (f : Frac x u l) : fraction x = [u / l, (u % l) / ((Int.gcd l (u % l) : Nat) : Int), l / ((Int.gcd l (u % l) : Nat) : Int)] := by
  have fl := f.floor
  have e1 : x - ((x.floor : Int) : Rat) = Rat.divInt (u % l) l := by
    refine Frac.div ⟨f.pos, ?_⟩
    rw [fl]
    have : ((u % l : Int) : Rat) = (u : Rat) - (l : Rat) * ((u / l : Int) : Rat) := by
      rw [← Rat.intCast_mul, ← Rat.intCast_sub]
      congr 1
      have := Int.mul_ediv_add_emod u l
      omega
    rw [this, f.eq]
    grind
  have hl := f.pos
  unfold fraction
  rw [e1, fl, Rat.num_divInt, Int.sign_eq_one_of_pos hl, Int.one_mul]
  congr 3
  rw [f.div, Rat.den_divInt, if_neg (by omega)]
  have hg : l.gcd u = l.gcd (u % l) := by
    have := Int.gcd_mul_left_add_right l (u % l) (u / l)
    rw [Int.mul_ediv_add_emod] at this
    exact this
  rw [← hg]
  have : ((l.natAbs / l.gcd u : Nat) : Int) = (l.natAbs : Int) / ((l.gcd u : Nat) : Int) := by rfl
  rw [this, Int.natAbs_of_nonneg (by omega)]
theorem nearest_eq {x : Rat} {u l : Int} (f : Frac x u l) : nearest x = (2 * u + l) / (2 * l) := by
  have g : Frac (x + 1 / 2) (2 * u + l) (2 * l) := by
    refine ⟨by have := f.pos; omega, ?_⟩
    rw [Rat.intCast_add, Rat.intCast_mul, Rat.intCast_mul, f.eq, show ((2 : Int) : Rat) = 2 from rfl]
    grind
  exact g.floor
/-! ### swung places in whole numbers -/
def behindOf (s : Swing) (u l : Int) : Int := (u - (s.low : Int) * l) % ((s.pair : Int) * l)
def reachedOf (s : Swing) (u l : Int) : Int := if 2 * behindOf s u l ≤ (s.pair : Int) * l then 2 * behindOf s u l * s.a else (s.pair : Int) * l * s.a + (2 * behindOf s u l - (s.pair : Int) * l) * s.b
theorem swg_frac {s : Swing} {x : Rat} {u l : Int} (o : SwOk s) (f : Frac x u l) :
    Frac (swg s x) ((u - behindOf s u l) * ((s.a : Int) + s.b) + reachedOf s u l) (l * ((s.a : Int) + s.b)) := by
  have hl := f.pos
  have hlq := f.posQ
  have hpn : 0 < s.pair := by have := o.pair; omega
  have hp : 0 < rat s.pair := rat_pos hpn
  have ha := rat_pos o.a1
  have hb := rat_pos o.b1
  have hP : 0 < (s.pair : Int) * l := Int.mul_pos (by omega) hl
  have hk : kOf s x = (u - (s.low : Int) * l) / ((s.pair : Int) * l) := by
    unfold kOf
    refine Frac.floor ⟨hP, ?_⟩
    rw [Rat.intCast_sub, Rat.intCast_mul, Rat.intCast_mul, f.eq]
    show _ = (x - rat s.low) / rat s.pair * (rat s.pair * (l : Rat))
    have : (x - rat s.low) / rat s.pair * (rat s.pair * (l : Rat)) = ((x - rat s.low) / rat s.pair * rat s.pair) * (l : Rat) := by grind
    rw [this, Rat.div_mul_cancel (by grind)]
    show x * (l : Rat) - rat s.low * (l : Rat) = _
    grind
  have hbe : (behindOf s u l : Rat) = (x - rat s.low - (kOf s x : Rat) * rat s.pair) * (l : Rat) := by
    have e : behindOf s u l = u - (s.low : Int) * l - ((s.pair : Int) * l) * kOf s x := by
      have := Int.mul_ediv_add_emod (u - (s.low : Int) * l) ((s.pair : Int) * l)
      rw [hk]
      unfold behindOf
      omega
    rw [e, Rat.intCast_sub, Rat.intCast_sub, Rat.intCast_mul, Rat.intCast_mul, Rat.intCast_mul, f.eq]
    show x * (l : Rat) - rat s.low * (l : Rat) - rat s.pair * (l : Rat) * (kOf s x : Rat) = _
    grind
  refine ⟨Int.mul_pos hl (by have := o.a1; omega), ?_⟩
  have hcond : (2 * behindOf s u l ≤ (s.pair : Int) * l) ↔ (x - rat s.low - (kOf s x : Rat) * rat s.pair ≤ rat s.pair / 2) := by
    rw [← Rat.intCast_le_intCast, Rat.intCast_mul, Rat.intCast_mul, hbe]
    show (2 : Rat) * ((x - rat s.low - (kOf s x : Rat) * rat s.pair) * (l : Rat)) ≤ rat s.pair * (l : Rat) ↔ _
    generalize x - rat s.low - (kOf s x : Rat) * rat s.pair = r
    constructor
    · intro h
      have : (2 * r) * (l : Rat) ≤ rat s.pair * (l : Rat) := by grind
      have := Rat.le_of_mul_le_mul_right this hlq
      grind
    · intro h
      have := Rat.mul_le_mul_of_nonneg_right h (Rat.le_of_lt hlq)
      grind
  have hx : x = rat s.low + (kOf s x : Rat) * rat s.pair + (x - rat s.low - (kOf s x : Rat) * rat s.pair) := by grind
  rw [Rat.intCast_add, Rat.intCast_mul, Rat.intCast_sub, Rat.intCast_mul, Rat.intCast_add, f.eq]
  unfold swg bend reachedOf
  show (x * (l : Rat) - (behindOf s u l : Rat)) * (rat s.a + rat s.b) + _ = _ * ((l : Rat) * (rat s.a + rat s.b))
  by_cases hc : 2 * behindOf s u l ≤ (s.pair : Int) * l
  · rw [if_pos hc, if_pos (hcond.mp hc), Rat.intCast_mul, Rat.intCast_mul, hbe]
    show _ + (2 : Rat) * ((x - rat s.low - (kOf s x : Rat) * rat s.pair) * (l : Rat)) * rat s.a = _
    grind
  · rw [if_neg hc, if_neg (fun z => hc (hcond.mpr z)), Rat.intCast_add, Rat.intCast_mul, Rat.intCast_mul, Rat.intCast_mul, Rat.intCast_sub, Rat.intCast_mul, Rat.intCast_mul, hbe]
    show _ + (rat s.pair * (l : Rat) * rat s.a + ((2 : Rat) * ((x - rat s.low - (kOf s x : Rat) * rat s.pair) * (l : Rat)) - rat s.pair * (l : Rat)) * rat s.b) = _
    grind
theorem swin_frac {s : Swing} {x : Rat} {u l : Int} (f : Frac x u l) : swin s x = (decide ((s.low : Int) * l ≤ u) && decide (u < (s.high : Int) * l)) := by
  unfold swin
  rw [Bool.eq_iff_iff]
  simp only [Bool.and_eq_true, decide_eq_true_eq]
  exact and_congr (f.le_iff s.low) (f.lt_iff s.high)
/-! ### the time -/
def pickI (u l : Int) (f : Str4) : List Str4 → Str4
  | [] => f
  | s :: r => pickI u l (if s.tick * l ≤ u then s else f) r
theorem pick_frac {x : Rat} {u l : Int} (h : Frac x u l) : ∀ (r : List Str4) (f : Str4), pickI u l f r = pick x f r
  | [], _ => rfl
  | s :: r, f => by
    rw [pickI, pick, pick_frac h r]
    congr 1
    by_cases c : s.tick * l ≤ u
    · rw [if_pos c, if_pos ((h.le_iff s.tick).mpr c)]
    · rw [if_neg c, if_neg fun z => c ((h.le_iff s.tick).mp z)]
def tnum (s : Str4) (u l : Int) : Int := s.passed * l * l * s.over + (2 * s.len * (u - s.tick * l) * l * s.over + s.rise * (u - s.tick * l) * (u - s.tick * l))
def tden (s : Str4) (l q : Int) : Int := 2 * l * l * s.over * q
theorem val_frac {x : Rat} {u l q : Int} {s : Str4} (f : Frac x u l) (ho : 0 < s.over) (hq : 0 < q) : Frac (val s x / (q : Rat)) (tnum s u l) (tden s l q) := by
  have hl := f.pos
  refine ⟨Int.mul_pos (Int.mul_pos (Int.mul_pos (by omega) hl) ho) hq, ?_⟩
  have oq : (0 : Rat) < (s.over : Rat) := Rat.intCast_pos.mpr ho
  have qq : (0 : Rat) < (q : Rat) := Rat.intCast_pos.mpr hq
  have e : val s x / (q : Rat) * (tden s l q : Rat) = val s x * (2 * (l : Rat) * (l : Rat) * (s.over : Rat)) := by
    unfold tden
    rw [Rat.intCast_mul, Rat.intCast_mul, Rat.intCast_mul, Rat.intCast_mul, show ((2 : Int) : Rat) = 2 from rfl]
    generalize val s x = v
    have : v / (q : Rat) * (2 * (l : Rat) * (l : Rat) * (s.over : Rat) * (q : Rat)) = (v / (q : Rat) * (q : Rat)) * (2 * (l : Rat) * (l : Rat) * (s.over : Rat)) := by grind
    rw [this, Rat.div_mul_cancel (by grind)]
  rw [e]
  unfold tnum val
  simp only [Rat.intCast_add, Rat.intCast_mul, Rat.intCast_sub, f.eq]
  rw [show ((2 : Int) : Rat) = 2 from rfl]
  grind
theorem strs_over : ∀ (l : List Mark) (p : Int) (s : Str4), Inc l → (∀ m ∈ l, m.tick ≤ 1000000) → s ∈ strs4 p l → 0 < s.over ∧ s.over ≤ 1000000
  | [], _, s, _, _, h => by simp [strs4] at h
  | [m], p, s, _, _, h => by
    simp [strs4] at h
    rw [h]
    exact ⟨(by decide : (0 : Int) < 1), (by decide : (1 : Int) ≤ 1000000)⟩
  | m :: n :: l, p, s, hi, hm, h => by
    rw [strs4, List.mem_cons] at h
    rcases h with h | h
    · have h1 := (List.pairwise_cons.mp hi).1 n (by simp)
      have h2 := hm n (by simp)
      rw [h]
      show 0 < (n.tick : Int) - m.tick ∧ (n.tick : Int) - m.tick ≤ 1000000
      omega
    · exact strs_over (n :: l) _ s (List.pairwise_cons.mp hi).2 (fun k hk => hm k (List.mem_cons_of_mem _ hk)) h
theorem pickI_mem {u l : Int} : ∀ (r : List Str4) (f : Str4), pickI u l f r = f ∨ pickI u l f r ∈ r
  | [], _ => .inl rfl
  | s :: r, f => by
    rw [pickI]
    rcases pickI_mem r (if s.tick * l ≤ u then s else f) with h | h
    · rw [h]
      split
      · exact .inr (by simp)
      · exact .inl rfl
    · exact .inr (List.mem_cons_of_mem _ h)
end XM
namespace XM
open Sw70
/-! ### what is true of every piece -/
structure NoOk (x : Note) : Prop where
  v : x.voice ≤ 15
  k : x.pitch ≤ 127
  l1 : 1 ≤ x.long
  e : x.start + x.long ≤ 1000000
  d1 : 1 ≤ x.loud
  d2 : x.loud ≤ 127
  p1 : 1 ≤ x.part
  p2 : x.part ≤ 100
theorem noOk_of {x : Note} : noteOk x = true ↔ NoOk x := by
  constructor
  · intro h
    simp only [noteOk, Bool.and_eq_true, decide_eq_true_eq] at h
    obtain ⟨h1, h2, h3, h4, h5, h6, h7, h8⟩ := h
    exact ⟨h1, h2, h3, h4, h5, h6, h7, h8⟩
  · intro h
    simp only [noteOk, Bool.and_eq_true, decide_eq_true_eq]
    exact ⟨h.v, h.k, h.l1, h.e, h.d1, h.d2, h.p1, h.p2⟩
structure MkOk (m : Mark) : Prop where
  t : m.tick ≤ 1000000
  q1 : 1 ≤ m.quarter
  q2 : m.quarter ≤ 10000000
theorem mkOk_of {m : Mark} : markOk m = true ↔ MkOk m := by
  constructor
  · intro h
    simp only [markOk, Bool.and_eq_true, decide_eq_true_eq] at h
    exact ⟨h.1, h.2.1, h.2.2⟩
  · intro h
    simp only [markOk, Bool.and_eq_true, decide_eq_true_eq]
    exact ⟨h.t, h.q1, h.q2⟩
structure POk (p : Piece) : Prop where
  q1 : 1 ≤ p.quarter
  q2 : p.quarter ≤ 960
  m0 : ∃ m l, p.marks = m :: l ∧ m.tick = 0
  inc : Inc p.marks
  mok : ∀ m ∈ p.marks, MkOk m
  ml : p.marks.length ≤ 50
  sw : SwsOk p.swings
  sl : p.swings.length ≤ 30
  pe : ∀ d ∈ p.pedals, d.1 < d.2 ∧ d.2 ≤ 1000000
  pl : p.pedals.length ≤ 30
  no : ∀ x ∈ p.notes, NoOk x
  nl : p.notes.length ≤ 200
theorem time_mono {p : Piece} (o : POk p) {x y : Rat} (hx : 0 ≤ x) (h : x < y) : p.time x < p.time y := by
  obtain ⟨m, l, e, e0⟩ := o.m0
  unfold Piece.time
  have hq : 0 < rat p.quarter := rat_pos o.q1
  have h1 := swung_mono o.sw h
  have h2 := swung_nn o.sw hx
  have i := o.inc
  have k := o.mok
  rw [e] at i k ⊢
  have h3 := lasts_mono l m _ _ i (fun n hn => (k n hn).q1) (by rw [e0]; exact h2) h1
  rw [Rat.div_def, Rat.div_def]
  exact Rat.mul_lt_mul_of_pos_right h3 (Rat.inv_pos.mpr hq)
theorem time_le {p : Piece} (o : POk p) {x y : Rat} (hx : 0 ≤ x) (h : x ≤ y) : p.time x ≤ p.time y := by
  by_cases e : x = y
  · rw [e]; exact Rat.le_refl
  · exact Rat.le_of_lt (time_mono o hx (Rat.lt_of_le_of_ne h e))
theorem time_lt_iff {p : Piece} (o : POk p) {x y : Rat} (hx : 0 ≤ x) (hy : 0 ≤ y) : p.time x < p.time y ↔ x < y := by
  constructor
  · intro h
    by_cases c : x < y
    · exact c
    · have := time_le o hy (Rat.not_lt.mp c)
      grind
  · exact time_mono o hx
theorem time_inj {p : Piece} (o : POk p) {x y : Rat} (hx : 0 ≤ x) (hy : 0 ≤ y) : p.time x = p.time y ↔ x = y := by
  constructor
  · intro h
    by_cases c : x < y
    · have := time_mono o hx c
      grind
    · by_cases d : y < x
      · have := time_mono o hy d
        grind
      · grind
  · intro h
    rw [h]
theorem swung_zero {l : List Swing} (o : SwsOk l) : swung l 0 = 0 := by
  rw [swung_eq]
  cases ex : l.find? fun s => swin s 0 with
  | none => rfl
  | some s =>
    have hs := List.mem_of_find?_eq_some ex
    have hx := swin_iff.mp (List.find?_some (p := fun s => swin s 0) ex)
    have o := o.ok s hs
    have hp : 0 < rat s.pair := rat_pos (by have := o.pair; omega)
    have h0 : rat s.low = 0 := Rat.le_antisymm hx.1 (rat_nn _)
    have hk : kOf s 0 = 0 := by
      unfold kOf
      rw [h0]
      have : (0 - (0 : Rat)) / rat s.pair = ((0 : Int) : Rat) := by
        show _ = (0 : Rat)
        grind
      rw [this, Rat.floor_intCast]
    show swg s 0 = 0
    unfold swg
    rw [hk, h0]
    have e : (0 : Rat) - 0 - ((0 : Int) : Rat) * rat s.pair = 0 := by
      show (0 : Rat) - 0 - (0 : Rat) * rat s.pair = 0
      grind
    rw [e, bend_zero hp]
    show (0 : Rat) + (0 : Rat) * rat s.pair + 0 = 0
    grind
theorem time_zero {p : Piece} (o : POk p) : p.time 0 = 0 := by
  obtain ⟨m, l, e, e0⟩ := o.m0
  unfold Piece.time
  rw [swung_zero o.sw]
  have i := o.inc
  rw [e] at i ⊢
  have := lasts_at m l i
  rw [e0] at this
  have z : rat 0 = 0 := rfl
  rw [z] at this
  rw [this]
  grind
theorem time_nn {p : Piece} (o : POk p) {x : Rat} (hx : 0 ≤ x) : 0 ≤ p.time x := by
  rw [← time_zero o]
  exact time_le o Rat.le_refl hx
/-- the stretches of a piece, and what its time is in whole numbers -/
theorem time_frac {p : Piece} (o : POk p) {x : Rat} {u l : Int} {f : Str4} (hx : 0 ≤ x) (h : Frac (swung p.swings x) u l) :
    Frac (p.time x) (tnum (pickI u l f (strs4 0 p.marks)) u l) (tden (pickI u l f (strs4 0 p.marks)) l p.quarter) ∧ pickI u l f (strs4 0 p.marks) ∈ strs4 0 p.marks := by
  obtain ⟨m, r, e, e0⟩ := o.m0
  have i := o.inc
  have mm := o.mok
  unfold Piece.time
  rw [e] at i mm ⊢
  have h0 : rat m.tick ≤ swung p.swings x := by rw [e0]; exact swung_nn o.sw hx
  have hv := val_pick r m 0 _ f i h0
  have mem : pickI u l f (strs4 0 (m :: r)) ∈ strs4 0 (m :: r) := by
    obtain ⟨s0, t, es, et⟩ : ∃ s0 t, strs4 0 (m :: r) = s0 :: t ∧ s0.tick = (m.tick : Int) := by
      cases r with
      | nil => exact ⟨_, _, rfl, rfl⟩
      | cons n r => exact ⟨_, _, rfl, rfl⟩
    rw [es, pickI]
    have c : s0.tick * l ≤ u := (h.le_iff s0.tick).mp (by rw [et]; exact h0)
    rw [if_pos c]
    rcases pickI_mem (u := u) (l := l) t s0 with q | q
    · rw [q]; simp
    · exact List.mem_cons_of_mem _ q
  refine ⟨?_, mem⟩
  have ov := (strs_over (m :: r) 0 _ i (fun n hn => (mm n hn).t) mem).1
  have g := val_frac (q := (p.quarter : Int)) h ov (by have := o.q1; omega)
  rw [pick_frac h, hv] at g
  rw [pick_frac h]
  have z : (((0 : Int) : Rat)) / 2 + lasts (m :: r) (swung p.swings x) = lasts (m :: r) (swung p.swings x) := by
    show (0 : Rat) / 2 + _ = _
    grind
  rw [z] at g
  exact g
/-! ### the last tick that isn't after a time -/
structure IsAt (p : Piece) (t : Rat) (k : Nat) : Prop where
  le : k ≤ 1000000
  lo : p.time (rat k) ≤ t
  hi : k = 1000000 ∨ t < p.time (rat (k + 1))
theorem IsAt.uniq {p : Piece} (o : POk p) {t : Rat} {j k : Nat} (a : IsAt p t j) (b : IsAt p t k) : j = k := by
  have go : ∀ {j k : Nat}, IsAt p t j → IsAt p t k → ¬ j < k := by
    intro j k a b h
    rcases a.hi with q | q
    · have := b.le
      omega
    · have h1 : p.time (rat (j + 1)) ≤ p.time (rat k) := time_le o (rat_nn _) (rat_le h)
      have := b.lo
      grind
  have := go a b
  have := go b a
  omega
theorem search_ok {p : Piece} {t : Rat} : ∀ (f low high : Nat), p.time (rat low) ≤ t → t < p.time (rat high) → low < high → high - low ≤ 2 ^ f →
    p.time (rat (p.search t f low high)) ≤ t ∧ t < p.time (rat (p.search t f low high + 1)) ∧ p.search t f low high < high
  | 0, low, high, h1, h2, h3, h4 => by
    have e : high = low + 1 := by omega
    rw [Piece.search]
    rw [e] at h2
    exact ⟨h1, h2, h3⟩
  | f + 1, low, high, h1, h2, h3, h4 => by
    rw [Piece.search]
    by_cases c : high ≤ low + 1
    · rw [if_pos c]
      have e : high = low + 1 := by omega
      rw [e] at h2
      exact ⟨h1, h2, h3⟩
    · rw [if_neg c]
      have hp : 2 ^ (f + 1) = 2 * 2 ^ f := by rw [Nat.pow_succ]; omega
      show p.time (rat (if p.time (rat ((low + high) / 2)) ≤ t then p.search t f ((low + high) / 2) high else p.search t f low ((low + high) / 2))) ≤ t ∧ t < p.time (rat ((if p.time (rat ((low + high) / 2)) ≤ t then p.search t f ((low + high) / 2) high else p.search t f low ((low + high) / 2)) + 1)) ∧ (if p.time (rat ((low + high) / 2)) ≤ t then p.search t f ((low + high) / 2) high else p.search t f low ((low + high) / 2)) < high
      by_cases d : p.time (rat ((low + high) / 2)) ≤ t
      · rw [if_pos d]
        exact search_ok f _ high d h2 (by omega) (by omega)
      · rw [if_neg d]
        have := search_ok f low ((low + high) / 2) h1 (Rat.not_le.mp d) (by omega) (by omega)
        exact ⟨this.1, this.2.1, by omega⟩
theorem at_ok {p : Piece} (o : POk p) {t : Rat} (ht : 0 ≤ t) : IsAt p t (p.at_ t) := by
  unfold Piece.at_
  by_cases c : p.time (rat LAST) ≤ t
  · rw [if_pos c]
    exact ⟨Nat.le_refl _, c, .inl rfl⟩
  · rw [if_neg c]
    have z : p.time (rat 0) ≤ t := by
      show p.time 0 ≤ t
      rw [time_zero o]
      exact ht
    have := search_ok 30 0 LAST z (Rat.not_le.mp c) (by decide) (by decide)
    exact ⟨Nat.le_of_lt this.2.2, this.1, .inr this.2.1⟩
end XM
namespace XM
open Sw70
/-! ### ties -/
def nx (p : Piece) (i : Nat) : Option Nat := (p.notes[i]?).bind p.next
theorem nx_some {p : Piece} {i j : Nat} (h : nx p i = some j) : ∃ x y, p.notes[i]? = some x ∧ p.notes[j]? = some y ∧ x.tied = true ∧ y.start = x.start + x.long ∧ y.voice = x.voice ∧ y.pitch = x.pitch := by
  unfold nx at h
  cases e : p.notes[i]? with
  | none => rw [e] at h; cases h
  | some x =>
    rw [e] at h
    have h : p.next x = some j := h
    unfold Piece.next at h
    by_cases c : x.tied = true
    · rw [if_pos c] at h
      obtain ⟨hj, hp, _⟩ := List.findIdx?_eq_some_iff_getElem.mp h
      simp only [Bool.and_eq_true, beq_iff_eq] at hp
      exact ⟨x, p.notes[j], rfl, List.getElem?_eq_getElem hj, c, hp.2.2, hp.1, hp.2.1⟩
    · rw [if_neg c] at h; cases h
def mu (p : Piece) (i : Nat) : Nat := match p.notes[i]? with
  | none => 0
  | some x => (p.notes.filter fun y => decide (x.start < y.start)).length
theorem filter_sub_le {α : Type} (q r : α → Bool) (h : ∀ x, q x = true → r x = true) : ∀ l : List α, (l.filter q).length ≤ (l.filter r).length
  | [] => by simp
  | a :: l => by
    have ih := filter_sub_le q r h l
    rw [List.filter_cons, List.filter_cons]
    by_cases c : q a = true
    · rw [if_pos c, if_pos (h a c), List.length_cons, List.length_cons]; omega
    · rw [if_neg c]
      split
      · rw [List.length_cons]; omega
      · exact ih
theorem filter_sub_lt {α : Type} (q r : α → Bool) (h : ∀ x, q x = true → r x = true) {z : α} (hz1 : q z = false) (hz2 : r z = true) : ∀ l : List α, z ∈ l → (l.filter q).length < (l.filter r).length
  | [], m => by simp at m
  | a :: l, m => by
    have le := filter_sub_le q r h l
    rw [List.filter_cons, List.filter_cons]
    rcases List.mem_cons.mp m with e | m
    · subst e
      rw [if_neg (by rw [hz1]; decide), if_pos hz2, List.length_cons]; omega
    · have ih := filter_sub_lt q r h hz1 hz2 l m
      by_cases c : q a = true
      · rw [if_pos c, if_pos (h a c), List.length_cons, List.length_cons]; omega
      · rw [if_neg c]
        split
        · rw [List.length_cons]; omega
        · exact ih
theorem mu_lt {p : Piece} (o : POk p) {i j : Nat} (h : nx p i = some j) : mu p j < mu p i := by
  obtain ⟨x, y, hx, hy, _, hs, _, _⟩ := nx_some h
  have l1 := (o.no x (List.mem_of_getElem? hx)).l1
  unfold mu
  rw [hx, hy]
  refine filter_sub_lt _ _ (fun z hz => ?_) (z := y) ?_ ?_ _ (List.mem_of_getElem? hy)
  · have := of_decide_eq_true hz
    exact decide_eq_true (by omega)
  · exact decide_eq_false (by omega)
  · exact decide_eq_true (by omega)
theorem mu_le (p : Piece) (i : Nat) : mu p i ≤ p.notes.length := by
  unfold mu
  split
  · omega
  · exact List.length_filter_le _ _
theorem lastOf_stop {p : Piece} {i : Nat} (h : nx p i = none) : ∀ f, p.lastOf f i = i
  | 0 => rfl
  | f + 1 => by
    have h : (p.notes[i]?).bind p.next = none := h
    rw [Piece.lastOf, h]
theorem lastOf_go {p : Piece} {i j f : Nat} (h : nx p i = some j) : p.lastOf (f + 1) i = p.lastOf f j := by
  have h : (p.notes[i]?).bind p.next = some j := h
  rw [Piece.lastOf, h]
theorem lastOf_more {p : Piece} (o : POk p) : ∀ (n f g i : Nat), mu p i ≤ n → mu p i ≤ f → mu p i ≤ g → p.lastOf f i = p.lastOf g i := by
  intro n
  induction n with
  | zero =>
    intro f g i h0 hf hg
    cases e : nx p i with
    | none => rw [lastOf_stop e, lastOf_stop e]
    | some j => have := mu_lt o e; omega
  | succ n ih =>
    intro f g i h0 hf hg
    cases e : nx p i with
    | none => rw [lastOf_stop e, lastOf_stop e]
    | some j =>
      have hm := mu_lt o e
      match f, g, hf, hg with
      | 0, _, hf, _ => omega
      | _, 0, _, hg => omega
      | f + 1, g + 1, hf, hg =>
        rw [lastOf_go e, lastOf_go e]
        exact ih f g j (by omega) (by omega) (by omega)
def lst (p : Piece) (i : Nat) : Nat := p.lastOf p.notes.length i
theorem lst_stop {p : Piece} {i : Nat} (h : nx p i = none) : lst p i = i := lastOf_stop h _
theorem lst_go {p : Piece} (o : POk p) {i j : Nat} (h : nx p i = some j) : lst p i = lst p j := by
  unfold lst
  have hm := mu_lt o h
  have hi := mu_le p i
  rw [lastOf_more o (mu p i) p.notes.length (p.notes.length + 1) i (Nat.le_refl _) hi (by omega), lastOf_go h]
theorem lst_lt {p : Piece} (o : POk p) : ∀ (n i : Nat), mu p i ≤ n → i < p.notes.length → lst p i < p.notes.length := by
  intro n
  induction n with
  | zero =>
    intro i h0 hi
    cases e : nx p i with
    | none => rw [lst_stop e]; exact hi
    | some j => have := mu_lt o e; omega
  | succ n ih =>
    intro i h0 hi
    cases e : nx p i with
    | none => rw [lst_stop e]; exact hi
    | some j =>
      have := mu_lt o e
      obtain ⟨_, y, _, hy, _⟩ := nx_some e
      rw [lst_go o e]
      exact ih j (by omega) (List.getElem?_eq_some_iff.mp hy).1
theorem begun_iff (p : Piece) (j : Nat) : p.begun j = true ↔ ∃ i, nx p i = some j := by
  unfold Piece.begun
  rw [List.any_eq_true]
  constructor
  · rintro ⟨y, hy, e⟩
    obtain ⟨i, hi⟩ := List.getElem?_of_mem hy
    refine ⟨i, ?_⟩
    unfold nx
    rw [hi]
    exact eq_of_beq e
  · rintro ⟨i, e⟩
    unfold nx at e
    cases q : p.notes[i]? with
    | none => rw [q] at e; cases e
    | some y =>
      rw [q] at e
      have e : p.next y = some j := e
      exact ⟨y, List.mem_of_getElem? q, by rw [e]; exact beq_self_eq_true _⟩
/-! ### sounds by their places -/
structure Pl where
  num : Nat
  note : Note
  e : Rat
def lastNote (p : Piece) (i : Nat) (x : Note) : Note := (p.notes[lst p i]?).getD x
def plOf (p : Piece) (x : Note × Nat) : Option Pl := if p.begun x.2 = true then none else some ⟨x.2, x.1, held p (endOf (lastNote p x.2 x.1))⟩
def pls (p : Piece) : List Pl := p.notes.zipIdx.filterMap (plOf p)
def snd (p : Piece) (x : Pl) : Sound := ⟨x.num, x.note.voice, x.note.pitch, x.note.loud, p.time (rat x.note.start), p.time x.e⟩
theorem plain_eq (p : Piece) : p.plain = (pls p).map (snd p) := by
  unfold Piece.plain pls
  rw [List.map_filterMap]
  congr 1
  funext x
  unfold plOf
  by_cases c : p.begun x.2 = true
  · rw [if_pos c, if_pos c]; rfl
  · rw [if_neg c, if_neg c]; rfl
theorem pls_nums_go (p : Piece) : ∀ (l : List Note) (k : Nat), ((l.zipIdx k).filterMap (plOf p)).Pairwise (fun a b => a.num < b.num) ∧ ∀ a ∈ (l.zipIdx k).filterMap (plOf p), k ≤ a.num
  | [], k => by simp
  | x :: l, k => by
    obtain ⟨h1, h2⟩ := pls_nums_go p l (k + 1)
    rw [List.zipIdx_cons, List.filterMap_cons]
    by_cases c : p.begun k = true
    · have e : plOf p (x, k) = none := if_pos c
      rw [e]
      exact ⟨h1, fun a ha => Nat.le_of_succ_le (h2 a ha)⟩
    · have e : plOf p (x, k) = some ⟨k, x, held p (endOf (lastNote p k x))⟩ := if_neg c
      rw [e]
      refine ⟨List.pairwise_cons.mpr ⟨fun a ha => h2 a ha, h1⟩, fun a ha => ?_⟩
      rcases List.mem_cons.mp ha with rfl | ha
      · exact Nat.le_refl _
      · exact Nat.le_of_succ_le (h2 a ha)
theorem pls_nums (p : Piece) : (pls p).Pairwise (fun a b => a.num < b.num) := (pls_nums_go p p.notes 0).1
theorem pls_mem {p : Piece} {x : Pl} (h : x ∈ pls p) : x.note ∈ p.notes ∧ p.notes[x.num]? = some x.note ∧ p.begun x.num = false ∧ x.e = held p (endOf (lastNote p x.num x.note)) := by
  unfold pls at h
  obtain ⟨⟨n, i⟩, hm, he⟩ := List.mem_filterMap.mp h
  unfold plOf at he
  by_cases c : p.begun i = true
  · rw [if_pos c] at he; cases he
  · rw [if_neg c] at he
    have e := Option.some.inj he
    subst e
    have := List.mem_zipIdx_iff_getElem?.mp hm
    exact ⟨List.mem_of_getElem? this, this, by simpa using c, rfl⟩
theorem pls_len (p : Piece) : (pls p).length ≤ p.notes.length := by
  unfold pls
  refine Nat.le_trans (List.length_filterMap_le _ _) ?_
  rw [List.length_zipIdx]
  exact Nat.le_refl _
theorem endOf_in {x : Note} (h : NoOk x) : 0 ≤ endOf x ∧ endOf x ≤ 1000000 := by
  unfold endOf
  have h1 := rat_nn x.start
  have h2 := rat_nn x.long
  have h3 := rat_nn x.part
  have h4 := Rat.mul_nonneg h2 h3
  have h5 : rat x.part ≤ 100 := rat_le h.p2
  have h6 := Rat.mul_le_mul_of_nonneg_left h5 h2
  have h7 : rat x.start + rat x.long ≤ 1000000 := by rw [← rat_add]; exact rat_le h.e
  constructor
  · have : 0 ≤ rat x.long * rat x.part / 100 := by
      rw [Rat.div_def]
      exact Rat.mul_nonneg h4 (by grind)
    grind
  · have : rat x.long * rat x.part / 100 ≤ rat x.long := by
      have e : rat x.long * 100 / 100 = rat x.long := by grind
      have : rat x.long * rat x.part / 100 ≤ rat x.long * 100 / 100 := by
        rw [Rat.div_def, Rat.div_def]
        exact Rat.mul_le_mul_of_nonneg_right h6 (by grind)
      grind
    grind
theorem held_in {p : Piece} (o : POk p) {x : Rat} (h : 0 ≤ x ∧ x ≤ 1000000) : 0 ≤ held p x ∧ held p x ≤ 1000000 := by
  unfold held
  cases e : p.pedals.find? fun d => decide (rat d.1 ≤ x) && decide (x < rat d.2) with
  | none => exact h
  | some d =>
    have := o.pe d (List.mem_of_find?_eq_some e)
    exact ⟨rat_nn _, rat_le this.2⟩
theorem lastNote_mem {p : Piece} (o : POk p) {i : Nat} {x : Note} (h : p.notes[i]? = some x) : p.notes[lst p i]? = some (lastNote p i x) := by
  have hi := (List.getElem?_eq_some_iff.mp h).1
  have := lst_lt o (mu p i) i (Nat.le_refl _) hi
  unfold lastNote
  rw [List.getElem?_eq_getElem this]
  rfl
theorem pls_e {p : Piece} (o : POk p) {x : Pl} (h : x ∈ pls p) : 0 ≤ x.e ∧ x.e ≤ 1000000 := by
  obtain ⟨_, h1, _, h2⟩ := pls_mem h
  rw [h2]
  exact held_in o (endOf_in (o.no _ (List.mem_of_getElem? (lastNote_mem o h1))))
end XM
namespace XM
open Sw70
/-! ### which sound ends which -/
def key4 (x : Pl) : List Int := [(x.note.voice : Int), (x.note.pitch : Int), (x.note.start : Int), (x.num : Int)]
/-- not behind it in the order of striking -/
def Kle (a b : Pl) : Prop := a.note.voice < b.note.voice ∨ (a.note.voice = b.note.voice ∧ (a.note.pitch < b.note.pitch ∨ (a.note.pitch = b.note.pitch ∧ (a.note.start < b.note.start ∨ (a.note.start = b.note.start ∧ a.num ≤ b.num)))))
theorem kle_of {a b : Pl} (h : less (key4 b) (key4 a) = false) : Kle a b := by
  unfold key4 at h
  simp only [less, Bool.or_eq_false_iff, Bool.and_eq_false_iff, decide_eq_false_iff_not, beq_eq_false_iff_ne] at h
  unfold Kle
  omega
def alike (a b : Pl) : Bool := a.note.voice == b.note.voice && a.note.pitch == b.note.pitch
theorem alike_iff {a b : Pl} : alike a b = true ↔ a.note.voice = b.note.voice ∧ a.note.pitch = b.note.pitch := by simp [alike]
/-- where the j-th struck one ends at last -/
def fin (T : List Pl) (j : Nat) (x : Pl) : Rat := match T[j + 1]? with
  | some f => if alike x f = true ∧ rat f.note.start < x.e then rat f.note.start else x.e
  | none => x.e
def offOf (l : List Sound) (x : Sound) : Rat := match after l x with
  | some z => if z < x.off then z else x.off
  | none => x.off
theorem sounds_eq (p : Piece) : p.sounds = p.plain.map fun x => { x with off := offOf p.plain x } := by
  unfold Piece.sounds
  show p.plain.map _ = _
  congr 1
  funext x
  unfold offOf
  cases after p.plain x with
  | none => rfl
  | some z => rfl
def minOn (m : Option Rat) (y : Sound) : Option Rat := match m with
  | none => some y.on
  | some z => some (if y.on < z then y.on else z)
theorem minOn_some : ∀ (F : List Sound) (z : Rat), ∃ w, F.foldl minOn (some z) = some w ∧ w ≤ z ∧ (∀ y ∈ F, w ≤ y.on) ∧ (w = z ∨ ∃ y ∈ F, y.on = w)
  | [], z => ⟨z, rfl, Rat.le_refl, by simp, .inl rfl⟩
  | y :: F, z => by
    rw [List.foldl_cons]
    show ∃ w, F.foldl minOn (some (if y.on < z then y.on else z)) = some w ∧ _
    by_cases c : y.on < z
    · rw [if_pos c]
      obtain ⟨w, h1, h2, h3, h4⟩ := minOn_some F y.on
      refine ⟨w, h1, by grind, fun k hk => ?_, ?_⟩
      · rcases List.mem_cons.mp hk with rfl | hk
        · exact h2
        · exact h3 k hk
      · rcases h4 with h4 | ⟨k, hk, h4⟩
        · exact .inr ⟨y, by simp, h4.symm⟩
        · exact .inr ⟨k, List.mem_cons_of_mem _ hk, h4⟩
    · rw [if_neg c]
      obtain ⟨w, h1, h2, h3, h4⟩ := minOn_some F z
      refine ⟨w, h1, h2, fun k hk => ?_, ?_⟩
      · rcases List.mem_cons.mp hk with rfl | hk
        · grind
        · exact h3 k hk
      · rcases h4 with h4 | ⟨k, hk, h4⟩
        · exact .inl h4
        · exact .inr ⟨k, List.mem_cons_of_mem _ hk, h4⟩
theorem minOn_none (F : List Sound) : (F = [] ∧ F.foldl minOn none = none) ∨ ∃ w, F.foldl minOn none = some w ∧ (∀ y ∈ F, w ≤ y.on) ∧ ∃ y ∈ F, y.on = w := by
  cases F with
  | nil => exact .inl ⟨rfl, rfl⟩
  | cons y F =>
    obtain ⟨w, h1, h2, h3, h4⟩ := minOn_some F y.on
    refine .inr ⟨w, h1, fun k hk => ?_, ?_⟩
    · rcases List.mem_cons.mp hk with rfl | hk
      · exact h2
      · exact h3 k hk
    · rcases h4 with h4 | ⟨k, hk, h4⟩
      · exact ⟨y, by simp, h4.symm⟩
      · exact ⟨k, List.mem_cons_of_mem _ hk, h4⟩
def later (x y : Sound) : Bool := y.voice == x.voice && (y.pitch == x.pitch && (decide (x.on < y.on) || (decide (x.on = y.on) && decide (x.note < y.note))))
theorem after_eq (l : List Sound) (x : Sound) : after l x = (l.filter (later x)).foldl minOn none := rfl
theorem later_iff {p : Piece} (o : POk p) {x y : Pl} : later (snd p x) (snd p y) = true ↔ (y.note.voice = x.note.voice ∧ y.note.pitch = x.note.pitch ∧ (x.note.start < y.note.start ∨ (x.note.start = y.note.start ∧ x.num < y.num))) := by
  have e1 : p.time (rat x.note.start) < p.time (rat y.note.start) ↔ x.note.start < y.note.start := (time_lt_iff o (rat_nn _) (rat_nn _)).trans Rat.natCast_lt_natCast
  have e2 : p.time (rat x.note.start) = p.time (rat y.note.start) ↔ x.note.start = y.note.start := (time_inj o (rat_nn _) (rat_nn _)).trans Rat.natCast_inj
  unfold later snd
  simp only [Bool.and_eq_true, Bool.or_eq_true, beq_iff_eq, decide_eq_true_eq, e1, e2]
theorem ends_ok {p : Piece} (o : POk p) {T : List Pl} (hp : T.Perm (pls p)) (hs : T.Pairwise fun a b => less (key4 b) (key4 a) = false) {j : Nat} {x : Pl} (hx : T[j]? = some x) :
    offOf p.plain (snd p x) = p.time (fin T j x) := by
  have hs' : T.Pairwise Kle := hs.imp fun h => kle_of h
  have nd : T.Pairwise fun a b => a.num ≠ b.num := by
    have : (pls p).Pairwise fun a b => a.num ≠ b.num := (pls_nums p).imp fun h => Nat.ne_of_lt h
    exact hp.symm.pairwise this (fun h => Ne.symm h)
  have hj := (List.getElem?_eq_some_iff.mp hx).1
  have ex : T[j] = x := (List.getElem?_eq_some_iff.mp hx).2
  have xm : x ∈ pls p := hp.mem_iff.mp (List.mem_of_getElem? hx)
  -- whatever is later stands behind it
  have behind : ∀ y ∈ pls p, (y.note.voice = x.note.voice ∧ y.note.pitch = x.note.pitch ∧ (x.note.start < y.note.start ∨ (x.note.start = y.note.start ∧ x.num < y.num))) → ∃ k, ∃ h : k < T.length, j < k ∧ T[k] = y := by
    intro y hy hl
    obtain ⟨k, hk⟩ := List.getElem?_of_mem (hp.mem_iff.mpr hy)
    have hk' := (List.getElem?_eq_some_iff.mp hk).1
    have ek : T[k] = y := (List.getElem?_eq_some_iff.mp hk).2
    refine ⟨k, hk', ?_, ek⟩
    by_cases c : j < k
    · exact c
    · exfalso
      by_cases c2 : k = j
      · subst c2
        rw [ek] at ex
        subst ex
        omega
      · have := List.pairwise_iff_getElem.mp hs' k j hk' hj (by omega)
        rw [ek, ex] at this
        unfold Kle at this
        omega
  have memF : ∀ y, y ∈ p.plain.filter (later (snd p x)) ↔ ∃ z ∈ pls p, y = snd p z ∧ (z.note.voice = x.note.voice ∧ z.note.pitch = x.note.pitch ∧ (x.note.start < z.note.start ∨ (x.note.start = z.note.start ∧ x.num < z.num))) := by
    intro y
    rw [List.mem_filter, plain_eq, List.mem_map]
    constructor
    · rintro ⟨⟨z, hz, rfl⟩, hl⟩
      exact ⟨z, hz, rfl, (later_iff o).mp hl⟩
    · rintro ⟨z, hz, rfl, hl⟩
      exact ⟨⟨z, hz, rfl⟩, (later_iff o).mpr hl⟩
  have xe := pls_e o xm
  unfold offOf fin
  rw [after_eq]
  rcases minOn_none (p.plain.filter (later (snd p x))) with ⟨h0, h1⟩ | ⟨w, h1, h2, y, hy, hyw⟩
  · rw [h1]
    show p.time x.e = _
    cases e : T[j + 1]? with
    | none => rfl
    | some f =>
      have hj1 := (List.getElem?_eq_some_iff.mp e).1
      have ef : T[j + 1] = f := (List.getElem?_eq_some_iff.mp e).2
      have k1 := List.pairwise_iff_getElem.mp hs' j (j + 1) hj hj1 (by omega)
      have k2 := List.pairwise_iff_getElem.mp nd j (j + 1) hj hj1 (by omega)
      rw [ex, ef] at k1 k2
      show _ = p.time (if alike x f = true ∧ rat f.note.start < x.e then rat f.note.start else x.e)
      rw [if_neg]
      rintro ⟨ha, _⟩
      rw [alike_iff] at ha
      have : snd p f ∈ p.plain.filter (later (snd p x)) := (memF _).mpr ⟨f, hp.mem_iff.mp (List.mem_of_getElem? e), rfl, ha.1.symm, ha.2.symm, by unfold Kle at k1; omega⟩
      rw [h0] at this
      simp at this
  · rw [h1]
    show (if w < p.time x.e then w else p.time x.e) = _
    obtain ⟨z, hz, rfl, hl⟩ := (memF y).mp hy
    obtain ⟨k, hk, hjk, ek⟩ := behind z hz hl
    have hj1 : j + 1 < T.length := by omega
    have e : T[j + 1]? = some T[j + 1] := List.getElem?_eq_getElem hj1
    rw [e]
    show _ = p.time (if alike x T[j + 1] = true ∧ rat T[j + 1].note.start < x.e then rat T[j + 1].note.start else x.e)
    have k1 := List.pairwise_iff_getElem.mp hs' j (j + 1) hj hj1 (by omega)
    have k2 := List.pairwise_iff_getElem.mp nd j (j + 1) hj hj1 (by omega)
    rw [ex] at k1 k2
    have k3 : Kle T[j + 1] z := by
      by_cases c : k = j + 1
      · subst c
        rw [ek]
        unfold Kle
        omega
      · have := List.pairwise_iff_getElem.mp hs' (j + 1) k hj1 hk (by omega)
        rw [ek] at this
        exact this
    have ha : x.note.voice = T[j + 1].note.voice ∧ x.note.pitch = T[j + 1].note.pitch := by
      unfold Kle at k1 k3
      omega
    have hf : snd p T[j + 1] ∈ p.plain.filter (later (snd p x)) := (memF _).mpr ⟨T[j + 1], hp.mem_iff.mp (List.getElem_mem hj1), rfl, ha.1.symm, ha.2.symm, by unfold Kle at k1; omega⟩
    have ew : w = p.time (rat T[j + 1].note.start) := by
      refine Rat.le_antisymm (h2 _ hf) ?_
      rw [← hyw]
      show p.time (rat T[j + 1].note.start) ≤ p.time (rat z.note.start)
      exact time_le o (rat_nn _) (rat_le (by unfold Kle at k3; omega))
    rw [ew]
    by_cases c : rat T[j + 1].note.start < x.e
    · rw [if_pos ((time_lt_iff o (rat_nn _) xe.1).mpr c), if_pos ⟨alike_iff.mpr ha, c⟩]
    · rw [if_neg (fun q => c ((time_lt_iff o (rat_nn _) xe.1).mp q)), if_neg (fun q => c q.2)]
theorem fin_in {p : Piece} (o : POk p) {T : List Pl} (hp : T.Perm (pls p)) {j : Nat} {x : Pl} (hx : T[j]? = some x) : 0 ≤ fin T j x ∧ fin T j x ≤ 1000000 := by
  have xe := pls_e o (hp.mem_iff.mp (List.mem_of_getElem? hx))
  unfold fin
  cases e : T[j + 1]? with
  | none => exact xe
  | some f =>
    have := o.no _ (pls_mem (hp.mem_iff.mp (List.mem_of_getElem? e))).1
    have h2 : f.note.start ≤ 1000000 := by have := this.e; omega
    show 0 ≤ (if alike x f = true ∧ rat f.note.start < x.e then rat f.note.start else x.e) ∧ (if alike x f = true ∧ rat f.note.start < x.e then rat f.note.start else x.e) ≤ 1000000
    split
    · exact ⟨rat_nn _, rat_le h2⟩
    · exact xe
/-! ### events in order -/
theorem less_irrefl : ∀ l : List Int, less l l = false
  | [] => rfl
  | a :: l => by
    rw [less, less_irrefl l]
    simp
theorem less_total : ∀ (l m : List Int), l.length = m.length → less l m = false → less m l = false → l = m
  | [], [], _, _, _ => rfl
  | a :: l, b :: m, hl, h1, h2 => by
    rw [less] at h1 h2
    simp only [Bool.or_eq_false_iff, Bool.and_eq_false_iff, decide_eq_false_iff_not, beq_eq_false_iff_ne] at h1 h2
    have e : a = b := by omega
    subst e
    rw [less_total l m (by simpa using hl) (h1.2.resolve_left fun h => h rfl) (h2.2.resolve_left fun h => h rfl)]
theorem less_trans : ∀ (l m n : List Int), l.length = m.length → m.length = n.length → less m l = false → less n m = false → less n l = false
  | [], m, n, h1, h2, _, _ => by
    cases n with
    | nil => rfl
    | cons b n => rfl
  | a :: l, b :: m, c :: n, h1, h2, h3, h4 => by
    rw [less] at h3 h4 ⊢
    simp only [Bool.or_eq_false_iff, Bool.and_eq_false_iff, decide_eq_false_iff_not, beq_eq_false_iff_ne] at h3 h4 ⊢
    refine ⟨by omega, ?_⟩
    by_cases e : c = a
    · have e1 : b = a := by omega
      have e2 : c = b := by omega
      exact .inr (less_trans l m n (by simpa using h1) (by simpa using h2) (h3.2.resolve_left fun h => h e1) (h4.2.resolve_left fun h => h e2))
    · exact .inl e
theorem less_asymm : ∀ (l m : List Int), less l m = true → less m l = false
  | [], _, h => by simp [less] at h
  | _ :: _, [], h => by simp [less] at h
  | a :: l, b :: m, h => by
    rw [less] at h ⊢
    simp only [Bool.or_eq_true, Bool.and_eq_true, decide_eq_true_eq, beq_iff_eq] at h
    simp only [Bool.or_eq_false_iff, Bool.and_eq_false_iff, decide_eq_false_iff_not, beq_eq_false_iff_ne]
    rcases h with h | ⟨h, h'⟩
    · exact ⟨by omega, .inl (by omega)⟩
    · exact ⟨by omega, .inr (less_asymm l m h')⟩
def Ele (a b : Event) : Prop := less b.row a.row = false
theorem insert_perm (e : Event) : ∀ l : List Event, (Sw70.insert e l).Perm (e :: l)
  | [] => List.Perm.refl _
  | d :: l => by
    rw [Sw70.insert]
    split
    · exact List.Perm.refl _
    · exact ((insert_perm e l).cons d).trans (List.Perm.swap e d l)
theorem row_len (e : Event) : e.row.length = 5 := rfl
theorem insert_sorted (e : Event) : ∀ l : List Event, l.Pairwise Ele → (Sw70.insert e l).Pairwise Ele
  | [], _ => by simp [Sw70.insert]
  | d :: l, h => by
    obtain ⟨h1, h2⟩ := List.pairwise_cons.mp h
    rw [Sw70.insert]
    by_cases c : less e.row d.row = true
    · rw [if_pos c]
      refine List.pairwise_cons.mpr ⟨fun k hk => ?_, h⟩
      rcases List.mem_cons.mp hk with rfl | hk
      · exact less_asymm _ _ c
      · exact less_trans e.row d.row k.row rfl rfl (less_asymm _ _ c) (h1 k hk)
    · rw [if_neg c]
      refine List.pairwise_cons.mpr ⟨fun k hk => ?_, insert_sorted e l h2⟩
      rcases List.mem_cons.mp ((insert_perm e l).mem_iff.mp hk) with rfl | hk
      · show less k.row d.row = false
        simpa using c
      · exact h1 k hk
theorem fold_perm : ∀ (l acc : List Event), (l.foldl (fun l e => Sw70.insert e l) acc).Perm (l ++ acc)
  | [], acc => List.Perm.refl _
  | e :: l, acc => by
    rw [List.foldl_cons]
    refine (fold_perm l _).trans ?_
    refine ((insert_perm e acc).append_left l).trans ?_
    exact List.perm_middle
theorem fold_sorted : ∀ (l acc : List Event), acc.Pairwise Ele → (l.foldl (fun l e => Sw70.insert e l) acc).Pairwise Ele
  | [], acc, h => h
  | e :: l, acc, h => by
    rw [List.foldl_cons]
    exact fold_sorted l _ (insert_sorted e acc h)
theorem ev_mem {S : List Sound} {a : Event} (h : a ∈ S.flatMap eventsOf) : ∃ x ∈ S, a.note = x.note ∧ ((a = ⟨nearest x.on, 1, x.voice, x.pitch, x.loud, x.note⟩) ∨ (a = ⟨nearest x.off, 0, x.voice, x.pitch, 0, x.note⟩)) := by
  obtain ⟨x, hx, ha⟩ := List.mem_flatMap.mp h
  unfold eventsOf at ha
  split at ha
  · simp at ha
  · rcases List.mem_cons.mp ha with rfl | ha
    · exact ⟨x, hx, rfl, .inl rfl⟩
    · rw [List.mem_singleton] at ha
      subst ha
      exact ⟨x, hx, rfl, .inr rfl⟩
theorem events_ok {p : Piece} {T : List Event} (hp : T.Perm (p.sounds.flatMap eventsOf)) (hs : T.Pairwise Ele) : T = p.events := by
  have nums : p.sounds.Pairwise fun a b => a.note < b.note := by
    rw [sounds_eq, plain_eq, List.pairwise_map, List.pairwise_map]
    exact pls_nums p
  have uniq : ∀ x ∈ p.sounds, ∀ y ∈ p.sounds, x.note = y.note → x = y := by
    intro x hx y hy e
    obtain ⟨i, hi, rfl⟩ := List.getElem_of_mem hx
    obtain ⟨j, hj, rfl⟩ := List.getElem_of_mem hy
    have q : i = j := by
      by_cases c : i < j
      · have := List.pairwise_iff_getElem.mp nums i j hi hj c
        omega
      · by_cases d : j < i
        · have := List.pairwise_iff_getElem.mp nums j i hj hi d
          omega
        · omega
    subst q
    rfl
  unfold Piece.events
  have q1 := fold_perm (p.sounds.flatMap eventsOf) []
  rw [List.append_nil] at q1
  refine List.Perm.eq_of_pairwise (le := Ele) (fun a b ha hb h1 h2 => ?_) hs (fold_sorted _ [] List.Pairwise.nil) (hp.trans q1.symm)
  have er : a.row = b.row := less_total _ _ rfl h2 h1
  obtain ⟨x, hx, ax, a1⟩ := ev_mem (hp.mem_iff.mp ha)
  obtain ⟨y, hy, by_, b1⟩ := ev_mem (q1.mem_iff.mp hb)
  unfold Event.row at er
  injection er with e1 er
  injection er with e2 er
  injection er with e3 er
  injection er with e4 er
  injection er with e5 _
  have exy : x = y := uniq x hx y hy (by omega)
  subst exy
  rcases a1 with a1 | a1 <;> rcases b1 with b1 | b1
  · rw [a1, b1]
  · rw [a1, b1] at e2
    exact absurd (show ((1 : Nat) : Int) = ((0 : Nat) : Int) from e2) (by decide)
  · rw [a1, b1] at e2
    exact absurd (show ((0 : Nat) : Int) = ((1 : Nat) : Int) from e2) (by decide)
  · rw [a1, b1]
end XM
namespace XM
open Sw70
/-! ### marks -/
theorem putMark_mem (m : Mark) : ∀ (l : List Mark), Inc l → ∀ k, k ∈ putMark m l ↔ k = m ∨ (k ∈ l ∧ k.tick ≠ m.tick)
  | [], _, k => by simp [putMark]
  | x :: l, h, k => by
    obtain ⟨h1, h2⟩ := List.pairwise_cons.mp h
    rw [putMark]
    by_cases c : m.tick < x.tick
    · rw [if_pos c]
      constructor
      · intro hk
        rcases List.mem_cons.mp hk with hk | hk
        · exact .inl hk
        · refine .inr ⟨hk, ?_⟩
          rcases List.mem_cons.mp hk with rfl | hk
          · omega
          · have := h1 k hk
            omega
      · rintro (hk | hk)
        · exact List.mem_cons.mpr (.inl hk)
        · exact List.mem_cons.mpr (.inr hk.1)
    · rw [if_neg c]
      by_cases e : m.tick = x.tick
      · rw [if_pos e]
        constructor
        · intro hk
          rcases List.mem_cons.mp hk with hk | hk
          · exact .inl hk
          · have := h1 k hk
            exact .inr ⟨List.mem_cons_of_mem _ hk, by omega⟩
        · rintro (hk | ⟨hk, hn⟩)
          · exact List.mem_cons.mpr (.inl hk)
          · rcases List.mem_cons.mp hk with rfl | hk
            · exact absurd e.symm hn
            · exact List.mem_cons_of_mem _ hk
      · rw [if_neg e]
        rw [List.mem_cons, putMark_mem m l h2 k, List.mem_cons]
        constructor
        · rintro (hk | hk | ⟨hk, hn⟩)
          · subst hk
            exact .inr ⟨.inl rfl, fun q => e q.symm⟩
          · exact .inl hk
          · exact .inr ⟨.inr hk, hn⟩
        · rintro (hk | ⟨hk | hk, hn⟩)
          · exact .inr (.inl hk)
          · exact .inl hk
          · exact .inr (.inr ⟨hk, hn⟩)
theorem putMark_inc (m : Mark) : ∀ (l : List Mark), Inc l → Inc (putMark m l)
  | [], _ => by simp [putMark]
  | x :: l, h => by
    obtain ⟨h1, h2⟩ := List.pairwise_cons.mp h
    rw [putMark]
    by_cases c : m.tick < x.tick
    · rw [if_pos c]
      refine List.pairwise_cons.mpr ⟨fun k hk => ?_, h⟩
      rcases List.mem_cons.mp hk with rfl | hk
      · exact c
      · have := h1 k hk
        omega
    · rw [if_neg c]
      by_cases e : m.tick = x.tick
      · rw [if_pos e]
        exact List.pairwise_cons.mpr ⟨fun k hk => by rw [e]; exact h1 k hk, h2⟩
      · rw [if_neg e]
        refine List.pairwise_cons.mpr ⟨fun k hk => ?_, putMark_inc m l h2⟩
        rcases (putMark_mem m l h2 k).mp hk with rfl | ⟨hk, _⟩
        · omega
        · exact h1 k hk
def others (m : Mark) (l : List Mark) : List Mark := l.filter fun x => !decide (x.tick = m.tick)
theorem putMark_perm (m : Mark) : ∀ (l : List Mark), Inc l → (putMark m l).Perm (others m l ++ [m])
  | [], _ => List.Perm.refl _
  | x :: l, h => by
    obtain ⟨h1, h2⟩ := List.pairwise_cons.mp h
    have rest : ∀ (l : List Mark), (∀ k ∈ l, m.tick < k.tick) → others m l = l := fun l hl => by
      unfold others
      refine List.filter_eq_self.mpr fun k hk => ?_
      have := hl k hk
      simp
      omega
    rw [putMark]
    by_cases c : m.tick < x.tick
    · rw [if_pos c]
      have e : others m (x :: l) = x :: l := rest _ fun k hk => by
        rcases List.mem_cons.mp hk with rfl | hk
        · exact c
        · have := h1 k hk
          omega
      rw [e]
      exact (List.perm_append_singleton m (x :: l)).symm
    · rw [if_neg c]
      by_cases e : m.tick = x.tick
      · rw [if_pos e]
        have e2 : others m (x :: l) = l := by
          unfold others
          rw [List.filter_cons, if_neg (by simp [e])]
          exact rest l fun k hk => by have := h1 k hk; omega
        rw [e2]
        exact (List.perm_append_singleton m l).symm
      · rw [if_neg e]
        have e2 : others m (x :: l) = x :: others m l := by
          unfold others
          rw [List.filter_cons, if_pos (by simp; omega)]
        rw [e2, List.cons_append]
        exact (putMark_perm m l h2).cons x
theorem putMark_uniq {m : Mark} {l T : List Mark} (h : Inc l) (hp : T.Perm (others m l ++ [m])) (hs : T.Pairwise fun a b => (a.tick : Int) ≤ b.tick) : T = putMark m l := by
  refine List.Perm.eq_of_pairwise (le := fun a b : Mark => (a.tick : Int) ≤ b.tick) (fun a b ha hb h1 h2 => ?_) hs ((putMark_inc m l h).imp fun h => by omega) (hp.trans (putMark_perm m l h).symm)
  have ha' := (putMark_perm m l h).mem_iff.mpr (hp.mem_iff.mp ha)
  have hi := putMark_inc m l h
  obtain ⟨i, hi1, rfl⟩ := List.getElem_of_mem ha'
  obtain ⟨j, hj1, rfl⟩ := List.getElem_of_mem hb
  have q : i = j := by
    by_cases c : i < j
    · have := List.pairwise_iff_getElem.mp hi i j hi1 hj1 c
      omega
    · by_cases d : j < i
      · have := List.pairwise_iff_getElem.mp hi j i hj1 hi1 d
        omega
      · omega
  subst q
  rfl
theorem putMark_len {m : Mark} {l : List Mark} (h : Inc l) : (putMark m l).length = (others m l).length + 1 := by
  rw [(putMark_perm m l h).length_eq, List.length_append]
  rfl
/-! ### every piece stays as it should be -/
theorem head_zero {l : List Mark} (h : Inc l) {k : Mark} (hk : k ∈ l) (h0 : k.tick = 0) : ∃ m r, l = m :: r ∧ m.tick = 0 := by
  cases l with
  | nil => simp at hk
  | cons m r =>
    refine ⟨m, r, rfl, ?_⟩
    rcases List.mem_cons.mp hk with rfl | hk
    · exact h0
    · have := (List.pairwise_cons.mp h).1 k hk
      omega
theorem pok_init (q : Nat) (h1 : 1 ≤ q) (h2 : q ≤ 960) : POk { Sw70.init with quarter := q } where
  q1 := h1
  q2 := h2
  m0 := ⟨_, _, rfl, rfl⟩
  inc := List.pairwise_singleton _ _
  mok := fun m hm => by
    rw [List.mem_singleton.mp hm]
    exact ⟨by decide, by decide, by decide⟩
  ml := show 1 ≤ 50 by decide
  sw := ⟨fun s hs => by simp [Sw70.init] at hs, fun s hs => by simp [Sw70.init] at hs⟩
  sl := show 0 ≤ 30 by decide
  pe := fun d hd => by simp [Sw70.init] at hd
  pl := show 0 ≤ 30 by decide
  no := fun x hx => by simp [Sw70.init] at hx
  nl := show 0 ≤ 200 by decide
theorem pok_mark {p : Piece} (o : POk p) {m : Mark} (hm : MkOk m) (hl : (putMark m p.marks).length ≤ 50) : POk { p with marks := putMark m p.marks } where
  q1 := o.q1
  q2 := o.q2
  m0 := by
    obtain ⟨k, r, e, e0⟩ := o.m0
    by_cases c : m.tick = 0
    · exact head_zero (putMark_inc m _ o.inc) ((putMark_mem m _ o.inc m).mpr (.inl rfl)) c
    · exact head_zero (putMark_inc m _ o.inc) (k := k) ((putMark_mem m _ o.inc k).mpr (.inr ⟨by rw [e]; simp, by omega⟩)) e0
  inc := putMark_inc m _ o.inc
  mok := fun k hk => by
    rcases (putMark_mem m _ o.inc k).mp hk with rfl | ⟨hk, _⟩
    · exact hm
    · exact o.mok k hk
  ml := hl
  sw := o.sw
  sl := o.sl
  pe := o.pe
  pl := o.pl
  no := o.no
  nl := o.nl
theorem pok_swing {p : Piece} (o : POk p) {s : Swing} (hs : SwOk s) (ha : apart s.low s.high (p.swings.map fun x => (x.low, x.high)) = true) (hl : p.swings.length < 30) : POk { p with swings := p.swings ++ [s] } where
  q1 := o.q1
  q2 := o.q2
  m0 := o.m0
  inc := o.inc
  mok := o.mok
  ml := o.ml
  sw := by
    have ap : ∀ t ∈ p.swings, s.high ≤ t.low ∨ t.high ≤ s.low := fun t ht => by
      have := List.all_eq_true.mp ha (t.low, t.high) (List.mem_map.mpr ⟨t, ht, rfl⟩)
      simpa using this
    refine ⟨fun t ht => ?_, fun t ht u hu ne => ?_⟩
    · rcases List.mem_append.mp ht with ht | ht
      · exact o.sw.ok t ht
      · rw [List.mem_singleton.mp ht]; exact hs
    · rcases List.mem_append.mp ht with ht | ht
      · rcases List.mem_append.mp hu with hu | hu
        · exact o.sw.ap t ht u hu ne
        · rw [List.mem_singleton.mp hu]; exact (ap t ht).symm
      · rw [List.mem_singleton.mp ht] at ne ⊢
        rcases List.mem_append.mp hu with hu | hu
        · exact ap u hu
        · exact absurd (List.mem_singleton.mp hu).symm ne
  sl := by rw [List.length_append]; show _ + 1 ≤ 30; omega
  pe := o.pe
  pl := o.pl
  no := o.no
  nl := o.nl
theorem pok_pedal {p : Piece} (o : POk p) {a b : Nat} (h1 : a < b) (h2 : b ≤ 1000000) (hl : p.pedals.length < 30) : POk { p with pedals := p.pedals ++ [(a, b)] } where
  q1 := o.q1
  q2 := o.q2
  m0 := o.m0
  inc := o.inc
  mok := o.mok
  ml := o.ml
  sw := o.sw
  sl := o.sl
  pe := fun d hd => by
    rcases List.mem_append.mp hd with hd | hd
    · exact o.pe d hd
    · rw [List.mem_singleton.mp hd]; exact ⟨h1, h2⟩
  pl := by rw [List.length_append]; show _ + 1 ≤ 30; omega
  no := o.no
  nl := o.nl
theorem pok_note {p : Piece} (o : POk p) {x : Note} (h : NoOk x) (hl : p.notes.length < 200) : POk { p with notes := p.notes ++ [x] } where
  q1 := o.q1
  q2 := o.q2
  m0 := o.m0
  inc := o.inc
  mok := o.mok
  ml := o.ml
  sw := o.sw
  sl := o.sl
  pe := o.pe
  pl := o.pl
  no := fun d hd => by
    rcases List.mem_append.mp hd with hd | hd
    · exact o.no d hd
    · rw [List.mem_singleton.mp hd]; exact h
  nl := by rw [List.length_append]; show _ + 1 ≤ 200; omega
theorem moved_zero {p : Piece} (o : POk p) : p.moved 0 = p := by
  obtain ⟨m, l, e, _⟩ := o.m0
  unfold Piece.moved
  have e1 : (p.swings.map fun s => { s with low := s.low + 0, high := s.high + 0 }) = p.swings := List.map_id' p.swings
  have e2 : (p.pedals.map fun x => (x.1 + 0, x.2 + 0)) = p.pedals := List.map_id' p.pedals
  have e3 : (p.notes.map fun x => { x with start := x.start + 0 }) = p.notes := List.map_id' p.notes
  rw [e1, e2, e3, e]
  show (Piece.mk p.quarter (if 0 = 0 then m :: l else _) p.swings p.pedals p.notes) = p
  rw [if_pos rfl, ← e]
theorem moved_marks {p : Piece} (o : POk p) {d : Nat} (hd : d ≠ 0) : ∃ m l, p.marks = m :: l ∧ (p.moved d).marks = ⟨0, m.quarter, false⟩ :: p.marks.map fun x => { x with tick := x.tick + d } := by
  obtain ⟨m, l, e, _⟩ := o.m0
  refine ⟨m, l, e, ?_⟩
  unfold Piece.moved
  rw [e]
  show (if d = 0 then _ else _) = _
  rw [if_neg hd]
theorem room_iff {p : Piece} {d : Nat} : p.room d = true ↔ (∀ m ∈ p.marks, m.tick + d ≤ 1000000) ∧ (∀ s ∈ p.swings, s.high + d ≤ 1000000) ∧ (∀ x ∈ p.pedals, x.2 + d ≤ 1000000) ∧ ∀ x ∈ p.notes, x.start + x.long + d ≤ 1000000 := by
  unfold Piece.room
  simp only [Bool.and_eq_true, List.all_eq_true, decide_eq_true_eq]
  exact Iff.rfl
theorem pok_moved {p : Piece} (o : POk p) {d : Nat} (hr : p.room d = true) (hl : (p.moved d).marks.length ≤ 50) : POk (p.moved d) := by
  by_cases hd : d = 0
  · subst hd
    rw [moved_zero o]
    exact o
  obtain ⟨m, l, e, em⟩ := moved_marks o hd
  obtain ⟨r1, r2, r3, r4⟩ := room_iff.mp hr
  have mm := o.mok
  refine ⟨o.q1, o.q2, ⟨_, _, em, rfl⟩, ?_, ?_, hl, ⟨?_, ?_⟩, ?_, ?_, ?_, ?_, ?_⟩
  · rw [em]
    refine List.pairwise_cons.mpr ⟨fun k hk => ?_, ?_⟩
    · obtain ⟨j, _, rfl⟩ := List.mem_map.mp hk
      show 0 < j.tick + d
      omega
    · rw [List.pairwise_map]
      exact o.inc.imp fun h => by show _ + d < _ + d; omega
  · intro k hk
    rw [em] at hk
    rcases List.mem_cons.mp hk with rfl | hk
    · have := mm m (by rw [e]; simp)
      exact ⟨Nat.zero_le _, this.q1, this.q2⟩
    · obtain ⟨j, hj, rfl⟩ := List.mem_map.mp hk
      have := mm j hj
      exact ⟨r1 j hj, this.q1, this.q2⟩
  · intro s hs
    obtain ⟨t, ht, rfl⟩ := List.mem_map.mp (show s ∈ p.swings.map _ from hs)
    have := o.sw.ok t ht
    refine ⟨by show t.low + d < t.high + d; have := this.lt; omega, r2 t ht, this.pair, this.even, ?_, this.a1, this.a2, this.b1, this.b2⟩
    show (t.high + d - (t.low + d)) % t.pair = 0
    rw [show t.high + d - (t.low + d) = t.high - t.low by omega]
    exact this.fit
  · intro s hs t ht ne
    obtain ⟨s', hs', rfl⟩ := List.mem_map.mp (show s ∈ p.swings.map _ from hs)
    obtain ⟨t', ht', rfl⟩ := List.mem_map.mp (show t ∈ p.swings.map _ from ht)
    have := o.sw.ap s' hs' t' ht' (fun q => ne (by rw [q]))
    show s'.high + d ≤ t'.low + d ∨ t'.high + d ≤ s'.low + d
    omega
  · show (p.swings.map _).length ≤ 30
    rw [List.length_map]
    exact o.sl
  · intro x hx
    obtain ⟨y, hy, rfl⟩ := List.mem_map.mp (show x ∈ p.pedals.map _ from hx)
    have := o.pe y hy
    exact ⟨by show y.1 + d < y.2 + d; omega, r3 y hy⟩
  · show (p.pedals.map _).length ≤ 30
    rw [List.length_map]
    exact o.pl
  · intro x hx
    obtain ⟨y, hy, rfl⟩ := List.mem_map.mp (show x ∈ p.notes.map _ from hx)
    have := o.no y hy
    have r := r4 y hy
    exact ⟨this.v, this.k, this.l1, by show y.start + d + y.long ≤ _; omega, this.d1, this.d2, this.p1, this.p2⟩
  · show (p.notes.map _).length ≤ 200
    rw [List.length_map]
    exact o.nl
theorem pok_step {p : Piece} (o : POk p) (c : Sw70.Call) : POk (Sw70.step p c).1 := by
  cases c with
  | begins q =>
    unfold Sw70.step
    show POk (if q < 1 ∨ 960 < q then (p, ok (-1)) else ({ Sw70.init with quarter := q }, ok 0)).1
    split
    · exact o
    · exact pok_init q (by omega) (by omega)
  | mark m =>
    unfold Sw70.step
    show POk (if markOk m = false then (p, ok (-1)) else if MARKS < (putMark m p.marks).length then (p, ok (-5)) else ({ p with marks := putMark m p.marks }, ok ((putMark m p.marks).length : Nat))).1
    split
    · exact o
    · rename_i h
      split
      · exact o
      · rename_i h2
        exact pok_mark o (mkOk_of.mp (by simpa using h)) (by unfold MARKS at h2; omega)
  | swing s =>
    unfold Sw70.step
    show POk (if swingOk s = false then (p, ok (-1)) else if apart s.low s.high (p.swings.map fun x => (x.low, x.high)) = false then (p, ok (-3)) else if SPANS ≤ p.swings.length then (p, ok (-5)) else ({ p with swings := p.swings ++ [s] }, ok ((p.swings.length : Nat) + 1))).1
    split
    · exact o
    · rename_i h
      split
      · exact o
      · rename_i h2
        split
        · exact o
        · rename_i h3
          exact pok_swing o (swOk_of.mp (by simpa using h)) (by simpa using h2) (by unfold SPANS at h3; omega)
  | pedal a b =>
    unfold Sw70.step
    show POk (if b ≤ a ∨ LAST < b then (p, ok (-1)) else if apart a b p.pedals = false then (p, ok (-3)) else if SPANS ≤ p.pedals.length then (p, ok (-5)) else ({ p with pedals := p.pedals ++ [(a, b)] }, ok ((p.pedals.length : Nat) + 1))).1
    split
    · exact o
    · rename_i h
      split
      · exact o
      · split
        · exact o
        · rename_i h3
          exact pok_pedal o (by omega) (by unfold LAST at h; omega) (by unfold SPANS at h3; omega)
  | note x =>
    unfold Sw70.step
    show POk (if noteOk x = false then (p, ok (-1)) else if NOTES ≤ p.notes.length then (p, ok (-5)) else ({ p with notes := p.notes ++ [x] }, ok (p.notes.length : Nat))).1
    split
    · exact o
    · rename_i h
      split
      · exact o
      · rename_i h2
        exact pok_note o (noOk_of.mp (by simpa using h)) (by unfold NOTES at h2; omega)
  | time x =>
    unfold Sw70.step
    show POk (if LAST < x then (p, ok (-1)) else (p, (⟨0, [fraction (p.time (rat x))]⟩ : Ans))).1
    split <;> exact o
  | at_ t => exact o
  | sounds => exact o
  | events => exact o
  | moved d =>
    unfold Sw70.step
    show POk (if p.room d = false then (p, ok (-1)) else if MARKS < (p.moved d).marks.length then (p, ok (-5)) else (p.moved d, ok 0)).1
    split
    · exact o
    · rename_i h
      split
      · exact o
      · rename_i h2
        exact pok_moved o (by simpa using h) (by unfold MARKS at h2; omega)
end XM
namespace XM
open Sw70
/-! ### a line, call by call -/
theorem whole_id (c : List (List Int)) : PySw70.whole c = c := by
  unfold PySw70.whole
  split <;> rfl
theorem calls_nil (sh : Int → Option (Nat × Nat)) (f : Nat) : PyFlat.calls sh f [] = some [] := by
  cases f <;> rfl
theorem calls_cons {f : Nat} {p : Int} {r : List Int} {cs : List (List (List Int))} (h : PyFlat.calls PySw70.shape f (p :: r) = some cs) :
    ∃ g n cs', f = g + 1 ∧ PySw70.shape p = some (n, 0) ∧ n ≤ r.length ∧ cs = [p :: r.take n] :: cs' ∧ PyFlat.calls PySw70.shape g (r.drop n) = some cs' := by
  cases f with
  | zero => simp [PyFlat.calls] at h
  | succ g =>
    rw [PyFlat.calls] at h
    cases e : PyFlat.call PySw70.shape (p :: r) with
    | none => rw [e] at h; cases h
    | some q =>
      obtain ⟨c, t⟩ := q
      rw [e] at h
      unfold PyFlat.call at e
      have e : (match PySw70.shape p with
        | none => none
        | some (n, k) => if r.length < n then none else match PyFlat.rows k (r.drop n) with
          | none => none
          | some (xs, t) => some ((p :: r.take n) :: xs, t)) = some (c, t) := e
      have h : (match PyFlat.calls PySw70.shape g t with
        | none => none
        | some cs => some (c :: cs)) = some cs := h
      cases es : PySw70.shape p with
      | none => rw [es] at e; cases e
      | some nk =>
        obtain ⟨n, k⟩ := nk
        have hk : k = 0 := by
          unfold PySw70.shape at es
          repeat' (first | (split at es <;> first | (cases es; rfl) | skip) | cases es)
        subst hk
        rw [es] at e
        have e : (if r.length < n then none else some ([p :: r.take n], r.drop n)) = some (c, t) := e
        by_cases hn : r.length < n
        · rw [if_pos hn] at e; cases e
        · rw [if_neg hn] at e
          cases e
          cases ec : PyFlat.calls PySw70.shape g (r.drop n) with
          | none => rw [ec] at h; cases h
          | some cs' =>
            rw [ec] at h
            exact ⟨g, n, cs', rfl, rfl, by omega, (Option.some.inj h).symm, ec⟩
abbrev stepL : Piece → List (List Int) → Piece × List Int := fun s c => Sw70Neutral.step s (c.headD [])
/-- what is still to come of the line l behind start, from the piece s, with G answered -/
structure Rest (l : List Int) (start : Nat) (s : Piece) (G : List Int) : Prop where
  pok : POk s
  le : start ≤ l.length
  ex : ∃ f cs, PyFlat.calls PySw70.shape f (l.drop start) = some cs ∧ (∀ c ∈ cs, (Sw70Neutral.callOf (c.headD [])).isSome = true) ∧
    PySw70.answers l = G ++ PyFlat.told (PyFlat.played stepL s cs) ∧ G.length + cs.length + Sw70Neutral.many s (cs.map fun c => c.headD []) ≤ 1000250
theorem map_whole (cs : List (List (List Int))) : cs.map PySw70.whole = cs := by
  have : PySw70.whole = id := funext whole_id
  rw [this, List.map_id]
theorem Rest.start {l : List Int} (h : PySw70.answers_asked l = true) : Rest l 0 Sw70.init [] := by
  have o : POk Sw70.init := pok_init 480 (by decide) (by decide)
  refine ⟨o, Nat.zero_le _, ?_⟩
  unfold PySw70.answers_asked PySw70.calls at h
  cases e : PyFlat.calls PySw70.shape l.length l with
  | none => rw [e] at h; cases h
  | some cs =>
    rw [e] at h
    have h : (PyFlat.atMost 250 (cs.map PySw70.whole) && Sw70Neutral.asked ((cs.map PySw70.whole).map fun c => c.headD [])) = true := h
    rw [map_whole] at h
    unfold Sw70Neutral.asked at h
    simp only [Bool.and_eq_true, decide_eq_true_eq, List.all_eq_true, List.length_map] at h
    obtain ⟨h1, h2, h3, h4, h5⟩ := h
    refine ⟨l.length, cs, e, fun c hc => h2 _ (List.mem_map.mpr ⟨c, hc, rfl⟩), ?_, ?_⟩
    · unfold PySw70.answers PySw70.calls
      rw [e]
      show PyFlat.told (PyFlat.played stepL Sw70Neutral.start (cs.map PySw70.whole)) = _
      rw [map_whole]
      rfl
    · have h5 : Sw70Neutral.many Sw70.init (cs.map fun c => c.headD []) ≤ 1000000 := h5
      show 0 + cs.length + _ ≤ _
      omega
theorem Rest.done {l : List Int} {start : Nat} {s : Piece} {G : List Int} (R : Rest l start s G) (h : ¬ start < l.length) : PySw70.answers l = G := by
  obtain ⟨f, cs, e, _, h2, _⟩ := R.ex
  rw [List.drop_of_length_le (by omega), calls_nil] at e
  have e := Option.some.inj e
  subst e
  rw [h2]
  show G ++ [] = G
  exact List.append_nil G
theorem drop_cons {l : List Int} {i : Nat} (h : i < l.length) : l.drop i = l[i] :: l.drop (i + 1) := List.drop_eq_getElem_cons h
theorem Rest.turn {l : List Int} {start : Nat} {s : Piece} {G : List Int} (R : Rest l start s G) (h : start < l.length) :
    ∃ n c, PySw70.shape l[start] = some (n, 0) ∧ start + 1 + n ≤ l.length ∧ Sw70Neutral.callOf (l[start] :: (l.drop (start + 1)).take n) = some c ∧
      G.length + 1 + (Sw70Neutral.out (Sw70.step s c).2).length ≤ 1000250 ∧ Rest l (start + 1 + n) (Sw70.step s c).1 (G ++ ((Sw70Neutral.out (Sw70.step s c).2).length : Int) :: Sw70Neutral.out (Sw70.step s c).2) := by
  obtain ⟨f, cs, e, h1, h2, h3⟩ := R.ex
  rw [drop_cons h] at e
  obtain ⟨g, n, cs', rfl, es, hn, rfl, e'⟩ := calls_cons e
  rw [List.length_drop] at hn
  have q := h1 _ List.mem_cons_self
  obtain ⟨c, hc⟩ := Option.isSome_iff_exists.mp q
  have hc : Sw70Neutral.callOf (l[start] :: (l.drop (start + 1)).take n) = some c := hc
  have hst : stepL s [l[start] :: (l.drop (start + 1)).take n] = ((Sw70.step s c).1, Sw70Neutral.out (Sw70.step s c).2) := by
    show Sw70Neutral.step s (l[start] :: (l.drop (start + 1)).take n) = _
    unfold Sw70Neutral.step
    rw [hc]
  have hm : Sw70Neutral.many s (([l[start] :: (l.drop (start + 1)).take n] :: cs').map fun c => c.headD []) = (Sw70Neutral.out (Sw70.step s c).2).length + Sw70Neutral.many (Sw70.step s c).1 (cs'.map fun c => c.headD []) := by
    show (stepL s [l[start] :: (l.drop (start + 1)).take n]).2.length + Sw70Neutral.many (stepL s [l[start] :: (l.drop (start + 1)).take n]).1 _ = _
    rw [hst]
  rw [hm, List.length_cons] at h3
  refine ⟨n, c, es, by omega, hc, by omega, pok_step R.pok c, by omega, g, cs', ?_, fun d hd => h1 d (List.mem_cons_of_mem _ hd), ?_, ?_⟩
  · rw [List.drop_drop] at e'
    rw [show start + 1 + n = start + 1 + n from rfl]
    exact e'
  · rw [h2]
    have : PyFlat.told (PyFlat.played stepL s ([l[start] :: (l.drop (start + 1)).take n] :: cs')) = ((Sw70Neutral.out (Sw70.step s c).2).length : Int) :: Sw70Neutral.out (Sw70.step s c).2 ++ PyFlat.told (PyFlat.played stepL (Sw70.step s c).1 cs') := by
      show PyFlat.told ((stepL s [l[start] :: (l.drop (start + 1)).take n]).2 :: PyFlat.played stepL (stepL s [l[start] :: (l.drop (start + 1)).take n]).1 cs') = _
      rw [hst]
      unfold PyFlat.told
      rw [List.flatMap_cons]
    rw [this, List.append_assoc]
  · rw [List.length_append, List.length_cons]
    omega
/-! ### what a call is -/
inductive Told : Int → List Int → Sw70.Call → Prop
  | begins (q : Nat) : Told 0 [(q : Int)] (.begins q)
  | mark (t q : Nat) (e : Bool) : Told 1 [(t : Int), (q : Int), if e then 1 else 0] (.mark ⟨t, q, e⟩)
  | swing (f l p a b : Nat) : Told 2 [(f : Int), (l : Int), (p : Int), (a : Int), (b : Int)] (.swing ⟨f, l, p, a, b⟩)
  | pedal (a b : Nat) : Told 3 [(a : Int), (b : Int)] (.pedal a b)
  | note (v k s n d p : Nat) (t : Bool) : Told 4 [(v : Int), (k : Int), (s : Int), (n : Int), (d : Int), (p : Int), if t then 1 else 0] (.note ⟨v, k, s, n, d, p, t⟩)
  | time (x : Nat) (h : x < 2 ^ 32) : Told 5 [(x : Int)] (.time x)
  | at_ (t : Nat) (h : t < 2 ^ 32) : Told 6 [(t : Int)] (.at_ t)
  | sounds : Told 7 [] .sounds
  | events : Told 8 [] .events
  | moved (d : Nat) : Told 9 [(d : Int)] (.moved d)
theorem nat_of {z : Int} (h : Sw70Neutral.nat z = true) : (z.toNat : Int) = z ∧ z.toNat < 2 ^ 32 := by
  simp only [Sw70Neutral.nat, Bool.and_eq_true, decide_eq_true_eq] at h
  omega
theorem bit_of {z : Int} (h : Sw70Neutral.bit z = true) : (if (z == 1) = true then (1 : Int) else 0) = z := by
  simp only [Sw70Neutral.bit, Bool.or_eq_true, beq_iff_eq] at h
  rcases h with rfl | rfl <;> rfl
theorem told_of {p : Int} {xs : List Int} {c : Sw70.Call} (h : Sw70Neutral.callOf (p :: xs) = some c) : Told p xs c := by
  unfold Sw70Neutral.callOf at h
  by_cases ha : (p :: xs).all Sw70Neutral.nat = false
  · rw [if_pos ha] at h; cases h
  rw [if_neg ha] at h
  have ha : ∀ z ∈ p :: xs, Sw70Neutral.nat z = true := List.all_eq_true.mp (by simpa using ha)
  split at h
  · rename_i q e
    cases e; cases h
    have := Told.begins q.toNat
    rw [(nat_of (ha q (by simp))).1] at this
    exact this
  · rename_i t q e heq
    cases heq
    by_cases hb : Sw70Neutral.bit e = true
    · rw [if_pos hb] at h
      cases h
      have := Told.mark t.toNat q.toNat (e == 1)
      rw [(nat_of (ha t (by simp))).1, (nat_of (ha q (by simp))).1, bit_of hb] at this
      exact this
    · rw [if_neg hb] at h; cases h
  · rename_i a b p x y heq
    cases heq; cases h
    have := Told.swing a.toNat b.toNat p.toNat x.toNat y.toNat
    rw [(nat_of (ha a (by simp))).1, (nat_of (ha b (by simp))).1, (nat_of (ha p (by simp))).1, (nat_of (ha x (by simp))).1, (nat_of (ha y (by simp))).1] at this
    exact this
  · rename_i a b heq
    cases heq; cases h
    have := Told.pedal a.toNat b.toNat
    rw [(nat_of (ha a (by simp))).1, (nat_of (ha b (by simp))).1] at this
    exact this
  · rename_i v k s n d p t heq
    cases heq
    by_cases hb : Sw70Neutral.bit t = true
    · rw [if_pos hb] at h
      cases h
      have := Told.note v.toNat k.toNat s.toNat n.toNat d.toNat p.toNat (t == 1)
      rw [(nat_of (ha v (by simp))).1, (nat_of (ha k (by simp))).1, (nat_of (ha s (by simp))).1, (nat_of (ha n (by simp))).1, (nat_of (ha d (by simp))).1, (nat_of (ha p (by simp))).1, bit_of hb] at this
      exact this
    · rw [if_neg hb] at h; cases h
  · rename_i x heq
    cases heq; cases h
    have z := nat_of (ha x (by simp))
    have := Told.time x.toNat z.2
    rw [z.1] at this
    exact this
  · rename_i x heq
    cases heq; cases h
    have z := nat_of (ha x (by simp))
    have := Told.at_ x.toNat z.2
    rw [z.1] at this
    exact this
  · rename_i heq
    cases heq; cases h
    exact Told.sounds
  · rename_i heq
    cases heq; cases h
    exact Told.events
  · rename_i x heq
    cases heq; cases h
    have := Told.moved x.toNat
    rw [(nat_of (ha x (by simp))).1] at this
    exact this
  · cases h
end XM
namespace XM
open Sw70
theorem Frac.le_top {x : Rat} {u l n : Int} (f : Frac x u l) (h : x ≤ (n : Rat)) : u ≤ n * l := by
  rw [← Rat.intCast_le_intCast, Rat.intCast_mul, f.eq]
  exact Rat.mul_le_mul_of_nonneg_right h (Rat.le_of_lt f.posQ)
theorem Frac.gt_iff {x : Rat} {u l : Int} (f : Frac x u l) (n : Int) : (n : Rat) < x ↔ n * l < u := by
  rw [← Rat.intCast_lt_intCast, Rat.intCast_mul, f.eq]
  exact (Rat.mul_lt_mul_right f.posQ).symm
theorem drop_two {l : List Mark} {i : Nat} {m n : Mark} (h1 : l[i]? = some m) (h2 : l[i + 1]? = some n) : ∃ r, l.drop i = m :: n :: r ∧ l.drop (i + 1) = n :: r := by
  obtain ⟨a1, a2⟩ := List.getElem?_eq_some_iff.mp h1
  obtain ⟨b1, b2⟩ := List.getElem?_eq_some_iff.mp h2
  refine ⟨l.drop (i + 2), ?_, ?_⟩
  · rw [List.drop_eq_getElem_cons a1, List.drop_eq_getElem_cons b1, a2, b2]
  · rw [List.drop_eq_getElem_cons b1, b2]
theorem strs_turn {l : List Mark} {i : Nat} {m n : Mark} {p : Int} (h1 : l[i]? = some m) (h2 : l[i + 1]? = some n) :
    strs4 p (l.drop i) = ⟨m.tick, m.quarter, rise m n, (n.tick : Int) - m.tick, p⟩ :: strs4 (p + (2 * (m.quarter : Int) + rise m n) * ((n.tick : Int) - m.tick)) (l.drop (i + 1)) := by
  obtain ⟨r, e1, e2⟩ := drop_two h1 h2
  rw [e1, e2, strs4]
theorem strs_last {l : List Mark} {i : Nat} {m : Mark} {p : Int} (h1 : l[i]? = some m) (h2 : i + 1 = l.length) : strs4 p (l.drop i) = [⟨m.tick, m.quarter, 0, 1, p⟩] := by
  obtain ⟨a1, a2⟩ := List.getElem?_eq_some_iff.mp h1
  rw [List.drop_eq_getElem_cons a1, List.drop_of_length_le (by omega), a2, strs4]
structure StOk (s : Str4) : Prop where
  t0 : 0 ≤ s.tick
  t1 : s.tick ≤ 1000000
  l0 : 1 ≤ s.len
  l1 : s.len ≤ 10000000
  r0 : -10000000 ≤ s.rise
  r1 : s.rise ≤ 10000000
  o0 : 0 < s.over
  o1 : s.over ≤ 1000000
theorem rise_in {m n : Mark} (hm : MkOk m) (hn : MkOk n) : -10000000 ≤ rise m n ∧ rise m n ≤ 10000000 := by
  have := hm.q1
  have := hm.q2
  have := hn.q1
  have := hn.q2
  unfold rise
  split <;> omega
theorem strs_ok : ∀ (l : List Mark) (p : Int) (s : Str4), Inc l → (∀ m ∈ l, MkOk m) → s ∈ strs4 p l → StOk s
  | [], _, s, _, _, h => by simp [strs4] at h
  | [m], p, s, _, hm, h => by
    simp [strs4] at h
    have := hm m (by simp)
    have h1 := this.t
    have h2 := this.q1
    have h3 := this.q2
    subst h
    exact ⟨by show (0 : Int) ≤ m.tick; omega, by show (m.tick : Int) ≤ _; omega, by show (1 : Int) ≤ m.quarter; omega, by show (m.quarter : Int) ≤ _; omega, by show (-10000000 : Int) ≤ 0; decide, by show (0 : Int) ≤ _; decide, by show (0 : Int) < 1; decide, by show (1 : Int) ≤ _; decide⟩
  | m :: n :: l, p, s, hi, hm, h => by
    rw [strs4, List.mem_cons] at h
    rcases h with h | h
    · have a := hm m (by simp)
      have b := hm n (by simp)
      have h1 := a.t
      have h2 := a.q1
      have h3 := a.q2
      have h4 := b.t
      have h5 := (List.pairwise_cons.mp hi).1 n (by simp)
      have h6 := rise_in a b
      subst h
      exact ⟨by show (0 : Int) ≤ m.tick; omega, by show (m.tick : Int) ≤ _; omega, by show (1 : Int) ≤ m.quarter; omega, by show (m.quarter : Int) ≤ _; omega, h6.1, h6.2, by show (0 : Int) < n.tick - m.tick; omega, by show (n.tick : Int) - m.tick ≤ _; omega⟩
    · exact strs_ok (n :: l) _ s (List.pairwise_cons.mp hi).2 (fun k hk => hm k (List.mem_cons_of_mem _ hk)) h
theorem pickI_append (u l : Int) : ∀ (a b : List Str4) (f : Str4), pickI u l f (a ++ b) = pickI u l (pickI u l f a) b
  | [], _, _ => rfl
  | s :: a, b, f => by
    rw [List.cons_append, pickI, pickI, pickI_append u l a b]
theorem pickI_snoc (u l : Int) (a : List Str4) (s f : Str4) : pickI u l f (a ++ [s]) = if s.tick * l ≤ u then s else pickI u l f a := by
  rw [pickI_append]
  rfl
theorem strs_ne {m : Mark} {l : List Mark} {p : Int} : ∃ s r, strs4 p (m :: l) = s :: r := by
  cases l with
  | nil => exact ⟨_, _, rfl⟩
  | cons n l => exact ⟨_, _, rfl⟩
theorem tden_lt {s : Str4} {l q : Int} (o : StOk s) (h0 : 0 < l) (h1 : l ≤ 4000) (q0 : 0 < q) (q1 : q ≤ 960) : tden s l q < 2 ^ 62 := by
  unfold tden
  have a := o.o0
  have b := o.o1
  have e1 : 2 * l ≤ 8000 := by omega
  have e2 : 2 * l * l ≤ 8000 * 4000 := Int.mul_le_mul e1 h1 (by omega) (by decide)
  have e2' : 0 ≤ 2 * l * l := Int.mul_nonneg (by omega) (by omega)
  have e3 : 2 * l * l * s.over ≤ 8000 * 4000 * 1000000 := Int.mul_le_mul e2 b (by omega) (by decide)
  have e3' : 0 ≤ 2 * l * l * s.over := Int.mul_nonneg e2' (by omega)
  have e4 : 2 * l * l * s.over * q ≤ 8000 * 4000 * 1000000 * 960 := Int.mul_le_mul e3 q1 (by omega) (by decide)
  omega
end XM
namespace L2
open PySem PySem.Spec PyProof.Rows
/-! ### more rules: a module's constant; // by a greater number; setdefault; sorted by a key -/
section
variable {X : Cx}
theorem pgc {x : Str} {n : Int} {pos : Pos} (hg : Gl X x) (h : ∃ t, X.mg x = some (Value.int n t)) (hd : (x == ("__debug__" : Str)) = false := by decide) : PE X (.Name x pos) (tC (.int n)) := by
  obtain ⟨t, e⟩ := h
  exact pe_glob hg e ⟨t, rfl⟩ hd
def CDivB (i j : Int) : Prop := 0 < j ∧ j < 2 ^ 64
theorem cdivB_log {j : Int} (h : 0 < j ∧ j < 2 ^ 64) : j.natAbs.log2 < 9000 := by
  have h1 : j.natAbs < 2 ^ 64 := by omega
  have h2 : j.natAbs ≠ 0 := by omega
  have := (Nat.log2_lt h2).mpr h1
  omega
theorem op_fdivB : OpR X (binaryOp .FloorDiv) (rI CDivB fun i j => .int (i / j)) := opI fun i j _ _ _ _ _ hc q => by
  refine floordiv_int (Int.ne_of_gt hc.1) ?_ (.inl (PyProof.noPylong_of_log2 (cdivB_log hc)))
  rw [Int.fdiv_eq_ediv_of_nonneg _ (Int.le_of_lt hc.1)]
  exact q
end
section
variable {prog : Program} {w : World} {K : Type} [DecidableEq K] {knd : HeapKind prog w K} {A : Around} {E : Value → Shared → Prop} {s : Shared}
theorem wp_setd {d a : Addr} {xs : List (K × Addr × Value)} {k : K} {v : Value} {Q : Value → Shared → Prop} (hu : knd.room A) (hkey : knd.is s.heap k a) (hm : s.heap.DictOfH knd d xs)
    (hold : ∀ p, atKey xs k = some p → Q p.2 { s with toks := s.toks + knd.draws k })
    (hnew : atKey xs k = none → ∀ h', h'.DictOfH knd d (storedH xs k a v) → Heap.SameBut d s.heap h' → Q v { s with heap := h', toks := s.toks + knd.draws k })
    (hsz : xs.length ≤ sizeLine) : wpAny (model prog w) A (dictSetDefault d (.ref a) v) Q E s := by
  obtain ⟨o, es, ep, ho, hc, hd, he, his, hn⟩ := hm
  unfold dictSetDefault
  try with_reducible refine wpAny_holding ?_
  refine wpAny_bind (knd.pyHash hu hkey ?_)
  refine wpAny_bind (wpAny_dictFind_heap (s := { s with toks := s.toks + knd.draws k }) hu hkey ho hd he his hn ?_ ?_)
  · intro hno
    have hnot : k ∉ xs.map (·.1) := not_mem_keys_of_get hno
    refine wpAny_bind (wpAny_rule (wpAny_bind (wpAny_updateDictKeys (hz := by have e := size_of_entries he; omega) (s := { s with toks := s.toks + knd.draws k }) ho hd (wpAny_pure (hnew (atKey_none_of_get hno) _ ⟨_, _, ep + 1, Heap.get?_update_self _ ho (Obj.isFreed_of_dict (Obj.data_mapDictKeys hd _)),
      hc.mapDictKeys _, Obj.data_mapDictKeys hd _, ?_, ?_, ?_⟩ (Heap.SameBut.update ..))))))
    · rw [storedH_new (atKey_none_of_get hno)]
      simp [he, entryOfKey]
    · rw [storedH_new (atKey_none_of_get hno)]
      intro x hx
      rcases List.mem_append.mp hx with hx | hx
      · exact knd.keeps (his x hx) ho hd (Heap.SameBut.update ..)
      · simp only [List.mem_singleton] at hx
        subst hx
        exact knd.keeps hkey ho hd (Heap.SameBut.update ..)
    · rw [storedH_new (atKey_none_of_get hno)]
      rw [List.map_append, List.nodup_append]
      refine ⟨hn, by simp, ?_⟩
      intro x hx y hy
      simp only [List.map_cons, List.map_nil, List.mem_singleton] at hy
      subst hy
      exact fun e => hnot (e ▸ hx)
  · intro j p hj
    have hh := hold p (atKey_of_get hn hj)
    refine wpAny_bind (wpAny_dictEntries (s := { s with toks := s.toks + knd.draws k }) ho hd ?_)
    rw [entry_at he j, hj]
    exact wpAny_bind (wpAny_rule (wpAny_pure hh))
end
section
variable {X : Cx} {pins : List (Addr × Obj)} {σ : St} {H : Hp} {s : Shared}
/-- d.setdefault(y, v), tuple keys -/
theorem d_setd {A : Around} {E : Value → Shared → Prop} {a b : Addr} {kvs : List (List Key × V)} {k : List Key} {v : V} {r : Value} {Q : Value → Shared → Prop} (hu : A.units + 1 < cLine) (I : Inv X pins σ H s) (e : H a = some (.dT kvs)) (eb : H b = some (.tup (k.map kV))) (hl : kvs.length < sizeLine) (rv : RelV v r)
    (h1 : ∀ y, valV kvs k = some y → ∀ w' s', Inv X pins σ H s' → RelV y w' → Q w' s') (h2 : valV kvs k = none → ∀ s', Inv X pins σ (upd H a (.dT (putK kvs k v))) s' → Q r s') :
    wpAny (model X.prog X.w) A (call (.builtin "dict.setdefault") [.ref a, .ref b, r]) Q E s := by
  obtain ⟨z, hd, xs, rel, dd⟩ := dt_of I.hok e
  have hz : xs.length ≤ sizeLine := by rw [← Paired.length rel]; exact z
  have hlp : (putK kvs k v).length ≤ sizeLine := by have := length_putK kvs k v; omega
  refine wpAny_call_entry PySem.F.slot_dict_setdefault dd.typeIs PySem.F.entry_dict_setdefault ?_ (PySem.F.args_dict_setdefault_3 _ _ _)
  unfold Builtin.«dict.setdefault»
  refine wpAny_bind ?_
  unfold Builtin.Dict.keyAndDefault
  refine wpAny_bind (wpAny_notOrdered_dict dd.typeIs ?_)
  show wpAny _ _ (pure (a, Value.ref b, some r)) _ _ s
  refine wpAny_pure ?_
  show wpAny _ _ (if (a == sysModules) = true then _ else (dictSetDefault a (.ref b) r >>= _)) _ _ s
  rw [if_neg (by rw [hd]; exact Bool.false_ne_true)]
  refine wpAny_bind (wp_setd (tupleKind_room_in1 hu) (key_of I.hok eb) dd (fun p hp => wpAny_pure ⟨p.2, rfl, ?_⟩) (fun hn h' dd' hs => wpAny_pure ⟨r, rfl, ?_⟩) hz)
  · have q := rel.val k
    rw [hp] at q
    cases hv : valV kvs k with
    | none => rw [hv] at q; exact False.elim q
    | some y =>
      rw [hv] at q
      exact h1 y hv _ _ (I.tok _) q
  · have q := rel.val k
    rw [hn] at q
    cases hv : valV kvs k with
    | some y => rw [hv] at q; exact False.elim q
    | none =>
      refine h2 hv _ ?_
      obtain ⟨ob, es, ep, hq, g2, g3, g4, _, g5⟩ := dd'
      refine d_write I (by rw [e]; exact True.intro) hs ⟨ob, hq⟩ ⟨hlp, hd, _, (rel.put k eb rv).keeps fun c ys ec => ?_, ob, es, ep, hq, g2, g3, g4, g5⟩
      rw [upd_ne (ne_of ec e (fun z => nomatch z))]
      exact ec
end
def tDSetd (td ty tx : TE) : TE := fun σ H Q => td σ H fun x H1 => ∃ a, x = .ref a ∧ IsD H1 a ∧ ty σ H1 fun y H2 => tx σ H2 fun z H3 => ∃ kvs k b, H3 a = some (.dT kvs) ∧ y = .ref b ∧ H3 b = some (.tup (k.map kV)) ∧ kvs.length < sizeLine ∧
  (∀ v, valV kvs k = some v → Q v H3) ∧ (valV kvs k = none → Q z (upd H3 a (.dT (putK kvs k z))))
section
variable {X : Cx} {o e f : Expr} {apos cpos : Pos} {td ty tx : TE}
theorem pe_dsetd (hu : X.A.units + 1 < cLine) (ho : PE X o td) (he : PE X e ty) (hf : PE X f tx) (m : M2 X o "setdefault" apos e f cpos) : PE X (.Call (.Attribute o "setdefault" apos) [e, f] [] cpos) (tDSetd td ty tx) := by
  intro pins s σ H Q I h
  refine wpAny_Call_method m.base m.few m.line PySem.F.plainAttrs_dict PySem.F.slot_dict_setdefault PySem.F.type_dict_setdefault (thn (ho pins s σ H _ I h) fun u s1 ⟨x, H1, I1, rx, a, ex, d, q1⟩ => ?_)
  subst ex
  obtain rfl : u = Value.ref a := rx
  obtain ⟨t1, t2, _⟩ := isD_at I1 d
  refine ⟨t1, t2, ?_⟩
  rw [m.trees]
  refine Calls.callWith_builtin rfl (Calls.evalArgs_plain (Calls.spliced_cons (thn (he pins s1 σ H1 _ I1 q1) fun iv s2 ⟨y, H2, I2, ry, q2⟩ =>
    Calls.spliced_cons (thn (hf pins s2 σ H2 _ I2 q2) fun fv s3 ⟨z, H3, I3, rz, kvs, k, b, ea, ey, eb, hl, q3, q4⟩ => Calls.spliced_nil ?_))))
  subst ey
  obtain rfl : iv = Value.ref b := ry
  exact d_setd hu I3 ea eb hl rz (fun v hv w' s4 I4 rw' => ⟨v, H3, I4, rw', q3 v hv⟩) fun hn s4 I4 => ⟨z, _, I4, rz, q4 hn⟩
end
/-! ### a dict of the module: how many numbers stand behind a call's own -/
section
def nbEs (t u : Nat → Tok) : Array DictEntry := #[⟨0, .int 0 (t 0), .int 1 (u 0)⟩, ⟨1, .int 1 (t 1), .int 3 (u 1)⟩, ⟨2, .int 2 (t 2), .int 5 (u 2)⟩, ⟨3, .int 3 (t 3), .int 2 (u 3)⟩, ⟨4, .int 4 (t 4), .int 7 (u 4)⟩,
  ⟨5, .int 5 (t 5), .int 1 (u 5)⟩, ⟨6, .int 6 (t 6), .int 1 (u 6)⟩, ⟨7, .int 7 (t 7), .int 0 (u 7)⟩, ⟨8, .int 8 (t 8), .int 0 (u 8)⟩, ⟨9, .int 9 (t 9), .int 1 (u 9)⟩]
structure NbAt (K : PySem.W.Frag) (mg : Str → Option Value) : Prop where
  ex : ∃ (d : Addr) (o : Obj) (ep : Nat) (t u : Nat → Tok), mg "NUMBERS_BEHIND" = some (.ref d) ∧ K.lookup d = some o ∧ o.ExactDict ∧ o.data = .dict (nbEs t u) ep
variable {X : Cx}
theorem nb_keys (P : Program) (w : World) (t u : Nat → Tok) : PySem.KeysOf (PySem.intKind P w) (nbEs t u) := by
  intro e he
  unfold nbEs at he
  simp only [List.mem_toArray, List.mem_cons, List.not_mem_nil, or_false] at he
  rcases he with rfl | rfl | rfl | rfl | rfl | rfl | rfl | rfl | rfl | rfl
  · exact ⟨0, rfl, rfl⟩
  · exact ⟨1, rfl, rfl⟩
  · exact ⟨2, rfl, rfl⟩
  · exact ⟨3, rfl, rfl⟩
  · exact ⟨4, rfl, rfl⟩
  · exact ⟨5, rfl, rfl⟩
  · exact ⟨6, rfl, rfl⟩
  · exact ⟨7, rfl, rfl⟩
  · exact ⟨8, rfl, rfl⟩
  · exact ⟨9, rfl, rfl⟩
theorem nb_find {t u : Nat → Tok} {c : Int} {n : Nat} (h : PySw70.shape c = some (n, 0)) : ∃ v, findBy Value.isInt (nbEs t u) c = some (.int n v) := by
  unfold PySw70.shape at h
  repeat' split at h
  all_goals first | (cases h; done) | skip
  all_goals (rename_i e; subst e; cases h; exact ⟨_, rfl⟩)
theorem pe_nb {b : Expr} {tb : TE} {p pos : Pos} (hg : Gl X "NUMBERS_BEHIND") (h : NbAt X.K X.mg) (hb : PE X b tb) (hs : NoSl b := by intro _ _; rfl) :
    PE X (.Subscript (.Name "NUMBERS_BEHIND" p) b pos) (fun σ H Q => tb σ H fun y H1 => ∃ (c : Int) (n : Nat), y = .int c ∧ PySw70.shape c = some (n, 0) ∧ Q (.int n) H1) := by
  intro pins s σ H Q I hq
  obtain ⟨d, o, ep, t, u, hm, hk, he, hd⟩ := h.ex
  refine subD_of PySem.F.slot_dict_getitem.lookup hs (ld_glob I hg hm ?_)
  refine thn (hb pins s σ H _ I hq) fun iv s2 ⟨y, H2, I2, ry, c, n, ey, hc, q2⟩ => ?_
  subst ey
  obtain ⟨tk, rfl⟩ := ry
  have hm2 : s2.heap.MapOf (PySem.intKind X.prog X.w) d (fun k => findBy Value.isInt (nbEs t u) k) := ⟨o, nbEs t u, ep, I2.kIn d o hk, he, hd, nb_keys _ _ t u, fun _ => rfl⟩
  obtain ⟨v, hv⟩ := nb_find (t := t) (u := u) hc
  exact ⟨hm2.typeIs, wpAny_getItem_of (knd := PySem.intKind X.prog X.w) (k := c) (by show (c == c) = true; exact beq_self_eq_true c) hm2 hv ⟨.int n, H2, I2.tok _, ⟨v, rfl⟩, q2⟩⟩
end
end L2
namespace L2
open PySem PySem.Spec PyProof.Rows
open Sw70 (less)
/-! ### sorted by a key: an int, or a tuple of ints -/
def KeyZ (m : Bool) (h : Heap) (k : Value) (ns : List Int) : Prop := if m = true then ns ≠ [] ∧ ∃ b o xs e, k = .ref b ∧ h.get? b = some o ∧ o.cls = .type "tuple" ∧ o.data = .seq xs e ∧ IntsAre xs.toList ns else ∃ n t, k = .int n t ∧ ns = [n]
def KeyM (m : Bool) (H : Hp) (v : V) (ns : List Int) : Prop := if m = true then ns ≠ [] ∧ ∃ b, v = .ref b ∧ H b = some (.tup (ns.map V.int)) else ∃ n, v = .int n ∧ ns = [n]
theorem KeyM.same {m : Bool} {H H' : Hp} {v : V} {ns : List Int} (k : KeyM m H v ns) (e : Same H H') : KeyM m H' v ns := by
  unfold KeyM at k ⊢
  cases m with
  | false => exact k
  | true =>
    rw [if_pos rfl] at k ⊢
    obtain ⟨h0, b, h1, h2⟩ := k
    exact ⟨h0, b, h1, e _ _ h2⟩
theorem KeyM.z {P : Program} {w : World} {m : Bool} {H : Hp} {h : Heap} {v : V} {u : Value} {ns : List Int} (k : KeyM m H v ns) (ok : HOk P w H h) (r : RelV v u) : KeyZ m h u ns := by
  unfold KeyM at k
  unfold KeyZ
  cases m with
  | false =>
    obtain ⟨n, rfl, rfl⟩ := k
    obtain ⟨t, rfl⟩ := r
    exact ⟨n, t, rfl, rfl⟩
  | true =>
    rw [if_pos rfl] at k ⊢
    obtain ⟨h0, b, rfl, h2⟩ := k
    cases (show u = Value.ref b from r)
    obtain ⟨_, its, rv, ob, e1, e2, n, e3⟩ := ok b _ h2
    exact ⟨h0, b, ob, its.toArray, n, rfl, e1, e2, e3, by simpa using rv.ints⟩
theorem less_lex : ∀ (ns ms : List Int), ns.length = ms.length → lexLt itemOrd (ns.map Sum.inl) (ms.map Sum.inl) = less ns ms
  | [], [], _ => rfl
  | n :: ns, m :: ms, h => by
    rw [List.map_cons, List.map_cons, lex_cons, less, less_lex ns ms (by simpa using h)]
    show (decide (n < m) || (!decide (m < n) && less ns ms)) = (decide (n < m) || (n == m && less ns ms))
    by_cases h1 : n < m
    · simp [h1]
    · by_cases h2 : n = m
      · subst h2; simp
      · have h3 : m < n := by omega
        simp [h1, h2, h3]
abbrev sh0 : Nat → Bool := fun _ => false
theorem tupItems_ints : ∀ {us : List Value} {ns : List Int} (i : Nat), IntsAre us ns → tupItems sh0 i us = some (ns.map Sum.inl)
  | _, _, _, .nil => rfl
  | _, _, i, .cons n t h => by
    show (if sh0 i = true then none else (tupItems sh0 (i + 1) _).map (Sum.inl n :: ·)) = _
    rw [if_neg Bool.false_ne_true, tupItems_ints (i + 1) h]
    rfl
theorem tupKeyC_of0 {h : Heap} {shape : Nat → Bool} {a : Addr} {o : Obj} {xs : Array Value} {n : Nat} {l : List (Int ⊕ List Nat)} (ho : h.get? a = some o) (hc : o.cls = .type "tuple") (hd : o.data = .seq xs n)
    (hi : tupItems shape 0 xs.toList = some l) : PyProof.Rows.G.tupKeyC h shape (.ref a) = some l := by
  unfold PyProof.Rows.G.tupKeyC
  have e1 : PyProof.Rows.G.isTupObj h (.ref a) = true := by simp [PyProof.Rows.G.isTupObj, ho, hc]
  rw [if_pos e1]
  simp only [tupKey, ho, hd]
  exact hi
section
variable {prog : Program} {w : World} {A : Around} {E : Value → Shared → Prop} {s : Shared}
def PairsOk (m : Bool) (h : Heap) (l : List Keyed) : Prop := l.Pairwise fun p q => ∀ ns ms, KeyZ m h p.1 ns → KeyZ m h q.1 ms → ns.length = ms.length → less ms ns = false
theorem sort_kind (m : Bool) {keys : List Value} (hk : ∀ k ∈ keys, ∃ ns, KeyZ m s.heap k ns) (h2 : 2 ≤ keys.length) :
    ∃ (κ : PyProof.Rows.KeyKind) (kd : SortKind), PyProof.Rows.G.LtAt prog w s κ kd ∧ (∀ {Q : SortKind → Shared → Prop}, Q kd s → wpAny (model prog w) A (keyKind' keys.toArray) Q E s) ∧
      (∀ k ∈ keys, ∃ a, κ.keyOf k = some a) ∧ ∀ k k' a b ns ms, κ.keyOf k = some a → κ.keyOf k' = some b → KeyZ m s.heap k ns → KeyZ m s.heap k' ms → ns.length = ms.length → κ.blt a b = less ns ms := by
  cases m with
  | false =>
    have hi : ∃ kz, IntsAre keys kz := by
      clear h2
      induction keys with
      | nil => exact ⟨[], .nil⟩
      | cons k r ih =>
        obtain ⟨ns, n, t, rfl, _⟩ := hk k (by simp)
        obtain ⟨kz, h⟩ := ih fun k' hk' => hk k' (by simp [hk'])
        exact ⟨n :: kz, .cons n t h⟩
    obtain ⟨kz, hi⟩ := hi
    refine ⟨PyProof.Rows.intKind, oneType', ?_, ?_, ?_, ?_⟩
    · intro A E x y a b Q hx hy hq
      cases x with
      | int n t =>
        cases y with
        | int n' t' =>
          cases hx
          cases hy
          exact PySem.W.kat_lt_int hq
        | _ => cases hy
      | _ => cases hx
    · intro Q hq
      have e := ksk_kind (keys := keys.toArray) (kz := kz) (by simpa using hi) (by simpa using h2)
      rw [e]
      exact wpAny_pure hq
    · intro k hk'
      obtain ⟨ns, n, t, rfl, _⟩ := hk k hk'
      exact ⟨n, rfl⟩
    · intro k k' a b ns ms ha hb z1 z2 _
      obtain ⟨n, t, e1, e2⟩ := z1
      obtain ⟨n', t', e3, e4⟩ := z2
      subst e1 e2 e3 e4
      cases ha
      cases hb
      show decide (_ < _) = less [_] [_]
      rw [less]
      show _ = (_ || (_ && false))
      rw [Bool.and_false, Bool.or_false]
  | true =>
    refine ⟨PyProof.Rows.G.tupKindC s.heap sh0, tuples' true, PyProof.Rows.G.tupC_ltAt true (PyProof.Rows.G.KeepsTups.refl _), ?_, ?_, ?_⟩
    · intro Q hq
      have ht : ∃ fs, TupsOf s.heap sh0 keys fs := by
        clear h2
        induction keys with
        | nil => exact ⟨[], .nil⟩
        | cons k r ih =>
          obtain ⟨ns, hz⟩ := hk k (by simp)
          obtain ⟨h0, b, o, xs, e, rfl, h1, h2, h3, h4⟩ := hz
          obtain ⟨fs, h⟩ := ih fun k' hk' => hk k' (by simp [hk'])
          cases hxs : xs.toList with
          | nil =>
            rw [hxs] at h4
            cases h4
            exact absurd rfl h0
          | cons f rest =>
            rw [hxs] at h4
            cases h4 with
            | cons n t h5 =>
              refine ⟨.int n t :: fs, .cons ⟨b, o, xs, e, rfl, h1, h2, h3, ?_, fun _ => ⟨n, t, rfl⟩, fun q => absurd q Bool.false_ne_true⟩ h⟩
              rw [← Array.getElem?_toList, hxs]
              rfl
      obtain ⟨fs, ht⟩ := ht
      exact tup_kind (by rw [PyProof.Rows.G.TupsOf.length ht]; omega) ht hq
    · intro k hk'
      obtain ⟨ns, hz⟩ := hk k hk'
      obtain ⟨h0, b, o, xs, e, rfl, h1, h2, h3, h4⟩ := hz
      exact ⟨_, tupKeyC_of0 h1 h2 h3 (tupItems_ints 0 h4)⟩
    · rintro k k' a b ns ms ha hb hz hz' hl
      obtain ⟨h0, b1, o, xs, e, rfl, h1, h2, h3, h4⟩ := hz
      obtain ⟨h0', b1', o', xs', e', rfl, h1', h2', h3', h4'⟩ := hz'
      have ea : a = ns.map Sum.inl := Option.some.inj (ha.symm.trans (tupKeyC_of0 h1 h2 h3 (tupItems_ints 0 h4)))
      have eb : b = ms.map Sum.inl := Option.some.inj (hb.symm.trans (tupKeyC_of0 h1' h2' h3' (tupItems_ints 0 h4')))
      subst ea eb
      exact less_lex ns ms hl
theorem pw_two {α : Type} {R : α → α → Prop} : ∀ {l : List α}, l.length < 2 → l.Pairwise R
  | [], _ => .nil
  | [_], _ => List.pairwise_singleton _ _
  | _ :: _ :: l, h => absurd h (by rw [List.length_cons, List.length_cons]; omega)
theorem sort_core (m : Bool) {a kS : Addr} {e1 : Nat} {keys its : List Value} {P : PySem.Fin → Shared → Prop} (hlen : keys.length = its.length) (hk : ∀ k ∈ keys, ∃ ns, KeyZ m s.heap k ns)
    (h : ∀ st : SortSt, (arrOf st).toList.Perm (keys.zip its) → failedOf st = none → PairsOk m s.heap (arrOf st).toList → wpAny (model prog w) A (ksk_tail a false e1 (.ref kS) st) P E s) :
    wpAny (model prog w) A (ksk_end a false its.toArray e1 (.ref kS) keys.toArray) P E s := by
  have ez : (keys.toArray.zip its.toArray).toList = keys.zip its := by simp
  have hzs : (keys.toArray.zip its.toArray).size = its.length := by
    rw [Array.size_zip, List.size_toArray, List.size_toArray, hlen, Nat.min_self]
  unfold ksk_end
  try dsimp only
  simp only [Bool.false_eq_true, if_false]
  by_cases h2 : its.toArray.size < 2
  · rw [if_pos h2, if_pos h2]
    refine wpAny_bind (wpAny_pure ?_)
    rw [StateT.run_pure]
    refine wpAny_bind (wpAny_pure ?_)
    try dsimp only
    refine h (SortSt.mk' general' (keys.toArray.zip its.toArray) #[] 7 none) ?_ rfl ?_
    · show (keys.toArray.zip its.toArray).toList.Perm _
      rw [ez]
    · show PairsOk m s.heap (keys.toArray.zip its.toArray).toList
      have hl : (keys.toArray.zip its.toArray).toList.length < 2 := by
        rw [Array.length_toList, hzs]
        simpa using h2
      exact pw_two hl
  · rw [if_neg h2, if_neg h2]
    have h2' : 2 ≤ keys.length := by
      rw [List.size_toArray] at h2
      omega
    obtain ⟨κ, kd, hO, hkk, hks, hbl⟩ := sort_kind (prog := prog) (w := w) (A := A) (E := E) (s := s) m hk h2'
    have hkeys : PyProof.Rows.KeysOf κ (keys.toArray.zip its.toArray) := by
      intro p hp
      rw [ez] at hp
      exact hks p.1 (List.of_mem_zip (show (p.1, p.2) ∈ keys.zip its from hp)).1
    refine wpAny_bind (hkk ?_)
    try dsimp only
    refine wpAny_bind (wpAny_mono (PyProof.Rows.G.wpS_sortRunsSt (κ := κ) (kd := kd) (a₀ := keys.toArray.zip its.toArray) (st := SortSt.mk' kd (keys.toArray.zip its.toArray) #[] 7 none)
      (Q := fun _ st' => (arrOf st').Perm (keys.toArray.zip its.toArray) ∧ failedOf st' = none ∧ SortedToK κ (arrOf st') (keys.toArray.zip its.toArray).size)
      hO hkeys ⟨Array.Perm.refl _, rfl, rfl⟩ rfl (Stable.refl _) (by rw [hzs]; omega) fun st' a1 a2 a3 _ => ⟨a1, a2, a3⟩) ?_ fun _ _ e => e)
    rintro ⟨⟨⟩, st'⟩ s' ⟨rfl, hp, hf, hs⟩
    try dsimp only
    have hpl : (arrOf st').toList.Perm (keys.zip its) := by
      rw [← ez]
      exact Array.perm_iff_toList_perm.mp hp
    refine h st' hpl hf ?_
    have hk2 : PyProof.Rows.KeysOf κ (arrOf st') := fun p hp' => hkeys p ((Array.perm_iff_toList_perm.mp hp).mem_iff.mp hp')
    have hpw := keyLe_of_sorted hk2 (by rw [hp.size_eq]; exact hs)
    refine hpw.imp fun {p q} hle ns ms z1 z2 hl => ?_
    obtain ⟨x, y, hx, hy, hxy⟩ := hle
    have := hbl q.1 p.1 y x ms ns hy hx z2 z1 hl.symm
    rw [← this]
    exact hxy
end

def vOf (u : Value) : V := (absV u).getD .non
theorem vOf_rel {x : V} {u : Value} (r : RelV x u) : vOf u = x := by
  unfold vOf
  rw [r.abs]
  rfl
theorem vOf_vals : ∀ {xs : List V} {us : List Value}, Vals xs us → us.map vOf = xs
  | _, _, .nil => rfl
  | _, _, .cons r t => by rw [List.map_cons, vOf_rel r, vOf_vals t]
theorem vals_vOf : ∀ {us : List Value}, (∀ u ∈ us, RelV (vOf u) u) → Vals (us.map vOf) us
  | [], _ => .nil
  | u :: r, h => .cons (h u (by simp)) (vals_vOf fun x hx => h x (by simp [hx]))
theorem Vals.back : ∀ {xs : List V} {us : List Value} {i : Nat} {u : Value}, Vals xs us → us[i]? = some u → ∃ x, xs[i]? = some x ∧ RelV x u
  | _, _, _, _, .nil, e => by simp at e
  | _, _, 0, _, .cons r _, e => by simp at e; subst e; exact ⟨_, rfl, r⟩
  | _, _, i + 1, u, .cons _ t, e => by
    obtain ⟨x, h1, h2⟩ := Vals.back (i := i) (u := u) t (by simpa using e)
    exact ⟨x, by simpa using h1, h2⟩
section
variable {X : Cx}
theorem sortK_tree (m : Bool) {A : Around} {k : Nat} {f : Addr} {fd : FuncData} {px : Str} {sp : Sp} (F : FnOk X.prog X.w X.K X.mg X.base CX0 k f fd [px] sp) (hr : Room k A) (hb : Binds X.K fd [px] []) {pins : List (Addr × Obj)} {σ : St}
    (hA : ∀ (H : Hp) (s : Shared), Inv X pins σ H s → Env0 X.prog X.w X.K X.mg X.base A X.stack s H)
    {s : Shared} {H : Hp} {l : Addr} {xs : List V} {its : List Value} {e0 : Nat} {kf : V → List Int} {n : Nat} {P : PySem.Fin → Shared → Prop} {E : Value → Shared → Prop} (I : Inv X pins σ H s) (hH : H l = some (.lst xs))
    (hob : s.heap.get? l = some { cls := .type "list", data := .seq its.toArray e0 }) (rv : Vals xs its) (hz : xs.length ≤ sizeLine)
    (hkey : ∀ (H' : Hp) (x : V), x ∈ xs → (∀ b o, H b = some o → b ≠ l → H' b = some o) → ∀ R : VK, (∀ v H'', Same H' H'' → KeyM m H'' v (kf x) → R v H'') → sp [x] H' R E0) (hlen : ∀ x ∈ xs, (kf x).length = n)
    (hq : ∀ ys H' s', Inv X pins σ H' s' → ys.Perm xs → ys.Pairwise (fun y z => less (kf z) (kf y) = false) → (∀ b o, H b = some o → b ≠ l → H' b = some o) → H' l = some (.lst ys) → P (.done (.ret .none)) s') :
    wpAny (model X.prog X.w) A (ksk_tree l (.ref f) false) P E s := by
  have hlen0 := rv.length
  have hZ : its.length ≤ sizeLine := by rw [← hlen0]; exact hz
  have hZ2 := hZ
  rw [sizeLine_eq] at hZ2
  unfold ksk_tree
  refine wpAny_bind (listItems_at hob rfl ?_)
  refine wpAny_bind (listUpdate_at hob rfl ?_ (by rw [List.size_toArray]; exact hZ) (Nat.zero_le _))
  have I4 := I.lset (l := l) (xs := xs) (its := its) (its' := []) (n := e0) (f := fun _ => #[]) (t' := s.toks) hH hob rfl .nil (Nat.zero_le _)
  obtain ⟨e1, ho1⟩ : ∃ e1, (s.heap.update l (Obj.mapSeq fun _ => #[])).get? l = some { cls := .type "list", data := .seq #[] e1 } := ⟨_, get?_update_seq hob fun _ => #[]⟩
  refine wpAny_bind (seqEpoch_at ho1 rfl ?_)
  refine wpAny_bind (wpAny_newTuple ?_ (by simpa using hZ))
  have I5 := I4.kept (h' := (s.heap.update l (Obj.mapSeq fun _ => #[])).push { cls := .type "tuple", data := .seq its.toArray.toList.toArray }) (t' := s.toks) fun b u q => Heap.get?_push_of_some _ q
  have ho2 : ((s.heap.update l (Obj.mapSeq fun _ => #[])).push { cls := .type "tuple", data := .seq its.toArray.toList.toArray }).get? l = some { cls := .type "list", data := .seq #[] e1 } := Heap.get?_push_of_some _ ho1
  refine wpAny_bind (wpAny_newList ?_ (Nat.zero_le _))
  have I6 := I5.lnew (ys := []) (its := []) (t' := s.toks) .nil (Nat.zero_le _)
  have ho3 := Heap.get?_push_of_some (h := (s.heap.update l (Obj.mapSeq fun _ => #[])).push { cls := .type "tuple", data := .seq its.toArray.toList.toArray }) { cls := .type "list", data := .seq ([] : List Value).toArray } ho2
  have nk := I5.fresh
  refine wpAny_holding ?_
  generalize hkS : (((s.heap.update l (Obj.mapSeq fun _ => #[])).push { cls := .type "tuple", data := .seq its.toArray.toList.toArray }).objs.size) = kS at I6 nk ⊢
  have hkl : kS ≠ l := by
    intro q
    subst q
    rw [upd_same] at nk
    cases nk
  have h6l : upd (upd H l (.lst [])) kS (.lst []) l = some (.lst []) := by rw [upd_ne (Ne.symm hkl), upd_same]
  have hnf := I6.nofrz h6l trivial
  obtain ⟨od, I7⟩ := I6.lock h6l trivial
  have hod : od = { cls := .type "list", data := .seq #[] e1 } := by
    obtain ⟨e, _⟩ := I7.hok l _ upd_same
    exact Option.some.inj (e.symm.trans ho3)
  unfold ksk_rest
  refine wpAny_bind (wpAny_rule ?_)
  first
    | rw [List.forIn_toArray]
    | (rw [← Array.forIn_toList]; simp only [List.toList_toArray])
    | rw [← Array.forIn_toList]
  refine wpAny_bind (ksk_fold (fun i s' => ∃ (Hj : Hp) (ks : List V), Inv X pins σ Hj s' ∧ (∀ b o, upd (upd (upd H l (.lst [])) kS (.lst [])) l (.frz od (.lst [])) b = some o → b ≠ kS → Hj b = some o) ∧ Hj kS = some (.lst ks) ∧ ks.length = i ∧
      ∀ (j : Nat) (v x : V), ks[j]? = some v → xs[j]? = some x → KeyM m Hj v (kf x)) its 0 _ ⟨_, [], I7, fun b o e _ => e, by rw [upd_ne hkl, upd_same], rfl, fun j v x h => by simp at h⟩ ?step ?done)
  case step =>
    rintro j u s' hu ⟨Hj, ks, Ij, sj, hk, hkl2, hkk⟩
    simp only [Nat.zero_add] at hkl2 ⊢
    obtain ⟨x, hx, rx⟩ := rv.back hu
    have hj : j < its.length := (List.getElem?_eq_some_iff.mp hu).1
    have keep : ∀ b o, H b = some o → b ≠ l → Hj b = some o := fun b o e hb => by
      have hbk : b ≠ kS := fun q => by
        subst q
        rw [upd_ne hkl] at nk
        rw [nk] at e
        cases e
      exact sj b o (by rw [upd_ne hb, upd_ne hbk, upd_ne hb]; exact e) hbk
    have hsp := hkey Hj x (List.mem_of_getElem? hx) keep (fun v H'' => Same Hj H'' ∧ KeyM m H'' v (kf x)) fun v H'' a b => ⟨a, b⟩
    have run : wpAny (model X.prog X.w) A (call (.ref f) [u]) (EP X pins σ fun v H'' => Same Hj H'' ∧ KeyM m H'' v (kf x)) (fun _ _ => False) s' := by
      refine wpAny_call (codeAny_mono (F.run A X.stack s' Hj ⟨[u], []⟩ [u] [x] _ E0 hr (hA Hj s' Ij) (hb s' [u] Ij.kIn rfl) (.cons rx .nil) hsp) fun r s'' hq => ?_)
      cases r with
      | error e => exact False.elim hq
      | ok fl =>
        cases fl with
        | ret u => exact Ij.after hq
        | next => exact False.elim hq
        | brk => exact False.elim hq
        | cont => exact False.elim hq
    refine wpAny_bind (wpAny_attempt (wpAny_mono run (fun u' s'' he => ?_) fun _ _ hF => hF.elim))
    obtain ⟨v, H2, I2, r2, sm, km⟩ := he
    try dsimp only
    have hk2 := sm _ _ hk
    obtain ⟨zz, kts, e2, rk, lk, ek⟩ := I2.lstM hk2
    have hks : kts.length < its.length := by rw [← lk, hkl2]; exact hj
    refine wpAny_bind (listUpdate_at ek rfl ?_ (by rw [List.size_toArray]; omega) (Nat.le_trans (Nat.le_of_eq (Array.size_push ..)) (by rw [List.size_toArray]; omega)))
    have I3 := I2.lset (l := kS) (xs := ks) (its := kts) (its' := kts ++ [u']) (n := e2) (f := fun x => x.push u') (t' := s''.toks) hk2 ek (by simp) (rk.append (.cons r2 .nil)) (by rw [List.length_append]; show ks.length + 1 ≤ _; omega)
    refine wpAny_pure ⟨rfl, _, ks ++ [v], I3, fun b o e hb => ?_, upd_same, by rw [List.length_append]; show ks.length + 1 = _; omega, fun i v' x' hv' hx' => ?_⟩
    · rw [upd_ne hb]
      exact sm _ _ (sj b o e hb)
    · have sm2 : ∀ ns v, KeyM m H2 v ns → KeyM m (upd H2 kS (.lst (ks ++ [v]))) v ns := fun ns v q => by
        unfold KeyM at q ⊢
        cases m with
        | false => exact q
        | true =>
          rw [if_pos rfl] at q ⊢
          obtain ⟨h0, b, h1, h2⟩ := q
          exact ⟨h0, b, h1, by rw [upd_ne (ne_of h2 hk2 (by intro z; cases z))]; exact h2⟩
      have sm3 : ∀ ns w', KeyM m H2 w' ns → KeyM m (upd H2 kS (.lst (ks ++ [v]))) w' ns := fun ns w' q => by
        unfold KeyM at q ⊢
        cases m with
        | false => exact q
        | true =>
          rw [if_pos rfl] at q ⊢
          obtain ⟨h0, b, h1, h2⟩ := q
          exact ⟨h0, b, h1, by rw [upd_ne (ne_of h2 hk2 (by intro z; cases z))]; exact h2⟩
      by_cases hi : i < ks.length
      · rw [List.getElem?_append_left hi] at hv'
        exact sm3 _ _ ((hkk i v' x' hv' hx').same sm)
      · have hi' : i = ks.length := by
          have := (List.getElem?_eq_some_iff.mp hv').1
          rw [List.length_append] at this
          have : i < ks.length + 1 := this
          omega
        subst hi'
        rw [List.getElem?_append_right (Nat.le_refl _), Nat.sub_self] at hv'
        have ev : v = v' := Option.some.inj hv'
        subst ev
        rw [hkl2, hx] at hx'
        cases hx'
        exact sm3 _ _ km
  case done =>
    rintro s' ⟨Hn, ks, In, sn, hk, hkl2, hkk⟩
    simp only [Nat.zero_add] at hkl2
    try dsimp only
    obtain ⟨zz, kts, e2, rk, lk, ek⟩ := In.lstM hk
    refine wpAny_bind (listItems_at ek rfl ?_)
    have hkz : ∀ (i : Nat) (kv : Value) (x : V), kts[i]? = some kv → xs[i]? = some x → KeyZ m s'.heap kv (kf x) := fun i kv x h1 h2 => by
      obtain ⟨v, hv, r⟩ := rk.back h1
      exact (hkk i v x hv h2).z In.hok r
    have hll : kts.length = its.length := by rw [← lk, hkl2]
    refine sort_core m hll (fun kv hkv => ?_) fun st hp hf hpo => ?_
    · obtain ⟨i, hi⟩ := List.getElem?_of_mem hkv
      have hi2 : i < xs.length := by
        have := (List.getElem?_eq_some_iff.mp hi).1
        omega
      exact ⟨_, hkz i kv xs[i] hi (List.getElem?_eq_getElem hi2)⟩
    · -- what came out
      have mem : ∀ p ∈ (arrOf st).toList, ∃ (i : Nat) (x : V), kts[i]? = some p.1 ∧ its[i]? = some p.2 ∧ xs[i]? = some x ∧ RelV x p.2 := fun p hp' => by
        have hm := hp.mem_iff.mp hp'
        obtain ⟨i, hi⟩ := List.getElem?_of_mem hm
        obtain ⟨h1, h2⟩ := List.getElem?_zip_eq_some.mp hi
        obtain ⟨x, hx, r⟩ := rv.back h2
        exact ⟨i, x, h1, h2, hx, r⟩
      have hrel : ∀ u ∈ (arrOf st).toList.map (·.2), RelV (vOf u) u := fun u hu => by
        obtain ⟨p, hp', rfl⟩ := List.mem_map.mp hu
        obtain ⟨i, x, _, _, _, r⟩ := mem p hp'
        rw [vOf_rel r]
        exact r
      have rout : Vals (((arrOf st).toList.map (·.2)).map vOf) ((arrOf st).toList.map (·.2)) := vals_vOf hrel
      have hperm : (((arrOf st).toList.map (·.2)).map vOf).Perm xs := by
        have q := (hp.map (·.2)).map vOf
        rw [List.map_snd_zip (by omega), vOf_vals rv] at q
        exact q
      have hpw : (((arrOf st).toList.map (·.2)).map vOf).Pairwise (fun y z => less (kf z) (kf y) = false) := by
        rw [List.pairwise_map, List.pairwise_map]
        refine hpo.imp_of_mem fun {p q} hp' hq' hle => ?_
        obtain ⟨i, x, h1, _, h3, r1⟩ := mem p hp'
        obtain ⟨j, y, g1, _, g3, r2⟩ := mem q hq'
        rw [vOf_rel r1, vOf_rel r2]
        exact hle _ _ (hkz i _ x h1 h3) (hkz j _ y g1 g3) (by rw [hlen x (List.mem_of_getElem? h3), hlen y (List.mem_of_getElem? g3)])
      have hlo : (((arrOf st).toList.map (·.2)).map vOf).length ≤ sizeLine := by rw [hperm.length_eq]; exact hz
      have hsz : ((arrOf st).map (·.2)).size = its.length := by
        rw [Array.size_map, ← Array.length_toList, hp.length_eq, List.length_zip, hll, Nat.min_self]
      unfold ksk_tail
      try dsimp only
      refine wpAny_bind (listUpdate_at ek rfl ?_ (by rw [List.size_toArray, hll]; exact hZ) (Nat.zero_le _))
      have I8 := In.lset (l := kS) (xs := ks) (its := kts) (its' := []) (n := e2) (f := fun _ => #[]) (t' := s'.toks) hk ek rfl .nil (Nat.zero_le _)
      refine wpAny_bind (wpAny_letGo ?_)
      have hn1 : Hn l = some (.frz od (.lst [])) := sn l _ upd_same (Ne.symm hkl)
      have h8 : upd Hn kS (.lst []) l = some (.frz od (.lst [])) := by rw [upd_ne (Ne.symm hkl)]; exact hn1
      have ho8 : (s'.heap.update kS (Obj.mapSeq fun _ => #[])).get? l = some { cls := .type "list", data := .seq #[] e1 } := by
        obtain ⟨e, _⟩ := I8.hok l _ h8
        rw [← hod]
        exact e
      have I9 := I8.unlock h8 hnf
      refine wpAny_bind (seqEpoch_at ho8 rfl ?_)
      refine wpAny_bind (listUpdate_at ho8 rfl ?_ (Nat.zero_le _) (by simp only [Bool.false_eq_true, if_false]; rw [hsz]; omega))
      have I10 := I9.lset (l := l) (xs := []) (its := []) (its' := (arrOf st).toList.map (·.2)) (n := e1) (f := fun _ => if false = true then ((arrOf st).map (·.2)).reverse else (arrOf st).map (·.2)) (t' := s'.toks) upd_same ho8 (by rw [if_neg Bool.false_ne_true]; apply Array.ext'; simp) rout hlo
      rw [hf]
      simp only [bne_self_eq_false, Bool.false_eq_true, if_false]
      refine wpAny_pure (hq _ _ _ I10 hperm hpw (fun b o e hb => ?_) upd_same)
      have hbk : b ≠ kS := fun q => by
        subst q
        rw [upd_ne hkl] at nk
        rw [nk] at e
        cases e
      rw [upd_ne hb, upd_ne hb, upd_ne hbk]
      exact sn b o (by rw [upd_ne hb, upd_ne hbk, upd_ne hb]; exact e) hbk
theorem run_sortK (m : Bool) {k : Nat} {f : Addr} {fd : FuncData} {px : Str} {sp : Sp} (F : FnOk X.prog X.w X.K X.mg X.base CX0 k f fd [px] sp) (hr : Room (k + 2) X.A) (hb : Binds X.K fd [px] [])
    {pins : List (Addr × Obj)} {s : Shared} {σ : St} {H : Hp} {a : Addr} {xs : List V} {kf : V → List Int} {n : Nat} {Q : VK} (I : Inv X pins σ H s) (hs : SqL X.K H a xs)
    (hkey : ∀ (H' : Hp) (x : V), x ∈ xs → Same H H' → ∀ R : VK, (∀ v H'', Same H' H'' → KeyM m H'' v (kf x) → R v H'') → sp [x] H' R E0) (hlen : ∀ x ∈ xs, (kf x).length = n)
    (hq : ∀ ys p H', ys.Perm xs → ys.Pairwise (fun y z => less (kf z) (kf y) = false) → Same H H' → H p = none → H' p = some (.lst ys) → Q (.ref p) H') :
    wpAny (model X.prog X.w) X.A (call (.builtin "sorted") [.ref a] [(Str.ofString "key", .ref f)]) (EP X pins σ Q) X.xe s := by
  obtain ⟨its, rv, hl, hz⟩ := I.list hs
  have hZ : its.length ≤ sizeLine := by rw [← rv.length]; exact hz
  refine call_function_entry_kw kind_sorted plain_sorted entry_sorted (ksk_s1 _ _) ?_
  unfold Builtin.«sorted»
  refine wpAny_bind (m := checkCount "sorted" 1 1 _) (wpAny_pure ?_)
  refine wpAny_bind (collect_list hl.isList ?_ hZ)
  refine wpAny_bind (wpAny_newList ?_ hZ)
  have I1 := I.lnew (ys := []) (its := []) (t' := s.toks) .nil (Nat.zero_le _)
  have g1 : (s.heap.push { cls := .type "list", data := .seq ([] : List Value).toArray }).get? s.heap.objs.size = some { cls := .type "list", data := .seq ([] : List Value).toArray 0 } := Heap.get?_push_size _ rfl
  have I2 := I1.lset (l := s.heap.objs.size) (xs := []) (its := []) (its' := its) (n := 0) (f := fun x => x ++ its.toArray) (t' := s.toks) upd_same g1 (by simp) rv hz
  have n0 : H s.heap.objs.size = none := I.fresh
  have n1 := I2.fresh
  have I3 := I2.lnew (ys := xs) (its := its) (t' := s.toks) rv hz
  have g3 := Heap.get?_push_size ((s.heap.push { cls := .type "list", data := .seq ([] : List Value).toArray }).update s.heap.objs.size (Obj.mapSeq fun x => x ++ its.toArray)) (o := { cls := .type "list", data := .seq its.toArray }) rfl
  generalize hn1 : ((s.heap.push { cls := .type "list", data := .seq ([] : List Value).toArray }).update s.heap.objs.size (Obj.mapSeq fun x => x ++ its.toArray)).objs.size = q1 at I3 g3 n1
  have e1 : ((s.heap.push (seqObj "list" #[] 0)).update s.heap.objs.size (Obj.mapSeq (· ++ its.toArray))).objs.size = q1 := hn1
  have hd : s.heap.objs.size ≠ q1 := fun q => by
    rw [← q, upd_same] at n1
    cases n1
  have nq : H q1 = none := by
    rw [upd_ne (Ne.symm hd), upd_ne (Ne.symm hd)] at n1
    exact n1
  have keep : ∀ b o, H b = some o → upd (upd (upd H s.heap.objs.size (.lst [])) s.heap.objs.size (.lst xs)) q1 (.lst xs) b = some o := fun b o e => by
    rw [upd_ne (ne_of_none e nq), upd_ne (ne_of_none e n0), upd_ne (ne_of_none e n0)]
    exact e
  try dsimp only
  try rw [e1]
  refine wpAny_bind (wpAny_holding (wpAny_call_entry_kw slot_list_sort ⟨_, g3, rfl⟩ entry_list_sort ?body (ksk_l1 _ _)))
  case body =>
    show wpAny (model X.prog X.w) X.A.in1.in1 (Builtin.«list.sort» ⟨[.ref q1], [(Str.ofString "key", .ref f)]⟩) _ _ _
    rw [ksk_t1]
    refine sortK_tree m F (Room.in1 (Room.in1 hr)) hb (fun H s I => I.env0.in1.in1) I3 upd_same g3 rv hz (fun H' x hx kp R hR => ?_) hlen fun ys H' s' I' hp hw kp hl' => ⟨_, rfl, ?_⟩
    · exact hkey H' x hx (fun b o e => kp b o (keep b o e) (ne_of_none e nq)) R hR
    · exact wpAny_pure ⟨_, rfl, .ref q1, H', I', rfl, hq ys q1 H' hp hw (fun b o e => kp b o (keep b o e) (ne_of_none e nq)) nq hl'⟩
/-- sorted(e, key=f) -/
def tSortK (K : PySem.W.Frag) (m : Bool) (sp : Sp) (ta : TA) : TE := fun σ H Q => ta σ H fun vs H1 => ∃ (a : Addr) (xs : List V) (kf : V → List Int) (n : Nat), vs = [.ref a] ∧ SqL K H1 a xs ∧
  (∀ (H' : Hp) (x : V), x ∈ xs → Same H1 H' → ∀ R : VK, (∀ v H'', Same H' H'' → KeyM m H'' v (kf x) → R v H'') → sp [x] H' R E0) ∧ (∀ x ∈ xs, (kf x).length = n) ∧
  ∀ ys p H', ys.Perm xs → ys.Pairwise (fun y z => less (kf z) (kf y) = false) → Same H1 H' → H1 p = none → H' p = some (.lst ys) → Q (.ref p) H'
theorem boot_sorted : bootBuiltins "sorted" = some (.builtin "sorted") := by decide +kernel
theorem pe_sortK (m : Bool) {k : Nat} {f : Addr} {fd : FuncData} {px : Str} {sp : Sp} {e : Expr} {ta : TA} {fx : Str} {p q pos kpos : Pos} (F : FnOk X.prog X.w X.K X.mg X.base CX0 k f fd [px] sp) (hr : Room (k + 2) X.A) (hg : Gl X "sorted") (hm : X.mg "sorted" = none)
    (hgf : Gl X fx) (hmf : X.mg fx = some (.ref f)) (hb : Binds X.K fd [px] []) (ha : PA X [e] ta) (hdb : (fx == ("__debug__" : Str)) = false := by decide) (hst : backTo pos (starEach [e] X.env) = (false, eval e X.env) :: backTo pos (starEach [] X.env) := by rfl)
    (hpl : (backTo pos (starEach [e] X.env)).any (·.1) = false := by rfl) :
    PE X (.Call (.Name "sorted" p) [e] [⟨some "key", .Name fx q, kpos⟩] pos) (tSortK X.K m sp ta) := by
  intro pins s σ H Q I h
  refine wpAny_Call_Name_kw (ld_blt I hg hm boot_sorted ?_)
  refine callWith_kw ?_ hst hpl
  refine thn (ha pos pins s σ H _ I h) fun us s1 ⟨vs, H1, I1, r1, a, xs, kf, n, ev, hS, hkey, hlen, hq⟩ => ?_
  subst ev
  rw [Vals.ref1 r1]
  refine kws_cons (ld_glob I1 hgf hmf (kws_nil ?_) hdb)
  show wpAny (model X.prog X.w) X.A (call (.builtin "sorted") [.ref a] [(Str.ofString "key", .ref f)]) (EP X pins σ Q) X.xe s1
  exact run_sortK m F hr hb I1 hS hkey hlen hq
end
end L2
namespace XW
open PySem PySem.Spec PyProof.Rows L2
open Sw70 (Mark Swing Note Piece)
/-! ### the text by places -/
def top (i : Nat) : Stmt := PySem.Challenge.pw_exacttimes_s01_answers.main.body.getD i (.Pass ⟨0, 0, 0, 0⟩)
/-! ### the attributes -/
theorem lk_hd {f : Str} {v : V} {r : List (Str × V)} : ((f, v) :: r).lookup f = some v := by simp [List.lookup]
theorem lk_tl {f g : Str} {v : V} {r : List (Str × V)} (h : (g == f) = false) : ((f, v) :: r).lookup g = r.lookup g := by simp [List.lookup, h]
theorem putF_hd {f : Str} {v x : V} {r : List (Str × V)} : putF f v ((f, x) :: r) = (f, v) :: r := by rw [putF, if_pos rfl]
theorem putF_tl {f g : Str} {v x : V} {r : List (Str × V)} (h : (g == f) = false) : putF f v ((g, x) :: r) = (g, x) :: putF f v r := by
  rw [putF, if_neg (by intro e; rw [e] at h; simp at h)]
theorem putF_nil {f : Str} {v : V} : putF f v [] = [(f, v)] := rfl
def fs_Mark (x0 x1 x2 : V) : List (Str × V) := [("tick", x0), ("length", x1), ("even", x2)]
theorem lk_Mark_tick (x0 x1 x2 : V) : (fs_Mark x0 x1 x2).lookup ("tick" : Str) = some x0 := by
  unfold fs_Mark
  rw [lk_hd]
theorem lk_Mark_length (x0 x1 x2 : V) : (fs_Mark x0 x1 x2).lookup ("length" : Str) = some x1 := by
  unfold fs_Mark
  rw [lk_tl (by decide +kernel), lk_hd]
theorem lk_Mark_even (x0 x1 x2 : V) : (fs_Mark x0 x1 x2).lookup ("even" : Str) = some x2 := by
  unfold fs_Mark
  rw [lk_tl (by decide +kernel), lk_tl (by decide +kernel), lk_hd]
theorem mk_Mark (x0 x1 x2 : V) : (putF "even" x2 (putF "length" x1 (putF "tick" x0 []))) = fs_Mark x0 x1 x2 := by
  unfold fs_Mark
  repeat (first | rw [putF_nil] | rw [putF_tl (by decide +kernel)])
def fs_Swing (x0 x1 x2 x3 x4 : V) : List (Str × V) := [("first", x0), ("last", x1), ("pair", x2), ("a", x3), ("b", x4)]
theorem lk_Swing_first (x0 x1 x2 x3 x4 : V) : (fs_Swing x0 x1 x2 x3 x4).lookup ("first" : Str) = some x0 := by
  unfold fs_Swing
  rw [lk_hd]
theorem lk_Swing_last (x0 x1 x2 x3 x4 : V) : (fs_Swing x0 x1 x2 x3 x4).lookup ("last" : Str) = some x1 := by
  unfold fs_Swing
  rw [lk_tl (by decide +kernel), lk_hd]
theorem lk_Swing_pair (x0 x1 x2 x3 x4 : V) : (fs_Swing x0 x1 x2 x3 x4).lookup ("pair" : Str) = some x2 := by
  unfold fs_Swing
  rw [lk_tl (by decide +kernel), lk_tl (by decide +kernel), lk_hd]
theorem lk_Swing_a (x0 x1 x2 x3 x4 : V) : (fs_Swing x0 x1 x2 x3 x4).lookup ("a" : Str) = some x3 := by
  unfold fs_Swing
  rw [lk_tl (by decide +kernel), lk_tl (by decide +kernel), lk_tl (by decide +kernel), lk_hd]
theorem lk_Swing_b (x0 x1 x2 x3 x4 : V) : (fs_Swing x0 x1 x2 x3 x4).lookup ("b" : Str) = some x4 := by
  unfold fs_Swing
  rw [lk_tl (by decide +kernel), lk_tl (by decide +kernel), lk_tl (by decide +kernel), lk_tl (by decide +kernel), lk_hd]
theorem mk_Swing (x0 x1 x2 x3 x4 : V) : (putF "b" x4 (putF "a" x3 (putF "pair" x2 (putF "last" x1 (putF "first" x0 []))))) = fs_Swing x0 x1 x2 x3 x4 := by
  unfold fs_Swing
  repeat (first | rw [putF_nil] | rw [putF_tl (by decide +kernel)])
def fs_Pedal (x0 x1 : V) : List (Str × V) := [("first", x0), ("last", x1)]
theorem lk_Pedal_first (x0 x1 : V) : (fs_Pedal x0 x1).lookup ("first" : Str) = some x0 := by
  unfold fs_Pedal
  rw [lk_hd]
theorem lk_Pedal_last (x0 x1 : V) : (fs_Pedal x0 x1).lookup ("last" : Str) = some x1 := by
  unfold fs_Pedal
  rw [lk_tl (by decide +kernel), lk_hd]
theorem mk_Pedal (x0 x1 : V) : (putF "last" x1 (putF "first" x0 [])) = fs_Pedal x0 x1 := by
  unfold fs_Pedal
  repeat (first | rw [putF_nil] | rw [putF_tl (by decide +kernel)])
def fs_Note (x0 x1 x2 x3 x4 x5 x6 : V) : List (Str × V) := [("voice", x0), ("pitch", x1), ("first", x2), ("length", x3), ("loudness", x4), ("part", x5), ("tied", x6)]
theorem lk_Note_voice (x0 x1 x2 x3 x4 x5 x6 : V) : (fs_Note x0 x1 x2 x3 x4 x5 x6).lookup ("voice" : Str) = some x0 := by
  unfold fs_Note
  rw [lk_hd]
theorem lk_Note_pitch (x0 x1 x2 x3 x4 x5 x6 : V) : (fs_Note x0 x1 x2 x3 x4 x5 x6).lookup ("pitch" : Str) = some x1 := by
  unfold fs_Note
  rw [lk_tl (by decide +kernel), lk_hd]
theorem lk_Note_first (x0 x1 x2 x3 x4 x5 x6 : V) : (fs_Note x0 x1 x2 x3 x4 x5 x6).lookup ("first" : Str) = some x2 := by
  unfold fs_Note
  rw [lk_tl (by decide +kernel), lk_tl (by decide +kernel), lk_hd]
theorem lk_Note_length (x0 x1 x2 x3 x4 x5 x6 : V) : (fs_Note x0 x1 x2 x3 x4 x5 x6).lookup ("length" : Str) = some x3 := by
  unfold fs_Note
  rw [lk_tl (by decide +kernel), lk_tl (by decide +kernel), lk_tl (by decide +kernel), lk_hd]
theorem lk_Note_loudness (x0 x1 x2 x3 x4 x5 x6 : V) : (fs_Note x0 x1 x2 x3 x4 x5 x6).lookup ("loudness" : Str) = some x4 := by
  unfold fs_Note
  rw [lk_tl (by decide +kernel), lk_tl (by decide +kernel), lk_tl (by decide +kernel), lk_tl (by decide +kernel), lk_hd]
theorem lk_Note_part (x0 x1 x2 x3 x4 x5 x6 : V) : (fs_Note x0 x1 x2 x3 x4 x5 x6).lookup ("part" : Str) = some x5 := by
  unfold fs_Note
  rw [lk_tl (by decide +kernel), lk_tl (by decide +kernel), lk_tl (by decide +kernel), lk_tl (by decide +kernel), lk_tl (by decide +kernel), lk_hd]
theorem lk_Note_tied (x0 x1 x2 x3 x4 x5 x6 : V) : (fs_Note x0 x1 x2 x3 x4 x5 x6).lookup ("tied" : Str) = some x6 := by
  unfold fs_Note
  rw [lk_tl (by decide +kernel), lk_tl (by decide +kernel), lk_tl (by decide +kernel), lk_tl (by decide +kernel), lk_tl (by decide +kernel), lk_tl (by decide +kernel), lk_hd]
theorem mk_Note (x0 x1 x2 x3 x4 x5 x6 : V) : (putF "tied" x6 (putF "part" x5 (putF "loudness" x4 (putF "length" x3 (putF "first" x2 (putF "pitch" x1 (putF "voice" x0 []))))))) = fs_Note x0 x1 x2 x3 x4 x5 x6 := by
  unfold fs_Note
  repeat (first | rw [putF_nil] | rw [putF_tl (by decide +kernel)])
def fs_Score (x0 x1 x2 x3 x4 : V) : List (Str × V) := [("ticks", x0), ("marks", x1), ("swings", x2), ("pedals", x3), ("notes", x4)]
theorem lk_Score_ticks (x0 x1 x2 x3 x4 : V) : (fs_Score x0 x1 x2 x3 x4).lookup ("ticks" : Str) = some x0 := by
  unfold fs_Score
  rw [lk_hd]
theorem lk_Score_marks (x0 x1 x2 x3 x4 : V) : (fs_Score x0 x1 x2 x3 x4).lookup ("marks" : Str) = some x1 := by
  unfold fs_Score
  rw [lk_tl (by decide +kernel), lk_hd]
theorem lk_Score_swings (x0 x1 x2 x3 x4 : V) : (fs_Score x0 x1 x2 x3 x4).lookup ("swings" : Str) = some x2 := by
  unfold fs_Score
  rw [lk_tl (by decide +kernel), lk_tl (by decide +kernel), lk_hd]
theorem lk_Score_pedals (x0 x1 x2 x3 x4 : V) : (fs_Score x0 x1 x2 x3 x4).lookup ("pedals" : Str) = some x3 := by
  unfold fs_Score
  rw [lk_tl (by decide +kernel), lk_tl (by decide +kernel), lk_tl (by decide +kernel), lk_hd]
theorem lk_Score_notes (x0 x1 x2 x3 x4 : V) : (fs_Score x0 x1 x2 x3 x4).lookup ("notes" : Str) = some x4 := by
  unfold fs_Score
  rw [lk_tl (by decide +kernel), lk_tl (by decide +kernel), lk_tl (by decide +kernel), lk_tl (by decide +kernel), lk_hd]
theorem mk_Score (x0 x1 x2 x3 x4 : V) : (putF "notes" x4 (putF "pedals" x3 (putF "swings" x2 (putF "marks" x1 (putF "ticks" x0 []))))) = fs_Score x0 x1 x2 x3 x4 := by
  unfold fs_Score
  repeat (first | rw [putF_nil] | rw [putF_tl (by decide +kernel)])
def fs_Stretch (x0 x1 x2 x3 x4 : V) : List (Str × V) := [("tick", x0), ("length", x1), ("rise", x2), ("over", x3), ("passed", x4)]
theorem lk_Stretch_tick (x0 x1 x2 x3 x4 : V) : (fs_Stretch x0 x1 x2 x3 x4).lookup ("tick" : Str) = some x0 := by
  unfold fs_Stretch
  rw [lk_hd]
theorem lk_Stretch_length (x0 x1 x2 x3 x4 : V) : (fs_Stretch x0 x1 x2 x3 x4).lookup ("length" : Str) = some x1 := by
  unfold fs_Stretch
  rw [lk_tl (by decide +kernel), lk_hd]
theorem lk_Stretch_rise (x0 x1 x2 x3 x4 : V) : (fs_Stretch x0 x1 x2 x3 x4).lookup ("rise" : Str) = some x2 := by
  unfold fs_Stretch
  rw [lk_tl (by decide +kernel), lk_tl (by decide +kernel), lk_hd]
theorem lk_Stretch_over (x0 x1 x2 x3 x4 : V) : (fs_Stretch x0 x1 x2 x3 x4).lookup ("over" : Str) = some x3 := by
  unfold fs_Stretch
  rw [lk_tl (by decide +kernel), lk_tl (by decide +kernel), lk_tl (by decide +kernel), lk_hd]
theorem lk_Stretch_passed (x0 x1 x2 x3 x4 : V) : (fs_Stretch x0 x1 x2 x3 x4).lookup ("passed" : Str) = some x4 := by
  unfold fs_Stretch
  rw [lk_tl (by decide +kernel), lk_tl (by decide +kernel), lk_tl (by decide +kernel), lk_tl (by decide +kernel), lk_hd]
theorem mk_Stretch (x0 x1 x2 x3 x4 : V) : (putF "passed" x4 (putF "over" x3 (putF "rise" x2 (putF "length" x1 (putF "tick" x0 []))))) = fs_Stretch x0 x1 x2 x3 x4 := by
  unfold fs_Stretch
  repeat (first | rw [putF_nil] | rw [putF_tl (by decide +kernel)])
def fs_Tempo (x0 x1 x2 : V) : List (Str × V) := [("ticks", x0), ("stretches", x1), ("swings", x2)]
theorem lk_Tempo_ticks (x0 x1 x2 : V) : (fs_Tempo x0 x1 x2).lookup ("ticks" : Str) = some x0 := by
  unfold fs_Tempo
  rw [lk_hd]
theorem lk_Tempo_stretches (x0 x1 x2 : V) : (fs_Tempo x0 x1 x2).lookup ("stretches" : Str) = some x1 := by
  unfold fs_Tempo
  rw [lk_tl (by decide +kernel), lk_hd]
theorem lk_Tempo_swings (x0 x1 x2 : V) : (fs_Tempo x0 x1 x2).lookup ("swings" : Str) = some x2 := by
  unfold fs_Tempo
  rw [lk_tl (by decide +kernel), lk_tl (by decide +kernel), lk_hd]
theorem mk_Tempo (x0 x1 x2 : V) : (putF "swings" x2 (putF "stretches" x1 (putF "ticks" x0 []))) = fs_Tempo x0 x1 x2 := by
  unfold fs_Tempo
  repeat (first | rw [putF_nil] | rw [putF_tl (by decide +kernel)])
def fs_Sound (x0 x1 x2 x3 : V) : List (Str × V) := [("number", x0), ("note", x1), ("beginning", x2), ("ending", x3)]
theorem lk_Sound_number (x0 x1 x2 x3 : V) : (fs_Sound x0 x1 x2 x3).lookup ("number" : Str) = some x0 := by
  unfold fs_Sound
  rw [lk_hd]
theorem lk_Sound_note (x0 x1 x2 x3 : V) : (fs_Sound x0 x1 x2 x3).lookup ("note" : Str) = some x1 := by
  unfold fs_Sound
  rw [lk_tl (by decide +kernel), lk_hd]
theorem lk_Sound_beginning (x0 x1 x2 x3 : V) : (fs_Sound x0 x1 x2 x3).lookup ("beginning" : Str) = some x2 := by
  unfold fs_Sound
  rw [lk_tl (by decide +kernel), lk_tl (by decide +kernel), lk_hd]
theorem lk_Sound_ending (x0 x1 x2 x3 : V) : (fs_Sound x0 x1 x2 x3).lookup ("ending" : Str) = some x3 := by
  unfold fs_Sound
  rw [lk_tl (by decide +kernel), lk_tl (by decide +kernel), lk_tl (by decide +kernel), lk_hd]
theorem mk_Sound (x0 x1 x2 x3 : V) : (putF "ending" x3 (putF "beginning" x2 (putF "note" x1 (putF "number" x0 [])))) = fs_Sound x0 x1 x2 x3 := by
  unfold fs_Sound
  repeat (first | rw [putF_nil] | rw [putF_tl (by decide +kernel)])
def fs_Event (x0 x1 x2 x3 x4 x5 : V) : List (Str × V) := [("time", x0), ("kind", x1), ("voice", x2), ("pitch", x3), ("loudness", x4), ("number", x5)]
theorem lk_Event_time (x0 x1 x2 x3 x4 x5 : V) : (fs_Event x0 x1 x2 x3 x4 x5).lookup ("time" : Str) = some x0 := by
  unfold fs_Event
  rw [lk_hd]
theorem lk_Event_kind (x0 x1 x2 x3 x4 x5 : V) : (fs_Event x0 x1 x2 x3 x4 x5).lookup ("kind" : Str) = some x1 := by
  unfold fs_Event
  rw [lk_tl (by decide +kernel), lk_hd]
theorem lk_Event_voice (x0 x1 x2 x3 x4 x5 : V) : (fs_Event x0 x1 x2 x3 x4 x5).lookup ("voice" : Str) = some x2 := by
  unfold fs_Event
  rw [lk_tl (by decide +kernel), lk_tl (by decide +kernel), lk_hd]
theorem lk_Event_pitch (x0 x1 x2 x3 x4 x5 : V) : (fs_Event x0 x1 x2 x3 x4 x5).lookup ("pitch" : Str) = some x3 := by
  unfold fs_Event
  rw [lk_tl (by decide +kernel), lk_tl (by decide +kernel), lk_tl (by decide +kernel), lk_hd]
theorem lk_Event_loudness (x0 x1 x2 x3 x4 x5 : V) : (fs_Event x0 x1 x2 x3 x4 x5).lookup ("loudness" : Str) = some x4 := by
  unfold fs_Event
  rw [lk_tl (by decide +kernel), lk_tl (by decide +kernel), lk_tl (by decide +kernel), lk_tl (by decide +kernel), lk_hd]
theorem lk_Event_number (x0 x1 x2 x3 x4 x5 : V) : (fs_Event x0 x1 x2 x3 x4 x5).lookup ("number" : Str) = some x5 := by
  unfold fs_Event
  rw [lk_tl (by decide +kernel), lk_tl (by decide +kernel), lk_tl (by decide +kernel), lk_tl (by decide +kernel), lk_tl (by decide +kernel), lk_hd]
theorem mk_Event (x0 x1 x2 x3 x4 x5 : V) : (putF "number" x5 (putF "loudness" x4 (putF "pitch" x3 (putF "voice" x2 (putF "kind" x1 (putF "time" x0 [])))))) = fs_Event x0 x1 x2 x3 x4 x5 := by
  unfold fs_Event
  repeat (first | rw [putF_nil] | rw [putF_tl (by decide +kernel)])
theorem pt_Score_ticks (x0 x1 x2 x3 x4 y : V) : putF ("ticks" : Str) y (fs_Score x0 x1 x2 x3 x4) = fs_Score y x1 x2 x3 x4 := by
  unfold fs_Score
  rw [putF_hd]
theorem pt_Score_marks (x0 x1 x2 x3 x4 y : V) : putF ("marks" : Str) y (fs_Score x0 x1 x2 x3 x4) = fs_Score x0 y x2 x3 x4 := by
  unfold fs_Score
  rw [putF_tl (by decide +kernel), putF_hd]
theorem pt_Score_swings (x0 x1 x2 x3 x4 y : V) : putF ("swings" : Str) y (fs_Score x0 x1 x2 x3 x4) = fs_Score x0 x1 y x3 x4 := by
  unfold fs_Score
  rw [putF_tl (by decide +kernel), putF_tl (by decide +kernel), putF_hd]
theorem pt_Score_pedals (x0 x1 x2 x3 x4 y : V) : putF ("pedals" : Str) y (fs_Score x0 x1 x2 x3 x4) = fs_Score x0 x1 x2 y x4 := by
  unfold fs_Score
  rw [putF_tl (by decide +kernel), putF_tl (by decide +kernel), putF_tl (by decide +kernel), putF_hd]
theorem pt_Score_notes (x0 x1 x2 x3 x4 y : V) : putF ("notes" : Str) y (fs_Score x0 x1 x2 x3 x4) = fs_Score x0 x1 x2 x3 y := by
  unfold fs_Score
  rw [putF_tl (by decide +kernel), putF_tl (by decide +kernel), putF_tl (by decide +kernel), putF_tl (by decide +kernel), putF_hd]
theorem pt_Sound_number (x0 x1 x2 x3 y : V) : putF ("number" : Str) y (fs_Sound x0 x1 x2 x3) = fs_Sound y x1 x2 x3 := by
  unfold fs_Sound
  rw [putF_hd]
theorem pt_Sound_note (x0 x1 x2 x3 y : V) : putF ("note" : Str) y (fs_Sound x0 x1 x2 x3) = fs_Sound x0 y x2 x3 := by
  unfold fs_Sound
  rw [putF_tl (by decide +kernel), putF_hd]
theorem pt_Sound_beginning (x0 x1 x2 x3 y : V) : putF ("beginning" : Str) y (fs_Sound x0 x1 x2 x3) = fs_Sound x0 x1 y x3 := by
  unfold fs_Sound
  rw [putF_tl (by decide +kernel), putF_tl (by decide +kernel), putF_hd]
theorem pt_Sound_ending (x0 x1 x2 x3 y : V) : putF ("ending" : Str) y (fs_Sound x0 x1 x2 x3) = fs_Sound x0 x1 x2 y := by
  unfold fs_Sound
  rw [putF_tl (by decide +kernel), putF_tl (by decide +kernel), putF_tl (by decide +kernel), putF_hd]
theorem no_Score_clear_to (x0 x1 x2 x3 x4 : V) : (fs_Score x0 x1 x2 x3 x4).lookup ("clear_to" : Str) = none := by
  unfold fs_Score
  rw [lk_tl (by decide +kernel), lk_tl (by decide +kernel), lk_tl (by decide +kernel), lk_tl (by decide +kernel), lk_tl (by decide +kernel)]
  rfl
theorem no_Score_begin (x0 x1 x2 x3 x4 : V) : (fs_Score x0 x1 x2 x3 x4).lookup ("begin" : Str) = none := by
  unfold fs_Score
  rw [lk_tl (by decide +kernel), lk_tl (by decide +kernel), lk_tl (by decide +kernel), lk_tl (by decide +kernel), lk_tl (by decide +kernel)]
  rfl
theorem no_Score_put_mark (x0 x1 x2 x3 x4 : V) : (fs_Score x0 x1 x2 x3 x4).lookup ("put_mark" : Str) = none := by
  unfold fs_Score
  rw [lk_tl (by decide +kernel), lk_tl (by decide +kernel), lk_tl (by decide +kernel), lk_tl (by decide +kernel), lk_tl (by decide +kernel)]
  rfl
theorem no_Score_put_swing (x0 x1 x2 x3 x4 : V) : (fs_Score x0 x1 x2 x3 x4).lookup ("put_swing" : Str) = none := by
  unfold fs_Score
  rw [lk_tl (by decide +kernel), lk_tl (by decide +kernel), lk_tl (by decide +kernel), lk_tl (by decide +kernel), lk_tl (by decide +kernel)]
  rfl
theorem no_Score_put_pedal (x0 x1 x2 x3 x4 : V) : (fs_Score x0 x1 x2 x3 x4).lookup ("put_pedal" : Str) = none := by
  unfold fs_Score
  rw [lk_tl (by decide +kernel), lk_tl (by decide +kernel), lk_tl (by decide +kernel), lk_tl (by decide +kernel), lk_tl (by decide +kernel)]
  rfl
theorem no_Score_put_note (x0 x1 x2 x3 x4 : V) : (fs_Score x0 x1 x2 x3 x4).lookup ("put_note" : Str) = none := by
  unfold fs_Score
  rw [lk_tl (by decide +kernel), lk_tl (by decide +kernel), lk_tl (by decide +kernel), lk_tl (by decide +kernel), lk_tl (by decide +kernel)]
  rfl
theorem no_Score_farthest_tick (x0 x1 x2 x3 x4 : V) : (fs_Score x0 x1 x2 x3 x4).lookup ("farthest_tick" : Str) = none := by
  unfold fs_Score
  rw [lk_tl (by decide +kernel), lk_tl (by decide +kernel), lk_tl (by decide +kernel), lk_tl (by decide +kernel), lk_tl (by decide +kernel)]
  rfl
theorem no_Score_move (x0 x1 x2 x3 x4 : V) : (fs_Score x0 x1 x2 x3 x4).lookup ("move" : Str) = none := by
  unfold fs_Score
  rw [lk_tl (by decide +kernel), lk_tl (by decide +kernel), lk_tl (by decide +kernel), lk_tl (by decide +kernel), lk_tl (by decide +kernel)]
  rfl
theorem no_Tempo_swung (x0 x1 x2 : V) : (fs_Tempo x0 x1 x2).lookup ("swung" : Str) = none := by
  unfold fs_Tempo
  rw [lk_tl (by decide +kernel), lk_tl (by decide +kernel), lk_tl (by decide +kernel)]
  rfl
theorem no_Tempo_stretch_at (x0 x1 x2 : V) : (fs_Tempo x0 x1 x2).lookup ("stretch_at" : Str) = none := by
  unfold fs_Tempo
  rw [lk_tl (by decide +kernel), lk_tl (by decide +kernel), lk_tl (by decide +kernel)]
  rfl
theorem no_Tempo_time_of (x0 x1 x2 : V) : (fs_Tempo x0 x1 x2).lookup ("time_of" : Str) = none := by
  unfold fs_Tempo
  rw [lk_tl (by decide +kernel), lk_tl (by decide +kernel), lk_tl (by decide +kernel)]
  rfl
theorem no_Tempo_tick_at (x0 x1 x2 : V) : (fs_Tempo x0 x1 x2).lookup ("tick_at" : Str) = none := by
  unfold fs_Tempo
  rw [lk_tl (by decide +kernel), lk_tl (by decide +kernel), lk_tl (by decide +kernel)]
  rfl
/-! ### what stands behind the top -/
--NBDEF
structure KCl (K : PySem.W.Frag) (mg : Str → Option Value) (x : Str) (fs : List Str) where
  C : Addr
  cl : Cls K C
  g : mg x = some (.ref C)
  na : ∀ f ∈ fs, NoAttr K C f
structure GFn (K : PySem.W.Frag) (mg : Str → Option Value) (x : Str) (st : Stmt) (ps : List Str) where
  A : Addr
  D : FuncData
  f : Fun K x x st A D
  b : Binds K D ps []
  g : mg x = some (.ref A)
structure MFn (K : PySem.W.Frag) (C : Addr) (x qual : Str) (st : Stmt) (ps : List Str) where
  A : Addr
  D : FuncData
  f : Fun K x qual st A D
  b : Binds K D ps []
  m : Meth K C x A
structure IFn (K : PySem.W.Frag) (C : Addr) (qual : Str) (st : Stmt) (ps : List Str) where
  A : Addr
  D : FuncData
  f : Fun K "__init__" qual st A D
  b : Binds K D ps []
  k : Mk K C A
set_option genInjectivity false in
set_option genSizeOf false in
structure Txt (K : PySem.W.Frag) (mg : Str → Option Value) where
  K_Mark : KCl K mg "Mark" ["tick", "length", "even"]
  K_Swing : KCl K mg "Swing" ["first", "last", "pair", "a", "b"]
  K_Pedal : KCl K mg "Pedal" ["first", "last"]
  K_Note : KCl K mg "Note" ["voice", "pitch", "first", "length", "loudness", "part", "tied"]
  K_Score : KCl K mg "Score" ["ticks", "marks", "swings", "pedals", "notes"]
  K_Stretch : KCl K mg "Stretch" ["tick", "length", "rise", "over", "passed"]
  K_Tempo : KCl K mg "Tempo" ["ticks", "stretches", "swings"]
  K_Sound : KCl K mg "Sound" ["number", "note", "beginning", "ending"]
  K_Event : KCl K mg "Event" ["time", "kind", "voice", "pitch", "loudness", "number"]
  F_greatest_divisor : GFn K mg "greatest_divisor" (top 1) ["one", "other"]
  F_is_after : GFn K mg "is_after" (top 2) ["fraction", "other"]
  F_nearest : GFn K mg "nearest" (top 3) ["fraction"]
  F_told : GFn K mg "told" (top 4) ["fraction"]
  F_Mark_init : IFn K K_Mark.C "Mark.__init__" (inClass (top 22) 0) ["self", "tick", "length", "even"]
  F_Swing_init : IFn K K_Swing.C "Swing.__init__" (inClass (top 23) 0) ["self", "first", "last", "pair", "a", "b"]
  F_Pedal_init : IFn K K_Pedal.C "Pedal.__init__" (inClass (top 24) 0) ["self", "first", "last"]
  F_Note_init : IFn K K_Note.C "Note.__init__" (inClass (top 25) 0) ["self", "voice", "pitch", "first", "length", "loudness", "part", "tied"]
  F_mark_tick : GFn K mg "mark_tick" (top 26) ["mark"]
  F_mark_is_as_told : GFn K mg "mark_is_as_told" (top 27) ["mark"]
  F_span_is_as_told : GFn K mg "span_is_as_told" (top 28) ["span"]
  F_pairs_fit : GFn K mg "pairs_fit" (top 29) ["swing"]
  F_swing_is_as_told : GFn K mg "swing_is_as_told" (top 30) ["swing"]
  F_note_end : GFn K mg "note_end" (top 31) ["note"]
  F_note_is_as_told : GFn K mg "note_is_as_told" (top 32) ["note"]
  F_has_tick_in_common : GFn K mg "has_tick_in_common" (top 33) ["span", "others"]
  F_put_span : GFn K mg "put_span" (top 34) ["spans", "span"]
  F_later_mark : GFn K mg "later_mark" (top 35) ["mark", "ticks"]
  F_later_swing : GFn K mg "later_swing" (top 36) ["swing", "ticks"]
  F_later_pedal : GFn K mg "later_pedal" (top 37) ["pedal", "ticks"]
  F_later_note : GFn K mg "later_note" (top 38) ["note", "ticks"]
  F_Score_init : IFn K K_Score.C "Score.__init__" (inClass (top 39) 0) ["self"]
  F_Score_clear_to : MFn K K_Score.C "clear_to" "Score.clear_to" (inClass (top 39) 1) ["self", "ticks"]
  F_Score_begin : MFn K K_Score.C "begin" "Score.begin" (inClass (top 39) 2) ["self", "ticks"]
  F_Score_put_mark : MFn K K_Score.C "put_mark" "Score.put_mark" (inClass (top 39) 3) ["self", "mark"]
  F_Score_put_swing : MFn K K_Score.C "put_swing" "Score.put_swing" (inClass (top 39) 4) ["self", "swing"]
  F_Score_put_pedal : MFn K K_Score.C "put_pedal" "Score.put_pedal" (inClass (top 39) 5) ["self", "pedal"]
  F_Score_put_note : MFn K K_Score.C "put_note" "Score.put_note" (inClass (top 39) 6) ["self", "note"]
  F_Score_farthest_tick : MFn K K_Score.C "farthest_tick" "Score.farthest_tick" (inClass (top 39) 7) ["self"]
  F_Score_move : MFn K K_Score.C "move" "Score.move" (inClass (top 39) 8) ["self", "ticks"]
  F_Stretch_init : IFn K K_Stretch.C "Stretch.__init__" (inClass (top 41) 0) ["self", "tick", "length", "rise", "over", "passed"]
  F_stretches_of : GFn K mg "stretches_of" (top 42) ["marks"]
  F_is_within : GFn K mg "is_within" (top 43) ["span", "place"]
  F_swung_by : GFn K mg "swung_by" (top 44) ["swing", "place"]
  F_Tempo_init : IFn K K_Tempo.C "Tempo.__init__" (inClass (top 45) 0) ["self", "score"]
  F_Tempo_swung : MFn K K_Tempo.C "swung" "Tempo.swung" (inClass (top 45) 1) ["self", "place"]
  F_Tempo_stretch_at : MFn K K_Tempo.C "stretch_at" "Tempo.stretch_at" (inClass (top 45) 2) ["self", "place"]
  F_Tempo_time_of : MFn K K_Tempo.C "time_of" "Tempo.time_of" (inClass (top 45) 3) ["self", "place"]
  F_Tempo_tick_at : MFn K K_Tempo.C "tick_at" "Tempo.tick_at" (inClass (top 45) 4) ["self", "time"]
  F_Sound_init : IFn K K_Sound.C "Sound.__init__" (inClass (top 47) 0) ["self", "number", "note", "ending"]
  F_numbers_by_beginning : GFn K mg "numbers_by_beginning" (top 48) ["notes"]
  F_ties_of : GFn K mg "ties_of" (top 49) ["notes"]
  F_last_number : GFn K mg "last_number" (top 50) ["number", "ties"]
  F_place_of_end : GFn K mg "place_of_end" (top 51) ["note", "pedals"]
  F_order_of_striking : GFn K mg "order_of_striking" (top 52) ["sound"]
  F_are_alike : GFn K mg "are_alike" (top 53) ["sound", "other"]
  F_end_one_another : GFn K mg "end_one_another" (top 54) ["sounds"]
  F_sounds_of : GFn K mg "sounds_of" (top 55) ["score"]
  F_Event_init : IFn K K_Event.C "Event.__init__" (inClass (top 59) 0) ["self", "time", "kind", "sound"]
  F_order_of_events : GFn K mg "order_of_events" (top 60) ["event"]
  F_events_of : GFn K mg "events_of" (top 61) ["score"]
  F_read_mark : GFn K mg "read_mark" (top 74) ["numbers"]
  F_read_swing : GFn K mg "read_swing" (top 75) ["numbers"]
  F_read_pedal : GFn K mg "read_pedal" (top 76) ["numbers"]
  F_read_note : GFn K mg "read_note" (top 77) ["numbers"]
  F_counted : GFn K mg "counted" (top 78) ["numbers"]
  F_answer_time : GFn K mg "answer_time" (top 79) ["score", "tick"]
  F_answer_sounds : GFn K mg "answer_sounds" (top 80) ["score"]
  F_answer_events : GFn K mg "answer_events" (top 81) ["score"]
  F_answer_call : GFn K mg "answer_call" (top 82) ["score", "call", "numbers"]
  F_answers : GFn K mg "answers" (top 83) ["calls"]
  c_NOT_AS_TOLD : ∃ t, mg "NOT_AS_TOLD" = some (Value.int (-1) t)
  c_IN_COMMON : ∃ t, mg "IN_COMMON" = some (Value.int (-3) t)
  c_TOO_MANY : ∃ t, mg "TOO_MANY" = some (Value.int (-5) t)
  c_LAST_TICK : ∃ t, mg "LAST_TICK" = some (Value.int 1000000 t)
  c_GREATEST_QUARTER : ∃ t, mg "GREATEST_QUARTER" = some (Value.int 960 t)
  c_LONGEST_QUARTER : ∃ t, mg "LONGEST_QUARTER" = some (Value.int 10000000 t)
  c_GREATEST_SHARE : ∃ t, mg "GREATEST_SHARE" = some (Value.int 20 t)
  c_GREATEST_VOICE : ∃ t, mg "GREATEST_VOICE" = some (Value.int 15 t)
  c_GREATEST_PITCH : ∃ t, mg "GREATEST_PITCH" = some (Value.int 127 t)
  c_GREATEST_LOUDNESS : ∃ t, mg "GREATEST_LOUDNESS" = some (Value.int 127 t)
  c_GREATEST_PART : ∃ t, mg "GREATEST_PART" = some (Value.int 100 t)
  c_MOST_MARKS : ∃ t, mg "MOST_MARKS" = some (Value.int 50 t)
  c_MOST_SPANS : ∃ t, mg "MOST_SPANS" = some (Value.int 30 t)
  c_MOST_NOTES : ∃ t, mg "MOST_NOTES" = some (Value.int 200 t)
  c_FIRST_TICKS : ∃ t, mg "FIRST_TICKS" = some (Value.int 480 t)
  c_FIRST_LENGTH : ∃ t, mg "FIRST_LENGTH" = some (Value.int 500000 t)
  c_BEGINNING : ∃ t, mg "BEGINNING" = some (Value.int 1 t)
  c_END : ∃ t, mg "END" = some (Value.int 0 t)
  c_BEGINS : ∃ t, mg "BEGINS" = some (Value.int 0 t)
  c_MARK : ∃ t, mg "MARK" = some (Value.int 1 t)
  c_SWING : ∃ t, mg "SWING" = some (Value.int 2 t)
  c_PEDAL : ∃ t, mg "PEDAL" = some (Value.int 3 t)
  c_NOTE : ∃ t, mg "NOTE" = some (Value.int 4 t)
  c_TIME : ∃ t, mg "TIME" = some (Value.int 5 t)
  c_AT : ∃ t, mg "AT" = some (Value.int 6 t)
  c_SOUNDS : ∃ t, mg "SOUNDS" = some (Value.int 7 t)
  c_EVENTS : ∃ t, mg "EVENTS" = some (Value.int 8 t)
  c_MOVED : ∃ t, mg "MOVED" = some (Value.int 9 t)
  nb : NbAt K mg
  n_enumerate : mg "enumerate" = none
  n_len : mg "len" = none
  n_max : mg "max" = none
  n_sorted : mg "sorted" = none
  n_zip : mg "zip" = none
namespace Txt
variable {K : PySem.W.Frag} {mg : Str → Option Value} (T : Txt K mg)
abbrev C_Mark : Addr := T.K_Mark.C
theorem cl_Mark : Cls K T.C_Mark := T.K_Mark.cl
theorem g_Mark : mg "Mark" = some (.ref T.C_Mark) := T.K_Mark.g
theorem a_Mark_tick : NoAttr K T.C_Mark "tick" := T.K_Mark.na "tick" (by simp)
theorem a_Mark_length : NoAttr K T.C_Mark "length" := T.K_Mark.na "length" (by simp)
theorem a_Mark_even : NoAttr K T.C_Mark "even" := T.K_Mark.na "even" (by simp)
abbrev C_Swing : Addr := T.K_Swing.C
theorem cl_Swing : Cls K T.C_Swing := T.K_Swing.cl
theorem g_Swing : mg "Swing" = some (.ref T.C_Swing) := T.K_Swing.g
theorem a_Swing_first : NoAttr K T.C_Swing "first" := T.K_Swing.na "first" (by simp)
theorem a_Swing_last : NoAttr K T.C_Swing "last" := T.K_Swing.na "last" (by simp)
theorem a_Swing_pair : NoAttr K T.C_Swing "pair" := T.K_Swing.na "pair" (by simp)
theorem a_Swing_a : NoAttr K T.C_Swing "a" := T.K_Swing.na "a" (by simp)
theorem a_Swing_b : NoAttr K T.C_Swing "b" := T.K_Swing.na "b" (by simp)
abbrev C_Pedal : Addr := T.K_Pedal.C
theorem cl_Pedal : Cls K T.C_Pedal := T.K_Pedal.cl
theorem g_Pedal : mg "Pedal" = some (.ref T.C_Pedal) := T.K_Pedal.g
theorem a_Pedal_first : NoAttr K T.C_Pedal "first" := T.K_Pedal.na "first" (by simp)
theorem a_Pedal_last : NoAttr K T.C_Pedal "last" := T.K_Pedal.na "last" (by simp)
abbrev C_Note : Addr := T.K_Note.C
theorem cl_Note : Cls K T.C_Note := T.K_Note.cl
theorem g_Note : mg "Note" = some (.ref T.C_Note) := T.K_Note.g
theorem a_Note_voice : NoAttr K T.C_Note "voice" := T.K_Note.na "voice" (by simp)
theorem a_Note_pitch : NoAttr K T.C_Note "pitch" := T.K_Note.na "pitch" (by simp)
theorem a_Note_first : NoAttr K T.C_Note "first" := T.K_Note.na "first" (by simp)
theorem a_Note_length : NoAttr K T.C_Note "length" := T.K_Note.na "length" (by simp)
theorem a_Note_loudness : NoAttr K T.C_Note "loudness" := T.K_Note.na "loudness" (by simp)
theorem a_Note_part : NoAttr K T.C_Note "part" := T.K_Note.na "part" (by simp)
theorem a_Note_tied : NoAttr K T.C_Note "tied" := T.K_Note.na "tied" (by simp)
abbrev C_Score : Addr := T.K_Score.C
theorem cl_Score : Cls K T.C_Score := T.K_Score.cl
theorem g_Score : mg "Score" = some (.ref T.C_Score) := T.K_Score.g
theorem a_Score_ticks : NoAttr K T.C_Score "ticks" := T.K_Score.na "ticks" (by simp)
theorem a_Score_marks : NoAttr K T.C_Score "marks" := T.K_Score.na "marks" (by simp)
theorem a_Score_swings : NoAttr K T.C_Score "swings" := T.K_Score.na "swings" (by simp)
theorem a_Score_pedals : NoAttr K T.C_Score "pedals" := T.K_Score.na "pedals" (by simp)
theorem a_Score_notes : NoAttr K T.C_Score "notes" := T.K_Score.na "notes" (by simp)
abbrev C_Stretch : Addr := T.K_Stretch.C
theorem cl_Stretch : Cls K T.C_Stretch := T.K_Stretch.cl
theorem g_Stretch : mg "Stretch" = some (.ref T.C_Stretch) := T.K_Stretch.g
theorem a_Stretch_tick : NoAttr K T.C_Stretch "tick" := T.K_Stretch.na "tick" (by simp)
theorem a_Stretch_length : NoAttr K T.C_Stretch "length" := T.K_Stretch.na "length" (by simp)
theorem a_Stretch_rise : NoAttr K T.C_Stretch "rise" := T.K_Stretch.na "rise" (by simp)
theorem a_Stretch_over : NoAttr K T.C_Stretch "over" := T.K_Stretch.na "over" (by simp)
theorem a_Stretch_passed : NoAttr K T.C_Stretch "passed" := T.K_Stretch.na "passed" (by simp)
abbrev C_Tempo : Addr := T.K_Tempo.C
theorem cl_Tempo : Cls K T.C_Tempo := T.K_Tempo.cl
theorem g_Tempo : mg "Tempo" = some (.ref T.C_Tempo) := T.K_Tempo.g
theorem a_Tempo_ticks : NoAttr K T.C_Tempo "ticks" := T.K_Tempo.na "ticks" (by simp)
theorem a_Tempo_stretches : NoAttr K T.C_Tempo "stretches" := T.K_Tempo.na "stretches" (by simp)
theorem a_Tempo_swings : NoAttr K T.C_Tempo "swings" := T.K_Tempo.na "swings" (by simp)
abbrev C_Sound : Addr := T.K_Sound.C
theorem cl_Sound : Cls K T.C_Sound := T.K_Sound.cl
theorem g_Sound : mg "Sound" = some (.ref T.C_Sound) := T.K_Sound.g
theorem a_Sound_number : NoAttr K T.C_Sound "number" := T.K_Sound.na "number" (by simp)
theorem a_Sound_note : NoAttr K T.C_Sound "note" := T.K_Sound.na "note" (by simp)
theorem a_Sound_beginning : NoAttr K T.C_Sound "beginning" := T.K_Sound.na "beginning" (by simp)
theorem a_Sound_ending : NoAttr K T.C_Sound "ending" := T.K_Sound.na "ending" (by simp)
abbrev C_Event : Addr := T.K_Event.C
theorem cl_Event : Cls K T.C_Event := T.K_Event.cl
theorem g_Event : mg "Event" = some (.ref T.C_Event) := T.K_Event.g
theorem a_Event_time : NoAttr K T.C_Event "time" := T.K_Event.na "time" (by simp)
theorem a_Event_kind : NoAttr K T.C_Event "kind" := T.K_Event.na "kind" (by simp)
theorem a_Event_voice : NoAttr K T.C_Event "voice" := T.K_Event.na "voice" (by simp)
theorem a_Event_pitch : NoAttr K T.C_Event "pitch" := T.K_Event.na "pitch" (by simp)
theorem a_Event_loudness : NoAttr K T.C_Event "loudness" := T.K_Event.na "loudness" (by simp)
theorem a_Event_number : NoAttr K T.C_Event "number" := T.K_Event.na "number" (by simp)
abbrev A_greatest_divisor : Addr := T.F_greatest_divisor.A
abbrev D_greatest_divisor : FuncData := T.F_greatest_divisor.D
theorem f_greatest_divisor : Fun K "greatest_divisor" "greatest_divisor" (top 1) T.A_greatest_divisor T.D_greatest_divisor := T.F_greatest_divisor.f
theorem b_greatest_divisor : Binds K T.D_greatest_divisor ["one", "other"] [] := T.F_greatest_divisor.b
theorem g_greatest_divisor : mg "greatest_divisor" = some (.ref T.A_greatest_divisor) := T.F_greatest_divisor.g
abbrev A_is_after : Addr := T.F_is_after.A
abbrev D_is_after : FuncData := T.F_is_after.D
theorem f_is_after : Fun K "is_after" "is_after" (top 2) T.A_is_after T.D_is_after := T.F_is_after.f
theorem b_is_after : Binds K T.D_is_after ["fraction", "other"] [] := T.F_is_after.b
theorem g_is_after : mg "is_after" = some (.ref T.A_is_after) := T.F_is_after.g
abbrev A_nearest : Addr := T.F_nearest.A
abbrev D_nearest : FuncData := T.F_nearest.D
theorem f_nearest : Fun K "nearest" "nearest" (top 3) T.A_nearest T.D_nearest := T.F_nearest.f
theorem b_nearest : Binds K T.D_nearest ["fraction"] [] := T.F_nearest.b
theorem g_nearest : mg "nearest" = some (.ref T.A_nearest) := T.F_nearest.g
abbrev A_told : Addr := T.F_told.A
abbrev D_told : FuncData := T.F_told.D
theorem f_told : Fun K "told" "told" (top 4) T.A_told T.D_told := T.F_told.f
theorem b_told : Binds K T.D_told ["fraction"] [] := T.F_told.b
theorem g_told : mg "told" = some (.ref T.A_told) := T.F_told.g
abbrev A_Mark_init : Addr := T.F_Mark_init.A
abbrev D_Mark_init : FuncData := T.F_Mark_init.D
theorem f_Mark_init : Fun K "__init__" "Mark.__init__" (inClass (top 22) 0) T.A_Mark_init T.D_Mark_init := T.F_Mark_init.f
theorem b_Mark_init : Binds K T.D_Mark_init ["self", "tick", "length", "even"] [] := T.F_Mark_init.b
theorem k_Mark : Mk K T.C_Mark T.A_Mark_init := T.F_Mark_init.k
abbrev A_Swing_init : Addr := T.F_Swing_init.A
abbrev D_Swing_init : FuncData := T.F_Swing_init.D
theorem f_Swing_init : Fun K "__init__" "Swing.__init__" (inClass (top 23) 0) T.A_Swing_init T.D_Swing_init := T.F_Swing_init.f
theorem b_Swing_init : Binds K T.D_Swing_init ["self", "first", "last", "pair", "a", "b"] [] := T.F_Swing_init.b
theorem k_Swing : Mk K T.C_Swing T.A_Swing_init := T.F_Swing_init.k
abbrev A_Pedal_init : Addr := T.F_Pedal_init.A
abbrev D_Pedal_init : FuncData := T.F_Pedal_init.D
theorem f_Pedal_init : Fun K "__init__" "Pedal.__init__" (inClass (top 24) 0) T.A_Pedal_init T.D_Pedal_init := T.F_Pedal_init.f
theorem b_Pedal_init : Binds K T.D_Pedal_init ["self", "first", "last"] [] := T.F_Pedal_init.b
theorem k_Pedal : Mk K T.C_Pedal T.A_Pedal_init := T.F_Pedal_init.k
abbrev A_Note_init : Addr := T.F_Note_init.A
abbrev D_Note_init : FuncData := T.F_Note_init.D
theorem f_Note_init : Fun K "__init__" "Note.__init__" (inClass (top 25) 0) T.A_Note_init T.D_Note_init := T.F_Note_init.f
theorem b_Note_init : Binds K T.D_Note_init ["self", "voice", "pitch", "first", "length", "loudness", "part", "tied"] [] := T.F_Note_init.b
theorem k_Note : Mk K T.C_Note T.A_Note_init := T.F_Note_init.k
abbrev A_mark_tick : Addr := T.F_mark_tick.A
abbrev D_mark_tick : FuncData := T.F_mark_tick.D
theorem f_mark_tick : Fun K "mark_tick" "mark_tick" (top 26) T.A_mark_tick T.D_mark_tick := T.F_mark_tick.f
theorem b_mark_tick : Binds K T.D_mark_tick ["mark"] [] := T.F_mark_tick.b
theorem g_mark_tick : mg "mark_tick" = some (.ref T.A_mark_tick) := T.F_mark_tick.g
abbrev A_mark_is_as_told : Addr := T.F_mark_is_as_told.A
abbrev D_mark_is_as_told : FuncData := T.F_mark_is_as_told.D
theorem f_mark_is_as_told : Fun K "mark_is_as_told" "mark_is_as_told" (top 27) T.A_mark_is_as_told T.D_mark_is_as_told := T.F_mark_is_as_told.f
theorem b_mark_is_as_told : Binds K T.D_mark_is_as_told ["mark"] [] := T.F_mark_is_as_told.b
theorem g_mark_is_as_told : mg "mark_is_as_told" = some (.ref T.A_mark_is_as_told) := T.F_mark_is_as_told.g
abbrev A_span_is_as_told : Addr := T.F_span_is_as_told.A
abbrev D_span_is_as_told : FuncData := T.F_span_is_as_told.D
theorem f_span_is_as_told : Fun K "span_is_as_told" "span_is_as_told" (top 28) T.A_span_is_as_told T.D_span_is_as_told := T.F_span_is_as_told.f
theorem b_span_is_as_told : Binds K T.D_span_is_as_told ["span"] [] := T.F_span_is_as_told.b
theorem g_span_is_as_told : mg "span_is_as_told" = some (.ref T.A_span_is_as_told) := T.F_span_is_as_told.g
abbrev A_pairs_fit : Addr := T.F_pairs_fit.A
abbrev D_pairs_fit : FuncData := T.F_pairs_fit.D
theorem f_pairs_fit : Fun K "pairs_fit" "pairs_fit" (top 29) T.A_pairs_fit T.D_pairs_fit := T.F_pairs_fit.f
theorem b_pairs_fit : Binds K T.D_pairs_fit ["swing"] [] := T.F_pairs_fit.b
theorem g_pairs_fit : mg "pairs_fit" = some (.ref T.A_pairs_fit) := T.F_pairs_fit.g
abbrev A_swing_is_as_told : Addr := T.F_swing_is_as_told.A
abbrev D_swing_is_as_told : FuncData := T.F_swing_is_as_told.D
theorem f_swing_is_as_told : Fun K "swing_is_as_told" "swing_is_as_told" (top 30) T.A_swing_is_as_told T.D_swing_is_as_told := T.F_swing_is_as_told.f
theorem b_swing_is_as_told : Binds K T.D_swing_is_as_told ["swing"] [] := T.F_swing_is_as_told.b
theorem g_swing_is_as_told : mg "swing_is_as_told" = some (.ref T.A_swing_is_as_told) := T.F_swing_is_as_told.g
abbrev A_note_end : Addr := T.F_note_end.A
abbrev D_note_end : FuncData := T.F_note_end.D
theorem f_note_end : Fun K "note_end" "note_end" (top 31) T.A_note_end T.D_note_end := T.F_note_end.f
theorem b_note_end : Binds K T.D_note_end ["note"] [] := T.F_note_end.b
theorem g_note_end : mg "note_end" = some (.ref T.A_note_end) := T.F_note_end.g
abbrev A_note_is_as_told : Addr := T.F_note_is_as_told.A
abbrev D_note_is_as_told : FuncData := T.F_note_is_as_told.D
theorem f_note_is_as_told : Fun K "note_is_as_told" "note_is_as_told" (top 32) T.A_note_is_as_told T.D_note_is_as_told := T.F_note_is_as_told.f
theorem b_note_is_as_told : Binds K T.D_note_is_as_told ["note"] [] := T.F_note_is_as_told.b
theorem g_note_is_as_told : mg "note_is_as_told" = some (.ref T.A_note_is_as_told) := T.F_note_is_as_told.g
abbrev A_has_tick_in_common : Addr := T.F_has_tick_in_common.A
abbrev D_has_tick_in_common : FuncData := T.F_has_tick_in_common.D
theorem f_has_tick_in_common : Fun K "has_tick_in_common" "has_tick_in_common" (top 33) T.A_has_tick_in_common T.D_has_tick_in_common := T.F_has_tick_in_common.f
theorem b_has_tick_in_common : Binds K T.D_has_tick_in_common ["span", "others"] [] := T.F_has_tick_in_common.b
theorem g_has_tick_in_common : mg "has_tick_in_common" = some (.ref T.A_has_tick_in_common) := T.F_has_tick_in_common.g
abbrev A_put_span : Addr := T.F_put_span.A
abbrev D_put_span : FuncData := T.F_put_span.D
theorem f_put_span : Fun K "put_span" "put_span" (top 34) T.A_put_span T.D_put_span := T.F_put_span.f
theorem b_put_span : Binds K T.D_put_span ["spans", "span"] [] := T.F_put_span.b
theorem g_put_span : mg "put_span" = some (.ref T.A_put_span) := T.F_put_span.g
abbrev A_later_mark : Addr := T.F_later_mark.A
abbrev D_later_mark : FuncData := T.F_later_mark.D
theorem f_later_mark : Fun K "later_mark" "later_mark" (top 35) T.A_later_mark T.D_later_mark := T.F_later_mark.f
theorem b_later_mark : Binds K T.D_later_mark ["mark", "ticks"] [] := T.F_later_mark.b
theorem g_later_mark : mg "later_mark" = some (.ref T.A_later_mark) := T.F_later_mark.g
abbrev A_later_swing : Addr := T.F_later_swing.A
abbrev D_later_swing : FuncData := T.F_later_swing.D
theorem f_later_swing : Fun K "later_swing" "later_swing" (top 36) T.A_later_swing T.D_later_swing := T.F_later_swing.f
theorem b_later_swing : Binds K T.D_later_swing ["swing", "ticks"] [] := T.F_later_swing.b
theorem g_later_swing : mg "later_swing" = some (.ref T.A_later_swing) := T.F_later_swing.g
abbrev A_later_pedal : Addr := T.F_later_pedal.A
abbrev D_later_pedal : FuncData := T.F_later_pedal.D
theorem f_later_pedal : Fun K "later_pedal" "later_pedal" (top 37) T.A_later_pedal T.D_later_pedal := T.F_later_pedal.f
theorem b_later_pedal : Binds K T.D_later_pedal ["pedal", "ticks"] [] := T.F_later_pedal.b
theorem g_later_pedal : mg "later_pedal" = some (.ref T.A_later_pedal) := T.F_later_pedal.g
abbrev A_later_note : Addr := T.F_later_note.A
abbrev D_later_note : FuncData := T.F_later_note.D
theorem f_later_note : Fun K "later_note" "later_note" (top 38) T.A_later_note T.D_later_note := T.F_later_note.f
theorem b_later_note : Binds K T.D_later_note ["note", "ticks"] [] := T.F_later_note.b
theorem g_later_note : mg "later_note" = some (.ref T.A_later_note) := T.F_later_note.g
abbrev A_Score_init : Addr := T.F_Score_init.A
abbrev D_Score_init : FuncData := T.F_Score_init.D
theorem f_Score_init : Fun K "__init__" "Score.__init__" (inClass (top 39) 0) T.A_Score_init T.D_Score_init := T.F_Score_init.f
theorem b_Score_init : Binds K T.D_Score_init ["self"] [] := T.F_Score_init.b
theorem k_Score : Mk K T.C_Score T.A_Score_init := T.F_Score_init.k
abbrev A_Score_clear_to : Addr := T.F_Score_clear_to.A
abbrev D_Score_clear_to : FuncData := T.F_Score_clear_to.D
theorem f_Score_clear_to : Fun K "clear_to" "Score.clear_to" (inClass (top 39) 1) T.A_Score_clear_to T.D_Score_clear_to := T.F_Score_clear_to.f
theorem b_Score_clear_to : Binds K T.D_Score_clear_to ["self", "ticks"] [] := T.F_Score_clear_to.b
theorem m_Score_clear_to : Meth K T.C_Score "clear_to" T.A_Score_clear_to := T.F_Score_clear_to.m
abbrev A_Score_begin : Addr := T.F_Score_begin.A
abbrev D_Score_begin : FuncData := T.F_Score_begin.D
theorem f_Score_begin : Fun K "begin" "Score.begin" (inClass (top 39) 2) T.A_Score_begin T.D_Score_begin := T.F_Score_begin.f
theorem b_Score_begin : Binds K T.D_Score_begin ["self", "ticks"] [] := T.F_Score_begin.b
theorem m_Score_begin : Meth K T.C_Score "begin" T.A_Score_begin := T.F_Score_begin.m
abbrev A_Score_put_mark : Addr := T.F_Score_put_mark.A
abbrev D_Score_put_mark : FuncData := T.F_Score_put_mark.D
theorem f_Score_put_mark : Fun K "put_mark" "Score.put_mark" (inClass (top 39) 3) T.A_Score_put_mark T.D_Score_put_mark := T.F_Score_put_mark.f
theorem b_Score_put_mark : Binds K T.D_Score_put_mark ["self", "mark"] [] := T.F_Score_put_mark.b
theorem m_Score_put_mark : Meth K T.C_Score "put_mark" T.A_Score_put_mark := T.F_Score_put_mark.m
abbrev A_Score_put_swing : Addr := T.F_Score_put_swing.A
abbrev D_Score_put_swing : FuncData := T.F_Score_put_swing.D
theorem f_Score_put_swing : Fun K "put_swing" "Score.put_swing" (inClass (top 39) 4) T.A_Score_put_swing T.D_Score_put_swing := T.F_Score_put_swing.f
theorem b_Score_put_swing : Binds K T.D_Score_put_swing ["self", "swing"] [] := T.F_Score_put_swing.b
theorem m_Score_put_swing : Meth K T.C_Score "put_swing" T.A_Score_put_swing := T.F_Score_put_swing.m
abbrev A_Score_put_pedal : Addr := T.F_Score_put_pedal.A
abbrev D_Score_put_pedal : FuncData := T.F_Score_put_pedal.D
theorem f_Score_put_pedal : Fun K "put_pedal" "Score.put_pedal" (inClass (top 39) 5) T.A_Score_put_pedal T.D_Score_put_pedal := T.F_Score_put_pedal.f
theorem b_Score_put_pedal : Binds K T.D_Score_put_pedal ["self", "pedal"] [] := T.F_Score_put_pedal.b
theorem m_Score_put_pedal : Meth K T.C_Score "put_pedal" T.A_Score_put_pedal := T.F_Score_put_pedal.m
abbrev A_Score_put_note : Addr := T.F_Score_put_note.A
abbrev D_Score_put_note : FuncData := T.F_Score_put_note.D
theorem f_Score_put_note : Fun K "put_note" "Score.put_note" (inClass (top 39) 6) T.A_Score_put_note T.D_Score_put_note := T.F_Score_put_note.f
theorem b_Score_put_note : Binds K T.D_Score_put_note ["self", "note"] [] := T.F_Score_put_note.b
theorem m_Score_put_note : Meth K T.C_Score "put_note" T.A_Score_put_note := T.F_Score_put_note.m
abbrev A_Score_farthest_tick : Addr := T.F_Score_farthest_tick.A
abbrev D_Score_farthest_tick : FuncData := T.F_Score_farthest_tick.D
theorem f_Score_farthest_tick : Fun K "farthest_tick" "Score.farthest_tick" (inClass (top 39) 7) T.A_Score_farthest_tick T.D_Score_farthest_tick := T.F_Score_farthest_tick.f
theorem b_Score_farthest_tick : Binds K T.D_Score_farthest_tick ["self"] [] := T.F_Score_farthest_tick.b
theorem m_Score_farthest_tick : Meth K T.C_Score "farthest_tick" T.A_Score_farthest_tick := T.F_Score_farthest_tick.m
abbrev A_Score_move : Addr := T.F_Score_move.A
abbrev D_Score_move : FuncData := T.F_Score_move.D
theorem f_Score_move : Fun K "move" "Score.move" (inClass (top 39) 8) T.A_Score_move T.D_Score_move := T.F_Score_move.f
theorem b_Score_move : Binds K T.D_Score_move ["self", "ticks"] [] := T.F_Score_move.b
theorem m_Score_move : Meth K T.C_Score "move" T.A_Score_move := T.F_Score_move.m
abbrev A_Stretch_init : Addr := T.F_Stretch_init.A
abbrev D_Stretch_init : FuncData := T.F_Stretch_init.D
theorem f_Stretch_init : Fun K "__init__" "Stretch.__init__" (inClass (top 41) 0) T.A_Stretch_init T.D_Stretch_init := T.F_Stretch_init.f
theorem b_Stretch_init : Binds K T.D_Stretch_init ["self", "tick", "length", "rise", "over", "passed"] [] := T.F_Stretch_init.b
theorem k_Stretch : Mk K T.C_Stretch T.A_Stretch_init := T.F_Stretch_init.k
abbrev A_stretches_of : Addr := T.F_stretches_of.A
abbrev D_stretches_of : FuncData := T.F_stretches_of.D
theorem f_stretches_of : Fun K "stretches_of" "stretches_of" (top 42) T.A_stretches_of T.D_stretches_of := T.F_stretches_of.f
theorem b_stretches_of : Binds K T.D_stretches_of ["marks"] [] := T.F_stretches_of.b
theorem g_stretches_of : mg "stretches_of" = some (.ref T.A_stretches_of) := T.F_stretches_of.g
abbrev A_is_within : Addr := T.F_is_within.A
abbrev D_is_within : FuncData := T.F_is_within.D
theorem f_is_within : Fun K "is_within" "is_within" (top 43) T.A_is_within T.D_is_within := T.F_is_within.f
theorem b_is_within : Binds K T.D_is_within ["span", "place"] [] := T.F_is_within.b
theorem g_is_within : mg "is_within" = some (.ref T.A_is_within) := T.F_is_within.g
abbrev A_swung_by : Addr := T.F_swung_by.A
abbrev D_swung_by : FuncData := T.F_swung_by.D
theorem f_swung_by : Fun K "swung_by" "swung_by" (top 44) T.A_swung_by T.D_swung_by := T.F_swung_by.f
theorem b_swung_by : Binds K T.D_swung_by ["swing", "place"] [] := T.F_swung_by.b
theorem g_swung_by : mg "swung_by" = some (.ref T.A_swung_by) := T.F_swung_by.g
abbrev A_Tempo_init : Addr := T.F_Tempo_init.A
abbrev D_Tempo_init : FuncData := T.F_Tempo_init.D
theorem f_Tempo_init : Fun K "__init__" "Tempo.__init__" (inClass (top 45) 0) T.A_Tempo_init T.D_Tempo_init := T.F_Tempo_init.f
theorem b_Tempo_init : Binds K T.D_Tempo_init ["self", "score"] [] := T.F_Tempo_init.b
theorem k_Tempo : Mk K T.C_Tempo T.A_Tempo_init := T.F_Tempo_init.k
abbrev A_Tempo_swung : Addr := T.F_Tempo_swung.A
abbrev D_Tempo_swung : FuncData := T.F_Tempo_swung.D
theorem f_Tempo_swung : Fun K "swung" "Tempo.swung" (inClass (top 45) 1) T.A_Tempo_swung T.D_Tempo_swung := T.F_Tempo_swung.f
theorem b_Tempo_swung : Binds K T.D_Tempo_swung ["self", "place"] [] := T.F_Tempo_swung.b
theorem m_Tempo_swung : Meth K T.C_Tempo "swung" T.A_Tempo_swung := T.F_Tempo_swung.m
abbrev A_Tempo_stretch_at : Addr := T.F_Tempo_stretch_at.A
abbrev D_Tempo_stretch_at : FuncData := T.F_Tempo_stretch_at.D
theorem f_Tempo_stretch_at : Fun K "stretch_at" "Tempo.stretch_at" (inClass (top 45) 2) T.A_Tempo_stretch_at T.D_Tempo_stretch_at := T.F_Tempo_stretch_at.f
theorem b_Tempo_stretch_at : Binds K T.D_Tempo_stretch_at ["self", "place"] [] := T.F_Tempo_stretch_at.b
theorem m_Tempo_stretch_at : Meth K T.C_Tempo "stretch_at" T.A_Tempo_stretch_at := T.F_Tempo_stretch_at.m
abbrev A_Tempo_time_of : Addr := T.F_Tempo_time_of.A
abbrev D_Tempo_time_of : FuncData := T.F_Tempo_time_of.D
theorem f_Tempo_time_of : Fun K "time_of" "Tempo.time_of" (inClass (top 45) 3) T.A_Tempo_time_of T.D_Tempo_time_of := T.F_Tempo_time_of.f
theorem b_Tempo_time_of : Binds K T.D_Tempo_time_of ["self", "place"] [] := T.F_Tempo_time_of.b
theorem m_Tempo_time_of : Meth K T.C_Tempo "time_of" T.A_Tempo_time_of := T.F_Tempo_time_of.m
abbrev A_Tempo_tick_at : Addr := T.F_Tempo_tick_at.A
abbrev D_Tempo_tick_at : FuncData := T.F_Tempo_tick_at.D
theorem f_Tempo_tick_at : Fun K "tick_at" "Tempo.tick_at" (inClass (top 45) 4) T.A_Tempo_tick_at T.D_Tempo_tick_at := T.F_Tempo_tick_at.f
theorem b_Tempo_tick_at : Binds K T.D_Tempo_tick_at ["self", "time"] [] := T.F_Tempo_tick_at.b
theorem m_Tempo_tick_at : Meth K T.C_Tempo "tick_at" T.A_Tempo_tick_at := T.F_Tempo_tick_at.m
abbrev A_Sound_init : Addr := T.F_Sound_init.A
abbrev D_Sound_init : FuncData := T.F_Sound_init.D
theorem f_Sound_init : Fun K "__init__" "Sound.__init__" (inClass (top 47) 0) T.A_Sound_init T.D_Sound_init := T.F_Sound_init.f
theorem b_Sound_init : Binds K T.D_Sound_init ["self", "number", "note", "ending"] [] := T.F_Sound_init.b
theorem k_Sound : Mk K T.C_Sound T.A_Sound_init := T.F_Sound_init.k
abbrev A_numbers_by_beginning : Addr := T.F_numbers_by_beginning.A
abbrev D_numbers_by_beginning : FuncData := T.F_numbers_by_beginning.D
theorem f_numbers_by_beginning : Fun K "numbers_by_beginning" "numbers_by_beginning" (top 48) T.A_numbers_by_beginning T.D_numbers_by_beginning := T.F_numbers_by_beginning.f
theorem b_numbers_by_beginning : Binds K T.D_numbers_by_beginning ["notes"] [] := T.F_numbers_by_beginning.b
theorem g_numbers_by_beginning : mg "numbers_by_beginning" = some (.ref T.A_numbers_by_beginning) := T.F_numbers_by_beginning.g
abbrev A_ties_of : Addr := T.F_ties_of.A
abbrev D_ties_of : FuncData := T.F_ties_of.D
theorem f_ties_of : Fun K "ties_of" "ties_of" (top 49) T.A_ties_of T.D_ties_of := T.F_ties_of.f
theorem b_ties_of : Binds K T.D_ties_of ["notes"] [] := T.F_ties_of.b
theorem g_ties_of : mg "ties_of" = some (.ref T.A_ties_of) := T.F_ties_of.g
abbrev A_last_number : Addr := T.F_last_number.A
abbrev D_last_number : FuncData := T.F_last_number.D
theorem f_last_number : Fun K "last_number" "last_number" (top 50) T.A_last_number T.D_last_number := T.F_last_number.f
theorem b_last_number : Binds K T.D_last_number ["number", "ties"] [] := T.F_last_number.b
theorem g_last_number : mg "last_number" = some (.ref T.A_last_number) := T.F_last_number.g
abbrev A_place_of_end : Addr := T.F_place_of_end.A
abbrev D_place_of_end : FuncData := T.F_place_of_end.D
theorem f_place_of_end : Fun K "place_of_end" "place_of_end" (top 51) T.A_place_of_end T.D_place_of_end := T.F_place_of_end.f
theorem b_place_of_end : Binds K T.D_place_of_end ["note", "pedals"] [] := T.F_place_of_end.b
theorem g_place_of_end : mg "place_of_end" = some (.ref T.A_place_of_end) := T.F_place_of_end.g
abbrev A_order_of_striking : Addr := T.F_order_of_striking.A
abbrev D_order_of_striking : FuncData := T.F_order_of_striking.D
theorem f_order_of_striking : Fun K "order_of_striking" "order_of_striking" (top 52) T.A_order_of_striking T.D_order_of_striking := T.F_order_of_striking.f
theorem b_order_of_striking : Binds K T.D_order_of_striking ["sound"] [] := T.F_order_of_striking.b
theorem g_order_of_striking : mg "order_of_striking" = some (.ref T.A_order_of_striking) := T.F_order_of_striking.g
abbrev A_are_alike : Addr := T.F_are_alike.A
abbrev D_are_alike : FuncData := T.F_are_alike.D
theorem f_are_alike : Fun K "are_alike" "are_alike" (top 53) T.A_are_alike T.D_are_alike := T.F_are_alike.f
theorem b_are_alike : Binds K T.D_are_alike ["sound", "other"] [] := T.F_are_alike.b
theorem g_are_alike : mg "are_alike" = some (.ref T.A_are_alike) := T.F_are_alike.g
abbrev A_end_one_another : Addr := T.F_end_one_another.A
abbrev D_end_one_another : FuncData := T.F_end_one_another.D
theorem f_end_one_another : Fun K "end_one_another" "end_one_another" (top 54) T.A_end_one_another T.D_end_one_another := T.F_end_one_another.f
theorem b_end_one_another : Binds K T.D_end_one_another ["sounds"] [] := T.F_end_one_another.b
theorem g_end_one_another : mg "end_one_another" = some (.ref T.A_end_one_another) := T.F_end_one_another.g
abbrev A_sounds_of : Addr := T.F_sounds_of.A
abbrev D_sounds_of : FuncData := T.F_sounds_of.D
theorem f_sounds_of : Fun K "sounds_of" "sounds_of" (top 55) T.A_sounds_of T.D_sounds_of := T.F_sounds_of.f
theorem b_sounds_of : Binds K T.D_sounds_of ["score"] [] := T.F_sounds_of.b
theorem g_sounds_of : mg "sounds_of" = some (.ref T.A_sounds_of) := T.F_sounds_of.g
abbrev A_Event_init : Addr := T.F_Event_init.A
abbrev D_Event_init : FuncData := T.F_Event_init.D
theorem f_Event_init : Fun K "__init__" "Event.__init__" (inClass (top 59) 0) T.A_Event_init T.D_Event_init := T.F_Event_init.f
theorem b_Event_init : Binds K T.D_Event_init ["self", "time", "kind", "sound"] [] := T.F_Event_init.b
theorem k_Event : Mk K T.C_Event T.A_Event_init := T.F_Event_init.k
abbrev A_order_of_events : Addr := T.F_order_of_events.A
abbrev D_order_of_events : FuncData := T.F_order_of_events.D
theorem f_order_of_events : Fun K "order_of_events" "order_of_events" (top 60) T.A_order_of_events T.D_order_of_events := T.F_order_of_events.f
theorem b_order_of_events : Binds K T.D_order_of_events ["event"] [] := T.F_order_of_events.b
theorem g_order_of_events : mg "order_of_events" = some (.ref T.A_order_of_events) := T.F_order_of_events.g
abbrev A_events_of : Addr := T.F_events_of.A
abbrev D_events_of : FuncData := T.F_events_of.D
theorem f_events_of : Fun K "events_of" "events_of" (top 61) T.A_events_of T.D_events_of := T.F_events_of.f
theorem b_events_of : Binds K T.D_events_of ["score"] [] := T.F_events_of.b
theorem g_events_of : mg "events_of" = some (.ref T.A_events_of) := T.F_events_of.g
abbrev A_read_mark : Addr := T.F_read_mark.A
abbrev D_read_mark : FuncData := T.F_read_mark.D
theorem f_read_mark : Fun K "read_mark" "read_mark" (top 74) T.A_read_mark T.D_read_mark := T.F_read_mark.f
theorem b_read_mark : Binds K T.D_read_mark ["numbers"] [] := T.F_read_mark.b
theorem g_read_mark : mg "read_mark" = some (.ref T.A_read_mark) := T.F_read_mark.g
abbrev A_read_swing : Addr := T.F_read_swing.A
abbrev D_read_swing : FuncData := T.F_read_swing.D
theorem f_read_swing : Fun K "read_swing" "read_swing" (top 75) T.A_read_swing T.D_read_swing := T.F_read_swing.f
theorem b_read_swing : Binds K T.D_read_swing ["numbers"] [] := T.F_read_swing.b
theorem g_read_swing : mg "read_swing" = some (.ref T.A_read_swing) := T.F_read_swing.g
abbrev A_read_pedal : Addr := T.F_read_pedal.A
abbrev D_read_pedal : FuncData := T.F_read_pedal.D
theorem f_read_pedal : Fun K "read_pedal" "read_pedal" (top 76) T.A_read_pedal T.D_read_pedal := T.F_read_pedal.f
theorem b_read_pedal : Binds K T.D_read_pedal ["numbers"] [] := T.F_read_pedal.b
theorem g_read_pedal : mg "read_pedal" = some (.ref T.A_read_pedal) := T.F_read_pedal.g
abbrev A_read_note : Addr := T.F_read_note.A
abbrev D_read_note : FuncData := T.F_read_note.D
theorem f_read_note : Fun K "read_note" "read_note" (top 77) T.A_read_note T.D_read_note := T.F_read_note.f
theorem b_read_note : Binds K T.D_read_note ["numbers"] [] := T.F_read_note.b
theorem g_read_note : mg "read_note" = some (.ref T.A_read_note) := T.F_read_note.g
abbrev A_counted : Addr := T.F_counted.A
abbrev D_counted : FuncData := T.F_counted.D
theorem f_counted : Fun K "counted" "counted" (top 78) T.A_counted T.D_counted := T.F_counted.f
theorem b_counted : Binds K T.D_counted ["numbers"] [] := T.F_counted.b
theorem g_counted : mg "counted" = some (.ref T.A_counted) := T.F_counted.g
abbrev A_answer_time : Addr := T.F_answer_time.A
abbrev D_answer_time : FuncData := T.F_answer_time.D
theorem f_answer_time : Fun K "answer_time" "answer_time" (top 79) T.A_answer_time T.D_answer_time := T.F_answer_time.f
theorem b_answer_time : Binds K T.D_answer_time ["score", "tick"] [] := T.F_answer_time.b
theorem g_answer_time : mg "answer_time" = some (.ref T.A_answer_time) := T.F_answer_time.g
abbrev A_answer_sounds : Addr := T.F_answer_sounds.A
abbrev D_answer_sounds : FuncData := T.F_answer_sounds.D
theorem f_answer_sounds : Fun K "answer_sounds" "answer_sounds" (top 80) T.A_answer_sounds T.D_answer_sounds := T.F_answer_sounds.f
theorem b_answer_sounds : Binds K T.D_answer_sounds ["score"] [] := T.F_answer_sounds.b
theorem g_answer_sounds : mg "answer_sounds" = some (.ref T.A_answer_sounds) := T.F_answer_sounds.g
abbrev A_answer_events : Addr := T.F_answer_events.A
abbrev D_answer_events : FuncData := T.F_answer_events.D
theorem f_answer_events : Fun K "answer_events" "answer_events" (top 81) T.A_answer_events T.D_answer_events := T.F_answer_events.f
theorem b_answer_events : Binds K T.D_answer_events ["score"] [] := T.F_answer_events.b
theorem g_answer_events : mg "answer_events" = some (.ref T.A_answer_events) := T.F_answer_events.g
abbrev A_answer_call : Addr := T.F_answer_call.A
abbrev D_answer_call : FuncData := T.F_answer_call.D
theorem f_answer_call : Fun K "answer_call" "answer_call" (top 82) T.A_answer_call T.D_answer_call := T.F_answer_call.f
theorem b_answer_call : Binds K T.D_answer_call ["score", "call", "numbers"] [] := T.F_answer_call.b
theorem g_answer_call : mg "answer_call" = some (.ref T.A_answer_call) := T.F_answer_call.g
abbrev A_answers : Addr := T.F_answers.A
abbrev D_answers : FuncData := T.F_answers.D
theorem f_answers : Fun K "answers" "answers" (top 83) T.A_answers T.D_answers := T.F_answers.f
theorem b_answers : Binds K T.D_answers ["calls"] [] := T.F_answers.b
theorem g_answers : mg "answers" = some (.ref T.A_answers) := T.F_answers.g
end Txt
/-! ### the scopes -/
theorem sc_greatest_divisor : FnScope ["one", "other", "rest"] ["one", "other"] (defScope (top 1)) := ⟨rfl, rfl, rfl, by decide +kernel, rfl, by decide +kernel, by decide +kernel⟩
theorem sc_is_after : FnScope ["fraction", "other"] ["fraction", "other"] (defScope (top 2)) := ⟨rfl, rfl, rfl, by decide +kernel, rfl, by decide +kernel, by decide +kernel⟩
theorem sc_nearest : FnScope ["fraction"] ["fraction"] (defScope (top 3)) := ⟨rfl, rfl, rfl, by decide +kernel, rfl, by decide +kernel, by decide +kernel⟩
theorem sc_told : FnScope ["fraction", "whole", "left", "divisor"] ["fraction"] (defScope (top 4)) := ⟨rfl, rfl, rfl, by decide +kernel, rfl, by decide +kernel, by decide +kernel⟩
theorem sc_Mark_init : FnScope ["self", "tick", "length", "even"] ["self", "tick", "length", "even"] (defScope (inClass (top 22) 0)) := ⟨rfl, rfl, rfl, by decide +kernel, rfl, by decide +kernel, by decide +kernel⟩
theorem sc_Swing_init : FnScope ["self", "first", "last", "pair", "a", "b"] ["self", "first", "last", "pair", "a", "b"] (defScope (inClass (top 23) 0)) := ⟨rfl, rfl, rfl, by decide +kernel, rfl, by decide +kernel, by decide +kernel⟩
theorem sc_Pedal_init : FnScope ["self", "first", "last"] ["self", "first", "last"] (defScope (inClass (top 24) 0)) := ⟨rfl, rfl, rfl, by decide +kernel, rfl, by decide +kernel, by decide +kernel⟩
theorem sc_Note_init : FnScope ["self", "voice", "pitch", "first", "length", "loudness", "part", "tied"] ["self", "voice", "pitch", "first", "length", "loudness", "part", "tied"] (defScope (inClass (top 25) 0)) := ⟨rfl, rfl, rfl, by decide +kernel, rfl, by decide +kernel, by decide +kernel⟩
theorem sc_mark_tick : FnScope ["mark"] ["mark"] (defScope (top 26)) := ⟨rfl, rfl, rfl, by decide +kernel, rfl, by decide +kernel, by decide +kernel⟩
theorem sc_mark_is_as_told : FnScope ["mark"] ["mark"] (defScope (top 27)) := ⟨rfl, rfl, rfl, by decide +kernel, rfl, by decide +kernel, by decide +kernel⟩
theorem sc_span_is_as_told : FnScope ["span"] ["span"] (defScope (top 28)) := ⟨rfl, rfl, rfl, by decide +kernel, rfl, by decide +kernel, by decide +kernel⟩
theorem sc_pairs_fit : FnScope ["swing"] ["swing"] (defScope (top 29)) := ⟨rfl, rfl, rfl, by decide +kernel, rfl, by decide +kernel, by decide +kernel⟩
theorem sc_swing_is_as_told : FnScope ["swing"] ["swing"] (defScope (top 30)) := ⟨rfl, rfl, rfl, by decide +kernel, rfl, by decide +kernel, by decide +kernel⟩
theorem sc_note_end : FnScope ["note"] ["note"] (defScope (top 31)) := ⟨rfl, rfl, rfl, by decide +kernel, rfl, by decide +kernel, by decide +kernel⟩
theorem sc_note_is_as_told : FnScope ["note"] ["note"] (defScope (top 32)) := ⟨rfl, rfl, rfl, by decide +kernel, rfl, by decide +kernel, by decide +kernel⟩
theorem sc_has_tick_in_common : FnScope ["span", "others", "other"] ["span", "others"] (defScope (top 33)) := ⟨rfl, rfl, rfl, by decide +kernel, rfl, by decide +kernel, by decide +kernel⟩
theorem sc_put_span : FnScope ["spans", "span"] ["spans", "span"] (defScope (top 34)) := ⟨rfl, rfl, rfl, by decide +kernel, rfl, by decide +kernel, by decide +kernel⟩
theorem sc_later_mark : FnScope ["mark", "ticks"] ["mark", "ticks"] (defScope (top 35)) := ⟨rfl, rfl, rfl, by decide +kernel, rfl, by decide +kernel, by decide +kernel⟩
theorem sc_later_swing : FnScope ["swing", "ticks"] ["swing", "ticks"] (defScope (top 36)) := ⟨rfl, rfl, rfl, by decide +kernel, rfl, by decide +kernel, by decide +kernel⟩
theorem sc_later_pedal : FnScope ["pedal", "ticks"] ["pedal", "ticks"] (defScope (top 37)) := ⟨rfl, rfl, rfl, by decide +kernel, rfl, by decide +kernel, by decide +kernel⟩
theorem sc_later_note : FnScope ["note", "ticks", "first"] ["note", "ticks"] (defScope (top 38)) := ⟨rfl, rfl, rfl, by decide +kernel, rfl, by decide +kernel, by decide +kernel⟩
theorem sc_Score_init : FnScope ["self"] ["self"] (defScope (inClass (top 39) 0)) := ⟨rfl, rfl, rfl, by decide +kernel, rfl, by decide +kernel, by decide +kernel⟩
theorem sc_Score_clear_to : FnScope ["self", "ticks"] ["self", "ticks"] (defScope (inClass (top 39) 1)) := ⟨rfl, rfl, rfl, by decide +kernel, rfl, by decide +kernel, by decide +kernel⟩
theorem sc_Score_begin : FnScope ["self", "ticks"] ["self", "ticks"] (defScope (inClass (top 39) 2)) := ⟨rfl, rfl, rfl, by decide +kernel, rfl, by decide +kernel, by decide +kernel⟩
theorem sc_Score_put_mark : FnScope ["self", "mark", "marks", "other"] ["self", "mark"] (defScope (inClass (top 39) 3)) := ⟨rfl, rfl, rfl, by decide +kernel, rfl, by decide +kernel, by decide +kernel⟩
theorem sc_Score_put_swing : FnScope ["self", "swing"] ["self", "swing"] (defScope (inClass (top 39) 4)) := ⟨rfl, rfl, rfl, by decide +kernel, rfl, by decide +kernel, by decide +kernel⟩
theorem sc_Score_put_pedal : FnScope ["self", "pedal"] ["self", "pedal"] (defScope (inClass (top 39) 5)) := ⟨rfl, rfl, rfl, by decide +kernel, rfl, by decide +kernel, by decide +kernel⟩
theorem sc_Score_put_note : FnScope ["self", "note"] ["self", "note"] (defScope (inClass (top 39) 6)) := ⟨rfl, rfl, rfl, by decide +kernel, rfl, by decide +kernel, by decide +kernel⟩
theorem sc_Score_farthest_tick : FnScope ["self", "ticks", "mark", "span", "note"] ["self"] (defScope (inClass (top 39) 7)) := ⟨rfl, rfl, rfl, by decide +kernel, rfl, by decide +kernel, by decide +kernel⟩
theorem sc_Score_move : FnScope ["self", "ticks", "first", "mark", "swing", "pedal", "note"] ["self", "ticks"] (defScope (inClass (top 39) 8)) := ⟨rfl, rfl, rfl, by decide +kernel, rfl, by decide +kernel, by decide +kernel⟩
theorem sc_Stretch_init : FnScope ["self", "tick", "length", "rise", "over", "passed"] ["self", "tick", "length", "rise", "over", "passed"] (defScope (inClass (top 41) 0)) := ⟨rfl, rfl, rfl, by decide +kernel, rfl, by decide +kernel, by decide +kernel⟩
theorem sc_stretches_of : FnScope ["marks", "stretches", "passed", "mark", "following", "over", "rise"] ["marks"] (defScope (top 42)) := ⟨rfl, rfl, rfl, by decide +kernel, rfl, by decide +kernel, by decide +kernel⟩
theorem sc_is_within : FnScope ["span", "place"] ["span", "place"] (defScope (top 43)) := ⟨rfl, rfl, rfl, by decide +kernel, rfl, by decide +kernel, by decide +kernel⟩
theorem sc_swung_by : FnScope ["swing", "place", "upper", "lower", "pair", "behind", "shares", "reached"] ["swing", "place"] (defScope (top 44)) := ⟨rfl, rfl, rfl, by decide +kernel, rfl, by decide +kernel, by decide +kernel⟩
theorem sc_Tempo_init : FnScope ["self", "score"] ["self", "score"] (defScope (inClass (top 45) 0)) := ⟨rfl, rfl, rfl, by decide +kernel, rfl, by decide +kernel, by decide +kernel⟩
theorem sc_Tempo_swung : FnScope ["self", "place", "swing"] ["self", "place"] (defScope (inClass (top 45) 1)) := ⟨rfl, rfl, rfl, by decide +kernel, rfl, by decide +kernel, by decide +kernel⟩
theorem sc_Tempo_stretch_at : FnScope ["self", "place", "found", "stretch"] ["self", "place"] (defScope (inClass (top 45) 2)) := ⟨rfl, rfl, rfl, by decide +kernel, rfl, by decide +kernel, by decide +kernel⟩
theorem sc_Tempo_time_of : FnScope ["self", "place", "spot", "stretch", "lower", "behind", "passed", "since"] ["self", "place"] (defScope (inClass (top 45) 3)) := ⟨rfl, rfl, rfl, by decide +kernel, rfl, by decide +kernel, by decide +kernel⟩
theorem sc_Tempo_tick_at : FnScope ["self", "time", "low", "high", "middle"] ["self", "time"] (defScope (inClass (top 45) 4)) := ⟨rfl, rfl, rfl, by decide +kernel, rfl, by decide +kernel, by decide +kernel⟩
theorem sc_Sound_init : FnScope ["self", "number", "note", "ending"] ["self", "number", "note", "ending"] (defScope (inClass (top 47) 0)) := ⟨rfl, rfl, rfl, by decide +kernel, rfl, by decide +kernel, by decide +kernel⟩
theorem sc_numbers_by_beginning : FnScope ["notes", "numbers", "number", "note"] ["notes"] (defScope (top 48)) := ⟨rfl, rfl, rfl, by decide +kernel, rfl, by decide +kernel, by decide +kernel⟩
theorem sc_ties_of : FnScope ["notes", "beginning", "ties", "number", "note", "spot"] ["notes"] (defScope (top 49)) := ⟨rfl, rfl, rfl, by decide +kernel, rfl, by decide +kernel, by decide +kernel⟩
theorem sc_last_number : FnScope ["number", "ties"] ["number", "ties"] (defScope (top 50)) := ⟨rfl, rfl, rfl, by decide +kernel, rfl, by decide +kernel, by decide +kernel⟩
theorem sc_place_of_end : FnScope ["note", "pedals", "place", "pedal"] ["note", "pedals"] (defScope (top 51)) := ⟨rfl, rfl, rfl, by decide +kernel, rfl, by decide +kernel, by decide +kernel⟩
theorem sc_order_of_striking : FnScope ["sound"] ["sound"] (defScope (top 52)) := ⟨rfl, rfl, rfl, by decide +kernel, rfl, by decide +kernel, by decide +kernel⟩
theorem sc_are_alike : FnScope ["sound", "other"] ["sound", "other"] (defScope (top 53)) := ⟨rfl, rfl, rfl, by decide +kernel, rfl, by decide +kernel, by decide +kernel⟩
theorem sc_end_one_another : FnScope ["sounds", "struck", "sound", "following"] ["sounds"] (defScope (top 54)) := ⟨rfl, rfl, rfl, by decide +kernel, rfl, by decide +kernel, by decide +kernel⟩
theorem sc_sounds_of : FnScope ["score", "notes", "ties", "begun", "number", "sounds", "note", "last"] ["score"] (defScope (top 55)) := ⟨rfl, rfl, rfl, by decide +kernel, rfl, by decide +kernel, by decide +kernel⟩
theorem sc_Event_init : FnScope ["self", "time", "kind", "sound"] ["self", "time", "kind", "sound"] (defScope (inClass (top 59) 0)) := ⟨rfl, rfl, rfl, by decide +kernel, rfl, by decide +kernel, by decide +kernel⟩
theorem sc_order_of_events : FnScope ["event"] ["event"] (defScope (top 60)) := ⟨rfl, rfl, rfl, by decide +kernel, rfl, by decide +kernel, by decide +kernel⟩
theorem sc_events_of : FnScope ["score", "tempo", "events", "sound", "beginning", "end"] ["score"] (defScope (top 61)) := ⟨rfl, rfl, rfl, by decide +kernel, rfl, by decide +kernel, by decide +kernel⟩
theorem sc_read_mark : FnScope ["numbers"] ["numbers"] (defScope (top 74)) := ⟨rfl, rfl, rfl, by decide +kernel, rfl, by decide +kernel, by decide +kernel⟩
theorem sc_read_swing : FnScope ["numbers"] ["numbers"] (defScope (top 75)) := ⟨rfl, rfl, rfl, by decide +kernel, rfl, by decide +kernel, by decide +kernel⟩
theorem sc_read_pedal : FnScope ["numbers"] ["numbers"] (defScope (top 76)) := ⟨rfl, rfl, rfl, by decide +kernel, rfl, by decide +kernel, by decide +kernel⟩
theorem sc_read_note : FnScope ["numbers"] ["numbers"] (defScope (top 77)) := ⟨rfl, rfl, rfl, by decide +kernel, rfl, by decide +kernel, by decide +kernel⟩
theorem sc_counted : FnScope ["numbers"] ["numbers"] (defScope (top 78)) := ⟨rfl, rfl, rfl, by decide +kernel, rfl, by decide +kernel, by decide +kernel⟩
theorem sc_answer_time : FnScope ["score", "tick", "time"] ["score", "tick"] (defScope (top 79)) := ⟨rfl, rfl, rfl, by decide +kernel, rfl, by decide +kernel, by decide +kernel⟩
theorem sc_answer_sounds : FnScope ["score", "tempo", "sounds", "answer", "sound", "beginning", "end"] ["score"] (defScope (top 80)) := ⟨rfl, rfl, rfl, by decide +kernel, rfl, by decide +kernel, by decide +kernel⟩
theorem sc_answer_events : FnScope ["score", "events", "answer", "event", "numbers"] ["score"] (defScope (top 81)) := ⟨rfl, rfl, rfl, by decide +kernel, rfl, by decide +kernel, by decide +kernel⟩
theorem sc_answer_call : FnScope ["score", "call", "numbers"] ["score", "call", "numbers"] (defScope (top 82)) := ⟨rfl, rfl, rfl, by decide +kernel, rfl, by decide +kernel, by decide +kernel⟩
theorem sc_answers : FnScope ["calls", "score", "given", "start", "call", "end", "answer"] ["calls"] (defScope (top 83)) := ⟨rfl, rfl, rfl, by decide +kernel, rfl, by decide +kernel, by decide +kernel⟩
end XW
namespace XW
open PySem PySem.Spec PyProof.Rows L2
open Sw70 (Mark Swing Note Piece)
/-! ### tests -/
theorem iteD {c A B : Prop} [Decidable c] (h1 : c → A) (h2 : ¬ c → B) : if decide c = true then A else B := by
  by_cases h : c
  · rw [if_pos (decide_eq_true h)]
    exact h1 h
  · rw [if_neg (by simp [h])]
    exact h2 h
theorem iteE {y z : Int} {A B : Prop} (h1 : y = z → A) (h2 : y ≠ z → B) : if decide (V.int y = V.int z) = true then A else B :=
  iteD (fun h => h1 (V.int.inj h)) fun h => h2 fun e => h (congrArg V.int e)
theorem iteN {y z : Int} {A B : Prop} (h1 : y ≠ z → A) (h2 : y = z → B) : if (!decide (V.int y = V.int z)) = true then A else B := by
  by_cases h : y = z
  · subst h
    rw [decide_eq_true rfl]
    exact iteF (h2 rfl)
  · rw [decide_eq_false (fun e => h (V.int.inj e))]
    exact iteT (h1 h)
theorem iteB {b : Bool} {A B : Prop} (h1 : b = true → A) (h2 : b = false → B) : if b = true then A else B := by
  cases b with
  | true => exact iteT (h1 rfl)
  | false => exact iteF (h2 rfl)
theorem iteNB {b : Bool} {A B : Prop} (h1 : b = false → A) (h2 : b = true → B) : if (!b) = true then A else B := by
  cases b with
  | true => exact iteF (h2 rfl)
  | false => exact iteT (h1 rfl)
theorem mulL {i j : Int} (h1 : -(2 ^ 64) < i) (h2 : i < 2 ^ 64) : CMul i j := .inl ⟨h1, h2⟩
theorem mulR {i j : Int} (h1 : -(2 ^ 64) < j) (h2 : j < 2 ^ 64) : CMul i j := .inr ⟨h1, h2⟩
/-! ### what the defs of fractions promise -/
def spGcd : Sp := fun vs H Q _ => ∃ a b : Int, vs = [.int a, .int b] ∧ 0 ≤ a ∧ 0 ≤ b ∧ Q (.int ((Int.gcd a b : Nat) : Int)) H
def spAfter : Sp := fun vs H Q _ => ∃ (a b : Addr) (n d m e : Int), vs = [.ref a, .ref b] ∧ H a = some (.tup [.int n, .int d]) ∧ H b = some (.tup [.int m, .int e]) ∧ CMul n e ∧ CMul m d ∧ Q (.bl (decide (m * d < n * e))) H
def spNearest : Sp := fun vs H Q _ => ∃ (a : Addr) (n d : Int), vs = [.ref a] ∧ H a = some (.tup [.int n, .int d]) ∧ 0 < d ∧ d < 2 ^ 62 ∧ Q (.int ((2 * n + d) / (2 * d))) H
def spTold : Sp := fun vs H Q _ => ∃ (a : Addr) (n d : Int), vs = [.ref a] ∧ H a = some (.tup [.int n, .int d]) ∧ 0 < d ∧ d < 2 ^ 62 ∧
  ∀ p, H p = none → Q (.ref p) (upd H p (.lst [.int (n / d), .int (n % d / ((Int.gcd d (n % d) : Nat) : Int)), .int (d / ((Int.gcd d (n % d) : Nat) : Int))]))
section
variable {P : Program} {w : World} {K : PySem.W.Frag} {mg : Str → Option Value} {base : Heap}
theorem gcd_turn {x y : Int} (hx : 0 ≤ x) (hy : 0 < y) : Int.gcd y (x % y) = Int.gcd x y := by
  have := Int.gcd_mul_left_add_right y (x % y) (x / y)
  rw [Int.mul_ediv_add_emod] at this
  rw [← this, Int.gcd_comm]
theorem ok_greatest_divisor (T : Txt K mg) : FnOk P w K mg base CX0 1 T.A_greatest_divisor T.D_greatest_divisor ["one", "other"] spGcd := by
  refine T.f_greatest_divisor.ok sc_greatest_divisor (fun vs H Q E h => ?_) (fun cdv A outer s H vs Q E hr h => ?_)
  · obtain ⟨a, b, rfl, _⟩ := h
    rfl
  · obtain ⟨a, b, rfl, ha, hb, k⟩ := h
    refine ⟨_, (pss_cons (ps_while PassesOwn.never (pt_cmpR op_ne (pv 1) pe_int (nomark _)) (pss_cons (ps_set (i := 2) sc_greatest_divisor.nd rfl (by first | exact Or.inl rfl | exact Or.inr rfl) (pe_op op_mod (pv 0) (pv 1))) (pss_cons (ps_set (i := 0) sc_greatest_divisor.nd rfl (by first | exact Or.inl rfl | exact Or.inr rfl) (pv 1)) (pss_one (ps_set (i := 1) sc_greatest_divisor.nd rfl (by first | exact Or.inl rfl | exact Or.inr rfl) (pv 2)))))) (pss_one (ps_ret (pv 0)))), ?_⟩
    refine while_by (fun σ H' => H' = H ∧ ∃ (x y : Int) (v : Option V), σ = [some (.int x), some (.int y), v] ∧ 0 ≤ x ∧ 0 ≤ y ∧ Int.gcd x y = Int.gcd a b)
      (fun (σ : L2.St) (_ : Hp) => match σ[1]? with | some (some (V.int y)) => y.toNat | _ => 0) ⟨rfl, a, b, none, rfl, ha, hb, rfl⟩ ?_ (fun σ H' Q1 Q2 hQ ⟨v, e, hs, k, ek, q⟩ => ⟨v, e, hs, k, ek, hQ _ _ q⟩)
    rintro σ H' ⟨rfl, x, y, v, rfl, hx, hy, hg⟩
    refine ⟨_, rfl, rfl, _, rfl, iteN (fun h0 => ?_) (fun h0 => ?_)⟩
    · have hy0 : 0 < y := by omega
      refine ⟨_, rfl, _, rfl, _, _, rfl, rfl, hy0, _, rfl, _, rfl, ?_⟩
      refine ⟨⟨rfl, y, x % y, _, rfl, hy, Int.emod_nonneg _ (by omega), by rw [gcd_turn hx hy0]; exact hg⟩, ?_⟩
      show (x % y).toNat < y.toNat
      have := Int.emod_lt_of_pos x hy0
      have := Int.emod_nonneg x (show y ≠ 0 by omega)
      omega
    · refine ⟨_, rfl, ?_⟩
      have e : ((Int.gcd a b : Nat) : Int) = x := by
        rw [← hg, h0, Int.gcd_zero_right]
        omega
      rw [e] at k
      exact k
theorem ok_is_after (T : Txt K mg) : FnOk P w K mg base CX0 1 T.A_is_after T.D_is_after ["fraction", "other"] spAfter := by
  refine T.f_is_after.ok sc_is_after (fun vs H Q E h => ?_) (fun cdv A outer s H vs Q E hr h => ?_)
  · obtain ⟨a, b, n, d, m, e, rfl, _⟩ := h
    rfl
  · obtain ⟨a, b, n, d, m, e, rfl, ha, hb, c1, c2, k⟩ := h
    refine ⟨_, (pss_one (ps_ret (pe_cmpR op_gt (pe_op op_mul (pe_ix ix_tup (pv 0) pe_int (fun _ _ => rfl)) (pe_ix ix_tup (pv 1) pe_int (fun _ _ => rfl))) (pe_op op_mul (pe_ix ix_tup (pv 1) pe_int (fun _ _ => rfl)) (pe_ix ix_tup (pv 0) pe_int (fun _ _ => rfl))) (nomark _)))), ?_⟩
    exact ⟨_, rfl, a, _, _, _, rfl, rfl, SqT.of ha, rfl, _, rfl, b, _, _, _, rfl, rfl, SqT.of hb, rfl, _, _, rfl, rfl, c1,
      _, rfl, b, _, _, _, rfl, rfl, SqT.of hb, rfl, _, rfl, a, _, _, _, rfl, rfl, SqT.of ha, rfl, _, _, rfl, rfl, c2, _, _, rfl, rfl, k⟩
theorem ok_nearest (T : Txt K mg) : FnOk P w K mg base CX0 1 T.A_nearest T.D_nearest ["fraction"] spNearest := by
  refine T.f_nearest.ok sc_nearest (fun vs H Q E h => ?_) (fun cdv A outer s H vs Q E hr h => ?_)
  · obtain ⟨a, n, d, rfl, _⟩ := h
    rfl
  · obtain ⟨a, n, d, rfl, ha, h1, h2, k⟩ := h
    refine ⟨_, (pss_one (ps_ret (pe_op op_fdivB (pe_op op_add (pe_op op_mul pe_int (pe_ix ix_tup (pv 0) pe_int (fun _ _ => rfl))) (pe_ix ix_tup (pv 0) pe_int (fun _ _ => rfl))) (pe_op op_mul pe_int (pe_ix ix_tup (pv 0) pe_int (fun _ _ => rfl)))))), ?_⟩
    exact ⟨_, rfl, a, _, _, _, rfl, rfl, SqT.of ha, rfl, _, _, rfl, rfl, mulL (by decide) (by decide), _, rfl, a, _, _, _, rfl, rfl, SqT.of ha, rfl, _, _, rfl, rfl,
      _, rfl, a, _, _, _, rfl, rfl, SqT.of ha, rfl, _, _, rfl, rfl, mulL (by decide) (by decide), _, _, rfl, rfl, ⟨by omega, by omega⟩, k⟩
theorem ok_told (T : Txt K mg) : FnOk P w K mg base CX0 2 T.A_told T.D_told ["fraction"] spTold := by
  refine T.f_told.ok sc_told (fun vs H Q E h => ?_) (fun cdv A outer s H vs Q E hr h => ?_)
  · obtain ⟨a, n, d, rfl, _⟩ := h
    rfl
  · obtain ⟨a, n, d, rfl, ha, h1, h2, k⟩ := h
    have hm := Int.emod_nonneg n (show d ≠ 0 by omega)
    have hg0 : 0 < ((Int.gcd d (n % d) : Nat) : Int) := by
      have : 0 < Int.gcd d (n % d) := Int.gcd_pos_of_ne_zero_left _ (by omega)
      omega
    have hg1 : ((Int.gcd d (n % d) : Nat) : Int) ≤ d := Int.le_of_dvd h1 (Int.gcd_dvd_left ..)
    refine ⟨_, (pss_cons (ps_set (i := 1) sc_told.nd rfl (by first | exact Or.inl rfl | exact Or.inr rfl) (pe_op op_fdivB (pe_ix ix_tup (pv 0) pe_int (fun _ _ => rfl)) (pe_ix ix_tup (pv 0) pe_int (fun _ _ => rfl)))) (pss_cons (ps_set (i := 2) sc_told.nd rfl (by first | exact Or.inl rfl | exact Or.inr rfl) (pe_op op_mod (pe_ix ix_tup (pv 0) pe_int (fun _ _ => rfl)) (pe_ix ix_tup (pv 0) pe_int (fun _ _ => rfl)))) (pss_cons (ps_set (i := 3) sc_told.nd rfl (by first | exact Or.inl rfl | exact Or.inr rfl) (pe_call (ok_greatest_divisor T) (hr.mono (by decide)) rfl T.g_greatest_divisor T.f_greatest_divisor.kp T.b_greatest_divisor .nil pass0 (pa_cons (pe_ix ix_tup (pv 0) pe_int (fun _ _ => rfl)) (pa_cons (pv 2) pa_nil)))) (pss_one (ps_ret (pe_lst (pa_cons (pv 1) (pa_cons (pe_op op_fdivB (pv 2) (pv 3)) (pa_cons (pe_op op_fdivB (pe_ix ix_tup (pv 0) pe_int (fun _ _ => rfl)) (pv 3)) pa_nil))))))))), ?_⟩
    exact ⟨_, rfl, a, _, _, _, rfl, rfl, SqT.of ha, rfl, _, rfl, a, _, _, _, rfl, rfl, SqT.of ha, rfl, _, _, rfl, rfl, ⟨h1, by omega⟩,
      _, rfl, a, _, _, _, rfl, rfl, SqT.of ha, rfl, _, rfl, a, _, _, _, rfl, rfl, SqT.of ha, rfl, _, _, rfl, rfl, h1,
      _, rfl, a, _, _, _, rfl, rfl, SqT.of ha, rfl, _, rfl, d, n % d, rfl, by omega, hm,
      _, rfl, _, rfl, _, rfl, _, _, rfl, rfl, ⟨hg0, by omega⟩, _, rfl, a, _, _, _, rfl, rfl, SqT.of ha, rfl, _, rfl, _, _, rfl, rfl, ⟨hg0, by omega⟩, (by show 3 ≤ sizeLine; decide), k⟩
end
end XW
namespace XW
open PySem PySem.Spec PyProof.Rows L2
open Sw70 (Mark Swing Note Piece)
/-! ### the instances -/
def bi (b : Bool) : Int := if b then 1 else 0
section
variable {K : PySem.W.Frag} {mg : Str → Option Value}
def MarkAt (T : Txt K mg) (H : Hp) (a : Addr) (m : Mark) : Prop := ∃ dx, H a = some (.ins T.C_Mark dx (fs_Mark (.int m.tick) (.int m.quarter) (.int (bi m.slope))))
def SwingAt (T : Txt K mg) (H : Hp) (a : Addr) (s : Swing) : Prop := ∃ dx, H a = some (.ins T.C_Swing dx (fs_Swing (.int s.low) (.int s.high) (.int s.pair) (.int s.a) (.int s.b)))
def PedalAt (T : Txt K mg) (H : Hp) (a : Addr) (d : Nat × Nat) : Prop := ∃ dx, H a = some (.ins T.C_Pedal dx (fs_Pedal (.int d.1) (.int d.2)))
def NoteAt (T : Txt K mg) (H : Hp) (a : Addr) (x : Note) : Prop := ∃ dx, H a = some (.ins T.C_Note dx (fs_Note (.int x.voice) (.int x.pitch) (.int x.start) (.int x.long) (.int x.loud) (.int x.part) (.int (bi x.tied))))
/-- a swing or a pedal -/
def SpanAt (K : PySem.W.Frag) (H : Hp) (a : Addr) (f l : Nat) : Prop := ∃ C dx fs, H a = some (.ins C dx fs) ∧ Cls K C ∧ NoAttr K C "first" ∧ NoAttr K C "last" ∧ fs.lookup ("first" : Str) = some (.int f) ∧ fs.lookup ("last" : Str) = some (.int l)
theorem SwingAt.span {T : Txt K mg} {H : Hp} {a : Addr} {s : Swing} (h : SwingAt T H a s) : SpanAt K H a s.low s.high := by
  obtain ⟨dx, h⟩ := h
  exact ⟨_, dx, _, h, T.cl_Swing, T.a_Swing_first, T.a_Swing_last, lk_Swing_first .., lk_Swing_last ..⟩
theorem PedalAt.span {T : Txt K mg} {H : Hp} {a : Addr} {d : Nat × Nat} (h : PedalAt T H a d) : SpanAt K H a d.1 d.2 := by
  obtain ⟨dx, h⟩ := h
  exact ⟨_, dx, _, h, T.cl_Pedal, T.a_Pedal_first, T.a_Pedal_last, lk_Pedal_first .., lk_Pedal_last ..⟩
theorem MarkAt.same {T : Txt K mg} {H H' : Hp} {a : Addr} {m : Mark} (h : MarkAt T H a m) (e : Same H H') : MarkAt T H' a m := let ⟨dx, h⟩ := h; ⟨dx, e _ _ h⟩
theorem SwingAt.same {T : Txt K mg} {H H' : Hp} {a : Addr} {m : Swing} (h : SwingAt T H a m) (e : Same H H') : SwingAt T H' a m := let ⟨dx, h⟩ := h; ⟨dx, e _ _ h⟩
theorem PedalAt.same {T : Txt K mg} {H H' : Hp} {a : Addr} {m : Nat × Nat} (h : PedalAt T H a m) (e : Same H H') : PedalAt T H' a m := let ⟨dx, h⟩ := h; ⟨dx, e _ _ h⟩
theorem NoteAt.same {T : Txt K mg} {H H' : Hp} {a : Addr} {m : Note} (h : NoteAt T H a m) (e : Same H H') : NoteAt T H' a m := let ⟨dx, h⟩ := h; ⟨dx, e _ _ h⟩
theorem SpanAt.same {H H' : Hp} {a : Addr} {f l : Nat} (h : SpanAt K H a f l) (e : Same H H') : SpanAt K H' a f l := let ⟨C, dx, fs, h, r⟩ := h; ⟨C, dx, fs, e _ _ h, r⟩
/-- an instance is made: a new object and its dict -/
theorem Same.made2 {H : Hp} {x dx : Addr} {C : Addr} {fs : List (Str × V)} (nx : H x = none) (nd : H dx = none) : Same H (upd (upd H dx (.own x)) x (.ins C dx fs)) := fun b o e => by
  rw [upd_ne (ne_of_none e nx), upd_ne (ne_of_none e nd)]
  exact e
theorem Same.new {H : Hp} {p : Addr} {o : HO} (h : H p = none) : Same H (upd H p o) := fun b u e => by
  rw [upd_ne (ne_of_none e h)]
  exact e
end
section
variable {P : Program} {w : World} {K : PySem.W.Frag} {mg : Str → Option Value} {base : Heap}
theorem lp {f : Str} {v : V} {fs : List (Str × V)} {n : Nat} (h : fs.length ≤ n) : (putF f v fs).length ≤ n + 1 := Nat.le_trans (length_putF f v fs) (Nat.succ_le_succ h)
def spMarkI (T : Txt K mg) : Sp := fun vs H Q _ => ∃ (p dx : Addr) (x0 x1 x2 : V), vs = [.ref p, x0, x1, x2] ∧ H p = some (.ins T.C_Mark dx []) ∧ Q .non (upd H p (.ins T.C_Mark dx (fs_Mark x0 x1 x2)))
theorem ok_Mark_init (T : Txt K mg) : FnOk P w K mg base CX0 1 T.A_Mark_init T.D_Mark_init ["self", "tick", "length", "even"] (spMarkI T) := by
  refine T.f_Mark_init.ok sc_Mark_init (fun vs H Q E h => ?_) (fun cdv A outer s H vs Q E hr h => ?_)
  · obtain ⟨p, dx, x0, x1, x2, rfl, _⟩ := h
    rfl
  · obtain ⟨p, dx, x0, x1, x2, rfl, hp, k⟩ := h
    refine ⟨_, (pss_cons (ps_fld (pv 0) (pv 1) rfl) (pss_cons (ps_fld (pv 0) (pv 2) rfl) (pss_one (ps_fld (pv 0) (pv 3) rfl)))), ?_⟩
    refine ⟨_, rfl, _, rfl, p, _, dx, _, rfl, hp, T.cl_Mark, T.a_Mark_tick, Nat.lt_of_le_of_lt (Nat.le_refl 0) (by decide), ?_⟩
    refine ⟨_, rfl, _, rfl, p, _, dx, _, rfl, upd_same, T.cl_Mark, T.a_Mark_length, Nat.lt_of_le_of_lt (lp (Nat.le_refl 0)) (by decide), ?_⟩
    refine ⟨_, rfl, _, rfl, p, _, dx, _, rfl, upd_same, T.cl_Mark, T.a_Mark_even, Nat.lt_of_le_of_lt (lp (lp (Nat.le_refl 0))) (by decide), ?_⟩
    rw [upd_upd, upd_upd, mk_Mark]
    exact k
def spSwingI (T : Txt K mg) : Sp := fun vs H Q _ => ∃ (p dx : Addr) (x0 x1 x2 x3 x4 : V), vs = [.ref p, x0, x1, x2, x3, x4] ∧ H p = some (.ins T.C_Swing dx []) ∧ Q .non (upd H p (.ins T.C_Swing dx (fs_Swing x0 x1 x2 x3 x4)))
theorem ok_Swing_init (T : Txt K mg) : FnOk P w K mg base CX0 1 T.A_Swing_init T.D_Swing_init ["self", "first", "last", "pair", "a", "b"] (spSwingI T) := by
  refine T.f_Swing_init.ok sc_Swing_init (fun vs H Q E h => ?_) (fun cdv A outer s H vs Q E hr h => ?_)
  · obtain ⟨p, dx, x0, x1, x2, x3, x4, rfl, _⟩ := h
    rfl
  · obtain ⟨p, dx, x0, x1, x2, x3, x4, rfl, hp, k⟩ := h
    refine ⟨_, (pss_cons (ps_fld (pv 0) (pv 1) rfl) (pss_cons (ps_fld (pv 0) (pv 2) rfl) (pss_cons (ps_fld (pv 0) (pv 3) rfl) (pss_cons (ps_fld (pv 0) (pv 4) rfl) (pss_one (ps_fld (pv 0) (pv 5) rfl)))))), ?_⟩
    refine ⟨_, rfl, _, rfl, p, _, dx, _, rfl, hp, T.cl_Swing, T.a_Swing_first, Nat.lt_of_le_of_lt (Nat.le_refl 0) (by decide), ?_⟩
    refine ⟨_, rfl, _, rfl, p, _, dx, _, rfl, upd_same, T.cl_Swing, T.a_Swing_last, Nat.lt_of_le_of_lt (lp (Nat.le_refl 0)) (by decide), ?_⟩
    refine ⟨_, rfl, _, rfl, p, _, dx, _, rfl, upd_same, T.cl_Swing, T.a_Swing_pair, Nat.lt_of_le_of_lt (lp (lp (Nat.le_refl 0))) (by decide), ?_⟩
    refine ⟨_, rfl, _, rfl, p, _, dx, _, rfl, upd_same, T.cl_Swing, T.a_Swing_a, Nat.lt_of_le_of_lt (lp (lp (lp (Nat.le_refl 0)))) (by decide), ?_⟩
    refine ⟨_, rfl, _, rfl, p, _, dx, _, rfl, upd_same, T.cl_Swing, T.a_Swing_b, Nat.lt_of_le_of_lt (lp (lp (lp (lp (Nat.le_refl 0))))) (by decide), ?_⟩
    rw [upd_upd, upd_upd, upd_upd, upd_upd, mk_Swing]
    exact k
def spPedalI (T : Txt K mg) : Sp := fun vs H Q _ => ∃ (p dx : Addr) (x0 x1 : V), vs = [.ref p, x0, x1] ∧ H p = some (.ins T.C_Pedal dx []) ∧ Q .non (upd H p (.ins T.C_Pedal dx (fs_Pedal x0 x1)))
theorem ok_Pedal_init (T : Txt K mg) : FnOk P w K mg base CX0 1 T.A_Pedal_init T.D_Pedal_init ["self", "first", "last"] (spPedalI T) := by
  refine T.f_Pedal_init.ok sc_Pedal_init (fun vs H Q E h => ?_) (fun cdv A outer s H vs Q E hr h => ?_)
  · obtain ⟨p, dx, x0, x1, rfl, _⟩ := h
    rfl
  · obtain ⟨p, dx, x0, x1, rfl, hp, k⟩ := h
    refine ⟨_, (pss_cons (ps_fld (pv 0) (pv 1) rfl) (pss_one (ps_fld (pv 0) (pv 2) rfl))), ?_⟩
    refine ⟨_, rfl, _, rfl, p, _, dx, _, rfl, hp, T.cl_Pedal, T.a_Pedal_first, Nat.lt_of_le_of_lt (Nat.le_refl 0) (by decide), ?_⟩
    refine ⟨_, rfl, _, rfl, p, _, dx, _, rfl, upd_same, T.cl_Pedal, T.a_Pedal_last, Nat.lt_of_le_of_lt (lp (Nat.le_refl 0)) (by decide), ?_⟩
    rw [upd_upd, mk_Pedal]
    exact k
def spNoteI (T : Txt K mg) : Sp := fun vs H Q _ => ∃ (p dx : Addr) (x0 x1 x2 x3 x4 x5 x6 : V), vs = [.ref p, x0, x1, x2, x3, x4, x5, x6] ∧ H p = some (.ins T.C_Note dx []) ∧ Q .non (upd H p (.ins T.C_Note dx (fs_Note x0 x1 x2 x3 x4 x5 x6)))
theorem ok_Note_init (T : Txt K mg) : FnOk P w K mg base CX0 1 T.A_Note_init T.D_Note_init ["self", "voice", "pitch", "first", "length", "loudness", "part", "tied"] (spNoteI T) := by
  refine T.f_Note_init.ok sc_Note_init (fun vs H Q E h => ?_) (fun cdv A outer s H vs Q E hr h => ?_)
  · obtain ⟨p, dx, x0, x1, x2, x3, x4, x5, x6, rfl, _⟩ := h
    rfl
  · obtain ⟨p, dx, x0, x1, x2, x3, x4, x5, x6, rfl, hp, k⟩ := h
    refine ⟨_, (pss_cons (ps_fld (pv 0) (pv 1) rfl) (pss_cons (ps_fld (pv 0) (pv 2) rfl) (pss_cons (ps_fld (pv 0) (pv 3) rfl) (pss_cons (ps_fld (pv 0) (pv 4) rfl) (pss_cons (ps_fld (pv 0) (pv 5) rfl) (pss_cons (ps_fld (pv 0) (pv 6) rfl) (pss_one (ps_fld (pv 0) (pv 7) rfl)))))))), ?_⟩
    refine ⟨_, rfl, _, rfl, p, _, dx, _, rfl, hp, T.cl_Note, T.a_Note_voice, Nat.lt_of_le_of_lt (Nat.le_refl 0) (by decide), ?_⟩
    refine ⟨_, rfl, _, rfl, p, _, dx, _, rfl, upd_same, T.cl_Note, T.a_Note_pitch, Nat.lt_of_le_of_lt (lp (Nat.le_refl 0)) (by decide), ?_⟩
    refine ⟨_, rfl, _, rfl, p, _, dx, _, rfl, upd_same, T.cl_Note, T.a_Note_first, Nat.lt_of_le_of_lt (lp (lp (Nat.le_refl 0))) (by decide), ?_⟩
    refine ⟨_, rfl, _, rfl, p, _, dx, _, rfl, upd_same, T.cl_Note, T.a_Note_length, Nat.lt_of_le_of_lt (lp (lp (lp (Nat.le_refl 0)))) (by decide), ?_⟩
    refine ⟨_, rfl, _, rfl, p, _, dx, _, rfl, upd_same, T.cl_Note, T.a_Note_loudness, Nat.lt_of_le_of_lt (lp (lp (lp (lp (Nat.le_refl 0))))) (by decide), ?_⟩
    refine ⟨_, rfl, _, rfl, p, _, dx, _, rfl, upd_same, T.cl_Note, T.a_Note_part, Nat.lt_of_le_of_lt (lp (lp (lp (lp (lp (Nat.le_refl 0)))))) (by decide), ?_⟩
    refine ⟨_, rfl, _, rfl, p, _, dx, _, rfl, upd_same, T.cl_Note, T.a_Note_tied, Nat.lt_of_le_of_lt (lp (lp (lp (lp (lp (lp (Nat.le_refl 0))))))) (by decide), ?_⟩
    rw [upd_upd, upd_upd, upd_upd, upd_upd, upd_upd, upd_upd, mk_Note]
    exact k
def spStretchI (T : Txt K mg) : Sp := fun vs H Q _ => ∃ (p dx : Addr) (x0 x1 x2 x3 x4 : V), vs = [.ref p, x0, x1, x2, x3, x4] ∧ H p = some (.ins T.C_Stretch dx []) ∧ Q .non (upd H p (.ins T.C_Stretch dx (fs_Stretch x0 x1 x2 x3 x4)))
theorem ok_Stretch_init (T : Txt K mg) : FnOk P w K mg base CX0 1 T.A_Stretch_init T.D_Stretch_init ["self", "tick", "length", "rise", "over", "passed"] (spStretchI T) := by
  refine T.f_Stretch_init.ok sc_Stretch_init (fun vs H Q E h => ?_) (fun cdv A outer s H vs Q E hr h => ?_)
  · obtain ⟨p, dx, x0, x1, x2, x3, x4, rfl, _⟩ := h
    rfl
  · obtain ⟨p, dx, x0, x1, x2, x3, x4, rfl, hp, k⟩ := h
    refine ⟨_, (pss_cons (ps_fld (pv 0) (pv 1) rfl) (pss_cons (ps_fld (pv 0) (pv 2) rfl) (pss_cons (ps_fld (pv 0) (pv 3) rfl) (pss_cons (ps_fld (pv 0) (pv 4) rfl) (pss_one (ps_fld (pv 0) (pv 5) rfl)))))), ?_⟩
    refine ⟨_, rfl, _, rfl, p, _, dx, _, rfl, hp, T.cl_Stretch, T.a_Stretch_tick, Nat.lt_of_le_of_lt (Nat.le_refl 0) (by decide), ?_⟩
    refine ⟨_, rfl, _, rfl, p, _, dx, _, rfl, upd_same, T.cl_Stretch, T.a_Stretch_length, Nat.lt_of_le_of_lt (lp (Nat.le_refl 0)) (by decide), ?_⟩
    refine ⟨_, rfl, _, rfl, p, _, dx, _, rfl, upd_same, T.cl_Stretch, T.a_Stretch_rise, Nat.lt_of_le_of_lt (lp (lp (Nat.le_refl 0))) (by decide), ?_⟩
    refine ⟨_, rfl, _, rfl, p, _, dx, _, rfl, upd_same, T.cl_Stretch, T.a_Stretch_over, Nat.lt_of_le_of_lt (lp (lp (lp (Nat.le_refl 0)))) (by decide), ?_⟩
    refine ⟨_, rfl, _, rfl, p, _, dx, _, rfl, upd_same, T.cl_Stretch, T.a_Stretch_passed, Nat.lt_of_le_of_lt (lp (lp (lp (lp (Nat.le_refl 0))))) (by decide), ?_⟩
    rw [upd_upd, upd_upd, upd_upd, upd_upd, mk_Stretch]
    exact k
end
end XW
namespace XW
open PySem PySem.Spec PyProof.Rows L2
open Sw70 (Mark Swing Note Piece)
theorem qB {Q : VK} {H : Hp} {b c : Bool} (k : Q (.bl b) H) (e : b = c) : Q (.bl c) H := e ▸ k
theorem qI {Q : VK} {H : Hp} {b c : Int} (k : Q (.int b) H) (e : b = c) : Q (.int c) H := e ▸ k
section
variable {P : Program} {w : World} {K : PySem.W.Frag} {mg : Str → Option Value} {base : Heap}
def spMarkTick (T : Txt K mg) : Sp := fun vs H Q _ => ∃ (a : Addr) (m : Mark), vs = [.ref a] ∧ MarkAt T H a m ∧ Q (.int m.tick) H
theorem ok_mark_tick (T : Txt K mg) : FnOk P w K mg base CX0 1 T.A_mark_tick T.D_mark_tick ["mark"] (spMarkTick T) := by
  refine T.f_mark_tick.ok sc_mark_tick (fun vs H Q E h => ?_) (fun cdv A outer s H vs Q E hr h => ?_)
  · obtain ⟨a, m, rfl, _⟩ := h
    rfl
  · obtain ⟨a, m, rfl, ⟨dx, hm⟩, k⟩ := h
    refine ⟨_, (pss_one (ps_ret (pe_fld (pv 0) rfl))), ?_⟩
    exact ⟨_, rfl, a, _, dx, _, _, rfl, hm, T.cl_Mark, T.a_Mark_tick, lk_Mark_tick .., k⟩
def spMarkOk (T : Txt K mg) : Sp := fun vs H Q _ => ∃ (a : Addr) (m : Mark), vs = [.ref a] ∧ MarkAt T H a m ∧ Q (.bl (Sw70.markOk m)) H
theorem ok_mark_is_as_told (T : Txt K mg) : FnOk P w K mg base CX0 1 T.A_mark_is_as_told T.D_mark_is_as_told ["mark"] (spMarkOk T) := by
  refine T.f_mark_is_as_told.ok sc_mark_is_as_told (fun vs H Q E h => ?_) (fun cdv A outer s H vs Q E hr h => ?_)
  · obtain ⟨a, m, rfl, _⟩ := h
    rfl
  · obtain ⟨a, m, rfl, ⟨dx, hm⟩, k⟩ := h
    refine ⟨_, (pss_one (ps_ret (pe_and (pe_cmpR op_le (pe_fld (pv 0) rfl) (pgc rfl T.c_LAST_TICK) (nomark _)) (pe_one (pe_chain op_le op_le pe_int (pe_fld (pv 0) rfl) (pgc rfl T.c_LONGEST_QUARTER)))))), ?_⟩
    refine ⟨_, rfl, a, _, dx, _, _, rfl, hm, T.cl_Mark, T.a_Mark_tick, lk_Mark_tick .., _, _, rfl, rfl, _, rfl, iteD (fun h1 => ?_) (fun h1 => ?_)⟩
    · refine ⟨_, rfl, a, _, dx, _, _, rfl, hm, T.cl_Mark, T.a_Mark_length, lk_Mark_length .., _, _, rfl, rfl, _, rfl, iteD (fun h2 => ⟨_, _, rfl, rfl, ?_⟩) (fun h2 => ?_)⟩
      · refine qB k ?_
        rw [Bool.eq_iff_iff, XM.mkOk_of, decide_eq_true_eq]
        exact ⟨fun o => by have := o.q2; omega, fun h => ⟨by omega, by omega, by omega⟩⟩
      · refine qB k ?_
        rw [Bool.eq_iff_iff, XM.mkOk_of]
        exact ⟨fun o => absurd (show (1 : Int) ≤ m.quarter by have := o.q1; omega) h2, fun h => absurd h Bool.false_ne_true⟩
    · refine qB k ?_
      rw [Bool.eq_iff_iff, XM.mkOk_of]
      exact ⟨fun o => absurd (show (m.tick : Int) ≤ 1000000 by have := o.t; omega) h1, fun h => absurd h Bool.false_ne_true⟩
def spSpanOk (K : PySem.W.Frag) : Sp := fun vs H Q _ => ∃ (a : Addr) (f l : Nat), vs = [.ref a] ∧ SpanAt K H a f l ∧ Q (.bl (decide (f < l ∧ l ≤ 1000000))) H
theorem ok_span_is_as_told (T : Txt K mg) : FnOk P w K mg base CX0 1 T.A_span_is_as_told T.D_span_is_as_told ["span"] (spSpanOk K) := by
  refine T.f_span_is_as_told.ok sc_span_is_as_told (fun vs H Q E h => ?_) (fun cdv A outer s H vs Q E hr h => ?_)
  · obtain ⟨a, f, l, rfl, _⟩ := h
    rfl
  · obtain ⟨a, f, l, rfl, ⟨C, dx, fs, hs, c, n1, n2, l1, l2⟩, k⟩ := h
    refine ⟨_, (pss_one (ps_ret (pe_chain op_lt op_le (pe_fld (pv 0) rfl) (pe_fld (pv 0) rfl) (pgc rfl T.c_LAST_TICK)))), ?_⟩
    refine ⟨_, rfl, a, C, dx, fs, _, rfl, hs, c, n1, l1, _, rfl, a, C, dx, fs, _, rfl, hs, c, n2, l2, _, _, rfl, rfl, _, rfl, iteD (fun h1 => ⟨_, _, rfl, rfl, ?_⟩) (fun h1 => ?_)⟩
    · refine qB k ?_
      rw [Bool.eq_iff_iff, decide_eq_true_eq, decide_eq_true_eq]
      omega
    · refine qB k ?_
      rw [decide_eq_false]
      omega
def FitOk (s : Swing) : Prop := 2 ≤ s.pair ∧ s.pair % 2 = 0 ∧ (s.high - s.low) % s.pair = 0
instance (s : Swing) : Decidable (FitOk s) := by unfold FitOk; infer_instance
def spFit (T : Txt K mg) : Sp := fun vs H Q _ => ∃ (a : Addr) (s : Swing), vs = [.ref a] ∧ SwingAt T H a s ∧ s.low < s.high ∧ Q (.bl (decide (FitOk s))) H
theorem ok_pairs_fit (T : Txt K mg) : FnOk P w K mg base CX0 1 T.A_pairs_fit T.D_pairs_fit ["swing"] (spFit T) := by
  refine T.f_pairs_fit.ok sc_pairs_fit (fun vs H Q E h => ?_) (fun cdv A outer s H vs Q E hr h => ?_)
  · obtain ⟨a, s', rfl, _⟩ := h
    rfl
  · obtain ⟨a, s', rfl, ⟨dx, hs⟩, hlt, k⟩ := h
    refine ⟨_, (pss_cons (ps_if (PW.pt (pw_or (pt_cmpR op_lt (pe_fld (pv 0) rfl) pe_int (nomark _)) (pw_or1 (pt_cmpR op_ne (pe_op op_mod (pe_fld (pv 0) rfl) pe_int) pe_int (nomark _))))) (pss_one (ps_ret pe_bl)) pss_nil) (pss_one (ps_ret (pe_cmpR op_eq (pe_op op_mod (pe_op op_sub (pe_fld (pv 0) rfl) (pe_fld (pv 0) rfl)) (pe_fld (pv 0) rfl)) pe_int (nomark _))))), ?_⟩
    refine ⟨_, rfl, a, _, dx, _, _, rfl, hs, T.cl_Swing, T.a_Swing_pair, lk_Swing_pair .., _, _, rfl, rfl, _, rfl, iteD (fun h1 => iteT ?_) (fun h1 => ?_)⟩
    · refine qB k ?_
      rw [decide_eq_false]
      intro h
      have := h.1
      omega
    · refine ⟨_, rfl, a, _, dx, _, _, rfl, hs, T.cl_Swing, T.a_Swing_pair, lk_Swing_pair .., _, _, rfl, rfl, (by show (0 : Int) < 2; decide), rfl, _, rfl, iteN (fun h2 => ?_) (fun h2 => ?_)⟩
      · refine qB k ?_
        rw [decide_eq_false]
        intro h
        have := h.2.1
        omega
      · refine ⟨_, rfl, a, _, dx, _, _, rfl, hs, T.cl_Swing, T.a_Swing_last, lk_Swing_last .., _, rfl, a, _, dx, _, _, rfl, hs, T.cl_Swing, T.a_Swing_first, lk_Swing_first .., _, _, rfl, rfl,
          _, rfl, a, _, dx, _, _, rfl, hs, T.cl_Swing, T.a_Swing_pair, lk_Swing_pair .., _, _, rfl, rfl, (by show (0 : Int) < s'.pair; omega), rfl, ?_⟩
        refine qB k ?_
        show decide (FitOk s') = decide (V.int (((s'.high : Int) - s'.low) % s'.pair) = V.int 0)
        have e : ((s'.high : Int) - s'.low) % s'.pair = (((s'.high - s'.low) % s'.pair : Nat) : Int) := by
          rw [Int.natCast_emod]
          congr 1
          omega
        rw [e, Bool.eq_iff_iff, decide_eq_true_eq, decide_eq_true_eq]
        constructor
        · intro h
          rw [h.2.2]
          rfl
        · intro h
          have h := V.int.inj h
          exact ⟨by omega, by omega, by omega⟩
def spSwingOk (T : Txt K mg) : Sp := fun vs H Q _ => ∃ (a : Addr) (s : Swing), vs = [.ref a] ∧ SwingAt T H a s ∧ Q (.bl (Sw70.swingOk s)) H
theorem ok_swing_is_as_told (T : Txt K mg) : FnOk P w K mg base CX0 2 T.A_swing_is_as_told T.D_swing_is_as_told ["swing"] (spSwingOk T) := by
  refine T.f_swing_is_as_told.ok sc_swing_is_as_told (fun vs H Q E h => ?_) (fun cdv A outer s H vs Q E hr h => ?_)
  · obtain ⟨a, s', rfl, _⟩ := h
    rfl
  · obtain ⟨a, s', rfl, hS, k⟩ := h
    obtain ⟨dx, hs⟩ := id hS
    refine ⟨_, (pss_cons (ps_if (PW.pt (pw_or (pt_not (pt_val (pe_call (ok_span_is_as_told T) (hr.mono (by decide)) rfl T.g_span_is_as_told T.f_span_is_as_told.kp T.b_span_is_as_told .nil pass0 (pa_cons (pv 0) pa_nil)))) (pw_or1 (pt_not (pt_val (pe_call (ok_pairs_fit T) (hr.mono (by decide)) rfl T.g_pairs_fit T.f_pairs_fit.kp T.b_pairs_fit .nil pass0 (pa_cons (pv 0) pa_nil))))))) (pss_one (ps_ret pe_bl)) pss_nil) (pss_one (ps_ret (pe_and (pe_chain op_le op_le pe_int (pe_fld (pv 0) rfl) (pgc rfl T.c_GREATEST_SHARE)) (pe_one (pe_chain op_le op_le pe_int (pe_fld (pv 0) rfl) (pgc rfl T.c_GREATEST_SHARE))))))), ?_⟩
    have no : ∀ {c : Prop}, ¬ c → (XM.SwOk s' → c) → Q (.bl false) H := fun h1 h2 => qB k (by
      cases e : Sw70.swingOk s' with
      | false => rfl
      | true => exact absurd (h2 (XM.swOk_of.mp e)) h1)
    refine ⟨_, rfl, a, s'.low, s'.high, rfl, hS.span, _, rfl, iteNB (fun h1 => iteT ?_) (fun h1 => ?_)⟩
    · have h1 := of_decide_eq_false h1
      exact no h1 fun o => ⟨o.lt, o.last⟩
    · have h1 := of_decide_eq_true h1
      refine ⟨_, rfl, a, s', rfl, hS, h1.1, _, rfl, iteNB (fun h2 => ?_) (fun h2 => ?_)⟩
      · have h2 := of_decide_eq_false h2
        exact no h2 fun o => ⟨o.pair, o.even, o.fit⟩
      · have h2 := of_decide_eq_true h2
        refine ⟨_, rfl, a, _, dx, _, _, rfl, hs, T.cl_Swing, T.a_Swing_a, lk_Swing_a .., _, _, rfl, rfl, _, rfl, iteD (fun h3 => ⟨_, _, rfl, rfl, _, rfl, iteD (fun h4 => ?_) (fun h4 => ?_)⟩) (fun h3 => ⟨_, rfl, iteF ?_⟩)⟩
        · refine ⟨_, rfl, a, _, dx, _, _, rfl, hs, T.cl_Swing, T.a_Swing_b, lk_Swing_b .., _, _, rfl, rfl, _, rfl, iteD (fun h5 => ⟨_, _, rfl, rfl, ?_⟩) (fun h5 => ?_)⟩
          · refine qB k ?_
            rw [Bool.eq_iff_iff, XM.swOk_of, decide_eq_true_eq]
            exact ⟨fun o => by have := o.b2; omega, fun h => ⟨h1.1, h1.2, h2.1, h2.2.1, h2.2.2, by omega, by omega, by omega, by omega⟩⟩
          · exact no h5 fun o => by have := o.b1; omega
        · exact no h4 fun o => by have := o.a2; omega
        · exact no h3 fun o => by have := o.a1; omega
def spNoteEnd (T : Txt K mg) : Sp := fun vs H Q _ => ∃ (a : Addr) (x : Note), vs = [.ref a] ∧ NoteAt T H a x ∧ Q (.int ((x.start : Int) + x.long)) H
theorem ok_note_end (T : Txt K mg) : FnOk P w K mg base CX0 1 T.A_note_end T.D_note_end ["note"] (spNoteEnd T) := by
  refine T.f_note_end.ok sc_note_end (fun vs H Q E h => ?_) (fun cdv A outer s H vs Q E hr h => ?_)
  · obtain ⟨a, x, rfl, _⟩ := h
    rfl
  · obtain ⟨a, x, rfl, ⟨dx, hx⟩, k⟩ := h
    refine ⟨_, (pss_one (ps_ret (pe_op op_add (pe_fld (pv 0) rfl) (pe_fld (pv 0) rfl)))), ?_⟩
    exact ⟨_, rfl, a, _, dx, _, _, rfl, hx, T.cl_Note, T.a_Note_first, lk_Note_first .., _, rfl, a, _, dx, _, _, rfl, hx, T.cl_Note, T.a_Note_length, lk_Note_length .., _, _, rfl, rfl, k⟩
def spNoteOk (T : Txt K mg) : Sp := fun vs H Q _ => ∃ (a : Addr) (x : Note), vs = [.ref a] ∧ NoteAt T H a x ∧ Q (.bl (Sw70.noteOk x)) H
theorem ok_note_is_as_told (T : Txt K mg) : FnOk P w K mg base CX0 2 T.A_note_is_as_told T.D_note_is_as_told ["note"] (spNoteOk T) := by
  refine T.f_note_is_as_told.ok sc_note_is_as_told (fun vs H Q E h => ?_) (fun cdv A outer s H vs Q E hr h => ?_)
  · obtain ⟨a, x, rfl, _⟩ := h
    rfl
  · obtain ⟨a, x, rfl, hN, k⟩ := h
    obtain ⟨dx, hx⟩ := id hN
    refine ⟨_, (pss_cons (ps_if (PW.pt (pw_or (pt_cmpR op_gt (pe_fld (pv 0) rfl) (pgc rfl T.c_GREATEST_VOICE) (nomark _)) (pw_or1 (pt_cmpR op_gt (pe_fld (pv 0) rfl) (pgc rfl T.c_GREATEST_PITCH) (nomark _))))) (pss_one (ps_ret pe_bl)) pss_nil) (pss_cons (ps_if (PW.pt (pw_or (pt_cmpR op_lt (pe_fld (pv 0) rfl) pe_int (nomark _)) (pw_or1 (pt_cmpR op_gt (pe_call (ok_note_end T) (hr.mono (by decide)) rfl T.g_note_end T.f_note_end.kp T.b_note_end .nil pass0 (pa_cons (pv 0) pa_nil)) (pgc rfl T.c_LAST_TICK) (nomark _))))) (pss_one (ps_ret pe_bl)) pss_nil) (pss_one (ps_ret (pe_and (pe_chain op_le op_le pe_int (pe_fld (pv 0) rfl) (pgc rfl T.c_GREATEST_LOUDNESS)) (pe_one (pe_chain op_le op_le pe_int (pe_fld (pv 0) rfl) (pgc rfl T.c_GREATEST_PART)))))))), ?_⟩
    have no : ∀ {c : Prop}, ¬ c → (XM.NoOk x → c) → Q (.bl false) H := fun h1 h2 => qB k (by
      cases e : Sw70.noteOk x with
      | false => rfl
      | true => exact absurd (h2 (XM.noOk_of.mp e)) h1)
    refine ⟨_, rfl, a, _, dx, _, _, rfl, hx, T.cl_Note, T.a_Note_voice, lk_Note_voice .., _, _, rfl, rfl, _, rfl, iteD (fun h1 => iteT ?_) (fun h1 => ?_)⟩
    · exact no (c := ¬ ((15 : Int) < x.voice)) (fun h => h h1) fun o => by have := o.v; omega
    refine ⟨_, rfl, a, _, dx, _, _, rfl, hx, T.cl_Note, T.a_Note_pitch, lk_Note_pitch .., _, _, rfl, rfl, _, rfl, iteD (fun h2 => ?_) (fun h2 => ?_)⟩
    · exact no (c := ¬ ((127 : Int) < x.pitch)) (fun h => h h2) fun o => by have := o.k; omega
    refine ⟨_, rfl, a, _, dx, _, _, rfl, hx, T.cl_Note, T.a_Note_length, lk_Note_length .., _, _, rfl, rfl, _, rfl, iteD (fun h3 => iteT ?_) (fun h3 => ?_)⟩
    · exact no (c := ¬ ((x.long : Int) < 1)) (fun h => h h3) fun o => by have := o.l1; omega
    refine ⟨_, rfl, a, x, rfl, hN, _, _, rfl, rfl, _, rfl, iteD (fun h4 => ?_) (fun h4 => ?_)⟩
    · exact no (c := ¬ ((1000000 : Int) < x.start + x.long)) (fun h => h h4) fun o => by have := o.e; omega
    refine ⟨_, rfl, a, _, dx, _, _, rfl, hx, T.cl_Note, T.a_Note_loudness, lk_Note_loudness .., _, _, rfl, rfl, _, rfl, iteD (fun h5 => ⟨_, _, rfl, rfl, _, rfl, iteD (fun h6 => ?_) (fun h6 => ?_)⟩) (fun h5 => ⟨_, rfl, iteF ?_⟩)⟩
    · refine ⟨_, rfl, a, _, dx, _, _, rfl, hx, T.cl_Note, T.a_Note_part, lk_Note_part .., _, _, rfl, rfl, _, rfl, iteD (fun h7 => ⟨_, _, rfl, rfl, ?_⟩) (fun h7 => ?_)⟩
      · refine qB k ?_
        rw [Bool.eq_iff_iff, XM.noOk_of, decide_eq_true_eq]
        exact ⟨fun o => by have := o.p2; omega, fun h => ⟨by omega, by omega, by omega, by omega, by omega, by omega, by omega, by omega⟩⟩
      · exact no h7 fun o => by have := o.p1; omega
    · exact no h6 fun o => by have := o.d2; omega
    · exact no h5 fun o => by have := o.d1; omega
end
end XW
namespace XW
open PySem PySem.Spec PyProof.Rows L2
open Sw70 (Mark Swing Note Piece)
theorem pe_fldB {X : Cx} {K : PySem.W.Frag} {e : Expr} {f : Str} {pos : Pos} {ta : TE} (hK : X.K = K) (he : PE X e ta) (hb : attributeBase e f X.env (eval e X.env) = eval e X.env) : PE X (.Attribute e f pos) (tFld K ta f) := by
  subst hK
  exact pe_fld he hb
section
variable {P : Program} {w : World} {K : PySem.W.Frag} {mg : Str → Option Value} {base : Heap}
theorem refs_at {as : List Addr} {i : Nat} {x : V} (h : (as.map V.ref)[i]? = some x) : ∃ a, as[i]? = some a ∧ x = .ref a := by
  rw [List.getElem?_map] at h
  cases e : as[i]? with
  | none =>
    rw [e] at h
    cases h
  | some a =>
    rw [e] at h
    exact ⟨a, rfl, (Option.some.inj h).symm⟩
theorem apart_cons (f l : Nat) (d : Nat × Nat) (r : List (Nat × Nat)) : Sw70.apart f l (d :: r) = ((decide (l ≤ d.1) || decide (d.2 ≤ f)) && Sw70.apart f l r) := rfl
theorem apart_take {f l : Nat} : ∀ {sp : List (Nat × Nat)} {i : Nat} {d : Nat × Nat}, sp[i]? = some d → (¬ (l ≤ d.1 ∨ d.2 ≤ f)) → Sw70.apart f l sp = false
  | [], i, d, h, _ => by simp at h
  | e :: r, 0, d, h, n => by
    have q : e = d := Option.some.inj h
    subst q
    rw [apart_cons]
    have h1 : decide (l ≤ e.1) = false := decide_eq_false fun z => n (.inl z)
    have h2 : decide (e.2 ≤ f) = false := decide_eq_false fun z => n (.inr z)
    rw [h1, h2]
    rfl
  | e :: r, i + 1, d, h, n => by
    rw [apart_cons, apart_take (sp := r) (i := i) (d := d) h n, Bool.and_false]
def spCommon (K : PySem.W.Frag) : Sp := fun vs H Q _ => ∃ (a l : Addr) (f e : Nat) (as : List Addr) (sp : List (Nat × Nat)), vs = [.ref a, .ref l] ∧ SpanAt K H a f e ∧ H l = some (.lst (as.map V.ref)) ∧ Paired (fun r (d : Nat × Nat) => SpanAt K H r d.1 d.2) as sp ∧
  Q (.bl (!Sw70.apart f e sp)) H
theorem ok_has_tick_in_common (T : Txt K mg) : FnOk P w K mg base CX0 1 T.A_has_tick_in_common T.D_has_tick_in_common ["span", "others"] (spCommon K) := by
  refine T.f_has_tick_in_common.ok sc_has_tick_in_common (fun vs H Q E h => ?_) (fun cdv A outer s H vs Q E hr h => ?_)
  · obtain ⟨a, l, f, e, as, sp, rfl, _⟩ := h
    rfl
  · obtain ⟨a, l, f, e, as, sp, rfl, ⟨C, dx, fs, hs, c, n1, n2, l1, l2⟩, hl, hp, k⟩ := h
    refine ⟨_, (pss_cons (ps_for PassesOwn.never rfl (pi_list (pv 1)) (pg_name (i := 2) sc_has_tick_in_common.nd rfl (Or.inl rfl)) (pss_one (ps_if (PW.pt (pw_and (pt_cmpR op_lt (pe_fld (pv 0) rfl) (pe_fld (pv 2) rfl) (nomark _)) (pw_and1 (pt_cmpR op_lt (pe_fld (pv 2) rfl) (pe_fld (pv 0) rfl) (nomark _))))) (pss_one (ps_ret pe_bl)) pss_nil))) (pss_one (ps_ret pe_bl))), ?_⟩
    refine ⟨_, rfl, l, rfl, ⟨_, SqL.of hl⟩, for_list (K := K) (a := l) (xs := as.map V.ref) (fun i σ H' => H' = H ∧ (∃ v, σ = [some (.ref a), some (.ref l), v]) ∧ ∀ (j : Nat) (d : Nat × Nat), j < i → sp[j]? = some d → e ≤ d.1 ∨ d.2 ≤ f)
      ⟨rfl, ⟨none, rfl⟩, fun j d h => absurd h (Nat.not_lt_zero j)⟩ (fun i σ H' _ h => by rw [h.1]; exact SqL.of hl) ?_ ?_⟩
    · rintro i x σ H' hi ⟨rfl, ⟨v, rfl⟩, hj⟩
      obtain ⟨b, hb, rfl⟩ := refs_at hi
      obtain ⟨d, hd, C', dx', fs', hs', c', n1', n2', l1', l2'⟩ := paired_get hp hb
      have next : (e ≤ d.1 ∨ d.2 ≤ f) → ∀ (j : Nat) (d' : Nat × Nat), j < i + 1 → sp[j]? = some d' → e ≤ d'.1 ∨ d'.2 ≤ f := fun h j d' hlt hd' => by
        by_cases q : j = i
        · subst q
          rw [hd] at hd'
          cases hd'
          exact h
        · exact hj j d' (by omega) hd'
      refine ⟨_, rfl, a, C, dx, fs, _, rfl, hs, c, n1, l1, _, rfl, b, C', dx', fs', _, rfl, hs', c', n2', l2', _, _, rfl, rfl, _, rfl, iteD (fun h1 => ?_) (fun h1 => ?_)⟩
      · refine ⟨_, rfl, b, C', dx', fs', _, rfl, hs', c', n1', l1', _, rfl, a, C, dx, fs, _, rfl, hs, c, n2, l2, _, _, rfl, rfl, _, rfl, iteD (fun h2 => ?_) (fun h2 => ?_)⟩
        · refine qB k ?_
          rw [apart_take hd (by omega)]
          rfl
        · exact ⟨rfl, ⟨_, rfl⟩, next (by omega)⟩
      · exact iteF ⟨rfl, ⟨_, rfl⟩, next (by omega)⟩
    · rintro σ H' ⟨rfl, ⟨v, rfl⟩, hj⟩
      refine qB k ?_
      have : Sw70.apart f e sp = true := by
        unfold Sw70.apart
        refine List.all_eq_true.mpr fun d hd => ?_
        obtain ⟨j, hj'⟩ := List.getElem?_of_mem hd
        have hlt : j < as.length := by
          have := (List.getElem?_eq_some_iff.mp hj').1
          rw [Paired.length hp]
          exact this
        have := hj j d (by rw [List.length_map]; exact hlt) hj'
        simpa using this
      rw [this]
      rfl
def spPutSpan (K : PySem.W.Frag) : Sp := fun vs H Q _ => ∃ (a l : Addr) (f e : Nat) (as : List Addr) (sp : List (Nat × Nat)), vs = [.ref l, .ref a] ∧ SpanAt K H a f e ∧ H l = some (.lst (as.map V.ref)) ∧ Paired (fun r (d : Nat × Nat) => SpanAt K H r d.1 d.2) as sp ∧ as.length ≤ 30 ∧
  (Sw70.apart f e sp = false → Q (.int (-3)) H) ∧ (Sw70.apart f e sp = true → 30 ≤ sp.length → Q (.int (-5)) H) ∧
  (Sw70.apart f e sp = true → sp.length < 30 → Q (.int ((sp.length : Int) + 1)) (upd H l (.lst ((as ++ [a]).map V.ref))))
theorem ok_put_span (T : Txt K mg) : FnOk P w K mg base CX0 2 T.A_put_span T.D_put_span ["spans", "span"] (spPutSpan K) := by
  refine T.f_put_span.ok sc_put_span (fun vs H Q E h => ?_) (fun cdv A outer s H vs Q E hr h => ?_)
  · obtain ⟨a, l, f, e, as, sp, rfl, _⟩ := h
    rfl
  · obtain ⟨a, l, f, e, as, sp, rfl, hs, hl, hp, h30, k1, k2, k3⟩ := h
    have hlen := Paired.length hp
    refine ⟨_, (pss_cons (ps_if (pt_val (pe_call (ok_has_tick_in_common T) (hr.mono (by decide)) rfl T.g_has_tick_in_common T.f_has_tick_in_common.kp T.b_has_tick_in_common .nil pass0 (pa_cons (pv 1) (pa_cons (pv 0) pa_nil)))) (pss_one (ps_ret (pgc rfl T.c_IN_COMMON))) pss_nil) (pss_cons (ps_if (pt_cmpR op_ge (pe_callB call_len_seq (by rfl) T.n_len PySem.boot_len (pa_cons (pv 0) pa_nil)) (pgc rfl T.c_MOST_SPANS) (nomark _)) (pss_one (ps_ret (pgc rfl T.c_TOO_MANY))) pss_nil) (pss_cons (ps_expr (pe_bm PySem.F.plainAttrs_list PySem.F.slot_list_append PySem.F.type_list_append mt_append (pv 0) (pa_cons (pv 1) pa_nil))) (pss_one (ps_ret (pe_callB call_len_seq (by rfl) T.n_len PySem.boot_len (pa_cons (pv 0) pa_nil))))))), ?_⟩
    refine ⟨_, rfl, _, rfl, a, l, f, e, as, sp, rfl, hs, hl, hp, _, rfl, iteNB (fun h1 => k1 h1) (fun h1 => ?_)⟩
    refine ⟨_, rfl, l, _, rfl, .inl (SqL.of hl), _, _, rfl, rfl, _, rfl, iteD (fun h2 => ?_) (fun h2 => ?_)⟩
    · exact k2 h1 (by rw [List.length_map] at h2; omega)
    · rw [List.length_map] at h2
      refine ⟨_, rfl, .inl ⟨rfl, _, SqL.of hl⟩, _, rfl, l, _, _, rfl, rfl, hl, (by rw [List.length_map]; exact small1000 (by omega)), ?_⟩
      refine ⟨_, rfl, l, _, rfl, .inl (SqL.of upd_same), ?_⟩
      have k4 := k3 h1 (by omega)
      rw [List.map_append] at k4
      refine qI k4 ?_
      rw [List.length_append, List.length_map]
      show (sp.length : Int) + 1 = ((as.length + 1 : Nat) : Int)
      omega
/-! ### so many ticks later -/
def spLaterMark (T : Txt K mg) : Sp := fun vs H Q _ => ∃ (a : Addr) (m : Mark) (t : Nat), vs = [.ref a, .int t] ∧ MarkAt T H a m ∧ ∀ (H' : Hp) (x : Addr), Same H H' → H x = none → MarkAt T H' x { m with tick := m.tick + t } → Q (.ref x) H'
theorem ok_later_mark (T : Txt K mg) : FnOk P w K mg base CX0 3 T.A_later_mark T.D_later_mark ["mark", "ticks"] (spLaterMark T) := by
  refine T.f_later_mark.ok sc_later_mark (fun vs H Q E h => ?_) (fun cdv A outer s H vs Q E hr h => ?_)
  · obtain ⟨a, m, t, rfl, _⟩ := h
    rfl
  · obtain ⟨a, m, t, rfl, ⟨dx, hm⟩, k⟩ := h
    refine ⟨_, (pss_one (ps_ret (pe_make T.k_Mark (ok_Mark_init T) (hr.mono (by decide)) rfl T.g_Mark T.b_Mark_init .nil pass0 (pa_cons (pe_op op_add (pe_fld (pv 0) rfl) (pv 1)) (pa_cons (pe_fld (pv 0) rfl) (pa_cons (pe_fld (pv 0) rfl) pa_nil)))))), ?_⟩
    refine ⟨_, rfl, a, _, dx, _, _, rfl, hm, T.cl_Mark, T.a_Mark_tick, lk_Mark_tick .., _, rfl, _, _, rfl, rfl, _, rfl, a, _, dx, _, _, rfl, hm, T.cl_Mark, T.a_Mark_length, lk_Mark_length .., _, rfl, a, _, dx, _, _, rfl, hm, T.cl_Mark, T.a_Mark_even, lk_Mark_even .., ?_⟩
    intro x dx' nx nd ne
    refine ⟨x, dx', _, _, _, rfl, upd_same, rfl, ?_⟩
    rw [upd_upd]
    exact k _ x (Same.made2 nx nd) nx ⟨dx', upd_same⟩
def spLaterSwing (T : Txt K mg) : Sp := fun vs H Q _ => ∃ (a : Addr) (m : Swing) (t : Nat), vs = [.ref a, .int t] ∧ SwingAt T H a m ∧ ∀ (H' : Hp) (x : Addr), Same H H' → H x = none → SwingAt T H' x { m with low := m.low + t, high := m.high + t } → Q (.ref x) H'
theorem ok_later_swing (T : Txt K mg) : FnOk P w K mg base CX0 3 T.A_later_swing T.D_later_swing ["swing", "ticks"] (spLaterSwing T) := by
  refine T.f_later_swing.ok sc_later_swing (fun vs H Q E h => ?_) (fun cdv A outer s H vs Q E hr h => ?_)
  · obtain ⟨a, m, t, rfl, _⟩ := h
    rfl
  · obtain ⟨a, m, t, rfl, ⟨dx, hm⟩, k⟩ := h
    refine ⟨_, (pss_one (ps_ret (pe_make T.k_Swing (ok_Swing_init T) (hr.mono (by decide)) rfl T.g_Swing T.b_Swing_init .nil pass0 (pa_cons (pe_op op_add (pe_fld (pv 0) rfl) (pv 1)) (pa_cons (pe_op op_add (pe_fld (pv 0) rfl) (pv 1)) (pa_cons (pe_fld (pv 0) rfl) (pa_cons (pe_fld (pv 0) rfl) (pa_cons (pe_fld (pv 0) rfl) pa_nil)))))))), ?_⟩
    refine ⟨_, rfl, a, _, dx, _, _, rfl, hm, T.cl_Swing, T.a_Swing_first, lk_Swing_first .., _, rfl, _, _, rfl, rfl, _, rfl, a, _, dx, _, _, rfl, hm, T.cl_Swing, T.a_Swing_last, lk_Swing_last .., _, rfl, _, _, rfl, rfl,
      _, rfl, a, _, dx, _, _, rfl, hm, T.cl_Swing, T.a_Swing_pair, lk_Swing_pair .., _, rfl, a, _, dx, _, _, rfl, hm, T.cl_Swing, T.a_Swing_a, lk_Swing_a .., _, rfl, a, _, dx, _, _, rfl, hm, T.cl_Swing, T.a_Swing_b, lk_Swing_b .., ?_⟩
    intro x dx' nx nd ne
    refine ⟨x, dx', _, _, _, _, _, rfl, upd_same, rfl, ?_⟩
    rw [upd_upd]
    exact k _ x (Same.made2 nx nd) nx ⟨dx', upd_same⟩
def spLaterPedal (T : Txt K mg) : Sp := fun vs H Q _ => ∃ (a : Addr) (m : Nat × Nat) (t : Nat), vs = [.ref a, .int t] ∧ PedalAt T H a m ∧ ∀ (H' : Hp) (x : Addr), Same H H' → H x = none → PedalAt T H' x (m.1 + t, m.2 + t) → Q (.ref x) H'
theorem ok_later_pedal (T : Txt K mg) : FnOk P w K mg base CX0 3 T.A_later_pedal T.D_later_pedal ["pedal", "ticks"] (spLaterPedal T) := by
  refine T.f_later_pedal.ok sc_later_pedal (fun vs H Q E h => ?_) (fun cdv A outer s H vs Q E hr h => ?_)
  · obtain ⟨a, m, t, rfl, _⟩ := h
    rfl
  · obtain ⟨a, m, t, rfl, ⟨dx, hm⟩, k⟩ := h
    refine ⟨_, (pss_one (ps_ret (pe_make T.k_Pedal (ok_Pedal_init T) (hr.mono (by decide)) rfl T.g_Pedal T.b_Pedal_init .nil pass0 (pa_cons (pe_op op_add (pe_fld (pv 0) rfl) (pv 1)) (pa_cons (pe_op op_add (pe_fld (pv 0) rfl) (pv 1)) pa_nil))))), ?_⟩
    refine ⟨_, rfl, a, _, dx, _, _, rfl, hm, T.cl_Pedal, T.a_Pedal_first, lk_Pedal_first .., _, rfl, _, _, rfl, rfl, _, rfl, a, _, dx, _, _, rfl, hm, T.cl_Pedal, T.a_Pedal_last, lk_Pedal_last .., _, rfl, _, _, rfl, rfl, ?_⟩
    intro x dx' nx nd ne
    refine ⟨x, dx', _, _, rfl, upd_same, rfl, ?_⟩
    rw [upd_upd]
    exact k _ x (Same.made2 nx nd) nx ⟨dx', upd_same⟩
def spLaterNote (T : Txt K mg) : Sp := fun vs H Q _ => ∃ (a : Addr) (m : Note) (t : Nat), vs = [.ref a, .int t] ∧ NoteAt T H a m ∧ ∀ (H' : Hp) (x : Addr), Same H H' → H x = none → NoteAt T H' x { m with start := m.start + t } → Q (.ref x) H'
theorem ok_later_note (T : Txt K mg) : FnOk P w K mg base CX0 3 T.A_later_note T.D_later_note ["note", "ticks"] (spLaterNote T) := by
  refine T.f_later_note.ok sc_later_note (fun vs H Q E h => ?_) (fun cdv A outer s H vs Q E hr h => ?_)
  · obtain ⟨a, m, t, rfl, _⟩ := h
    rfl
  · obtain ⟨a, m, t, rfl, ⟨dx, hm⟩, k⟩ := h
    refine ⟨_, (pss_cons (ps_set (i := 2) sc_later_note.nd rfl (by first | exact Or.inl rfl | exact Or.inr rfl) (pe_op op_add (pe_fld (pv 0) rfl) (pv 1))) (pss_one (ps_ret (pe_make T.k_Note (ok_Note_init T) (hr.mono (by decide)) rfl T.g_Note T.b_Note_init .nil pass0 (pa_cons (pe_fld (pv 0) rfl) (pa_cons (pe_fld (pv 0) rfl) (pa_cons (pv 2) (pa_cons (pe_fld (pv 0) rfl) (pa_cons (pe_fld (pv 0) rfl) (pa_cons (pe_fld (pv 0) rfl) (pa_cons (pe_fld (pv 0) rfl) pa_nil))))))))))), ?_⟩
    refine ⟨_, rfl, a, _, dx, _, _, rfl, hm, T.cl_Note, T.a_Note_first, lk_Note_first .., _, rfl, _, _, rfl, rfl,
      _, rfl, a, _, dx, _, _, rfl, hm, T.cl_Note, T.a_Note_voice, lk_Note_voice .., _, rfl, a, _, dx, _, _, rfl, hm, T.cl_Note, T.a_Note_pitch, lk_Note_pitch .., _, rfl,
      _, rfl, a, _, dx, _, _, rfl, hm, T.cl_Note, T.a_Note_length, lk_Note_length .., _, rfl, a, _, dx, _, _, rfl, hm, T.cl_Note, T.a_Note_loudness, lk_Note_loudness ..,
      _, rfl, a, _, dx, _, _, rfl, hm, T.cl_Note, T.a_Note_part, lk_Note_part .., _, rfl, a, _, dx, _, _, rfl, hm, T.cl_Note, T.a_Note_tied, lk_Note_tied .., ?_⟩
    intro x dx' nx nd ne
    refine ⟨x, dx', _, _, _, _, _, _, _, rfl, upd_same, rfl, ?_⟩
    rw [upd_upd]
    exact k _ x (Same.made2 nx nd) nx ⟨dx', upd_same⟩
end
end XW
namespace XW
open PySem PySem.Spec PyProof.Rows L2
open Sw70 (Mark Swing Note Piece)
theorem iteNS2 {c A B : Prop} [Decidable c] (h1 : c → B) (h2 : ¬ c → A) : if (!decide c) = true then A else B := by
  by_cases h : c
  · rw [decide_eq_true h]
    exact iteF (h1 h)
  · rw [decide_eq_false h]
    exact iteT (h2 h)
/-! ### the score -/
section
variable {K : PySem.W.Frag} {mg : Str → Option Value}
structure ScoreIn (T : Txt K mg) (H : Hp) (p dx lm ls lp ln : Addr) (q : Piece) : Prop where
  obj : H p = some (.ins T.C_Score dx (fs_Score (.int q.quarter) (.ref lm) (.ref ls) (.ref lp) (.ref ln)))
  m : ∃ as, H lm = some (.lst (as.map V.ref)) ∧ Paired (MarkAt T H) as q.marks
  s : ∃ as, H ls = some (.lst (as.map V.ref)) ∧ Paired (SwingAt T H) as q.swings
  d : ∃ as, H lp = some (.lst (as.map V.ref)) ∧ Paired (PedalAt T H) as q.pedals
  n : ∃ as, H ln = some (.lst (as.map V.ref)) ∧ Paired (NoteAt T H) as q.notes
  d1 : lm ≠ ls
  d2 : lm ≠ lp
  d3 : lm ≠ ln
  d4 : ls ≠ lp
  d5 : ls ≠ ln
  d6 : lp ≠ ln
def ScoreAt (T : Txt K mg) (H : Hp) (p dx : Addr) (L : List Addr) (q : Piece) : Prop := ∃ lm ls lp ln, L = [lm, ls, lp, ln] ∧ ScoreIn T H p dx lm ls lp ln q
def Step (H H' : Hp) (p : Addr) (L L' : List Addr) : Prop := (∀ b o, H b = some o → b ≠ p → b ∉ L → H' b = some o) ∧ ∀ b ∈ L', b ∈ L ∨ H b = none
theorem ScoreIn.same {T : Txt K mg} {H H' : Hp} {p dx lm ls lp ln : Addr} {q : Piece} (S : ScoreIn T H p dx lm ls lp ln q) (e : Same H H') : ScoreIn T H' p dx lm ls lp ln q where
  obj := e _ _ S.obj
  m := let ⟨as, h1, h2⟩ := S.m; ⟨as, e _ _ h1, Paired.mapP h2 fun _ _ h => h.same e⟩
  s := let ⟨as, h1, h2⟩ := S.s; ⟨as, e _ _ h1, Paired.mapP h2 fun _ _ h => h.same e⟩
  d := let ⟨as, h1, h2⟩ := S.d; ⟨as, e _ _ h1, Paired.mapP h2 fun _ _ h => h.same e⟩
  n := let ⟨as, h1, h2⟩ := S.n; ⟨as, e _ _ h1, Paired.mapP h2 fun _ _ h => h.same e⟩
  d1 := S.d1
  d2 := S.d2
  d3 := S.d3
  d4 := S.d4
  d5 := S.d5
  d6 := S.d6
theorem ScoreAt.same {T : Txt K mg} {H H' : Hp} {p dx : Addr} {L : List Addr} {q : Piece} (S : ScoreAt T H p dx L q) (e : Same H H') : ScoreAt T H' p dx L q :=
  let ⟨lm, ls, lp, ln, h, S⟩ := S
  ⟨lm, ls, lp, ln, h, S.same e⟩
theorem Step.same {H H' : Hp} {p : Addr} {L : List Addr} (e : Same H H') : Step H H' p L L := ⟨fun b o h _ _ => e b o h, fun b h => .inl h⟩
/-- the instances but the score itself stay where a list, or the score, is written -/
def Keeps (H H' : Hp) : Prop := ∀ b C dx fs, H b = some (.ins C dx fs) → fs.lookup ("ticks" : Str) = none → H' b = some (.ins C dx fs)
theorem no_ticks_Mark (x0 x1 x2 : V) : (fs_Mark x0 x1 x2).lookup ("ticks" : Str) = none := by
  unfold fs_Mark
  rw [lk_tl (by decide +kernel), lk_tl (by decide +kernel), lk_tl (by decide +kernel)]
  rfl
theorem no_ticks_Swing (x0 x1 x2 x3 x4 : V) : (fs_Swing x0 x1 x2 x3 x4).lookup ("ticks" : Str) = none := by
  unfold fs_Swing
  rw [lk_tl (by decide +kernel), lk_tl (by decide +kernel), lk_tl (by decide +kernel), lk_tl (by decide +kernel), lk_tl (by decide +kernel)]
  rfl
theorem no_ticks_Pedal (x0 x1 : V) : (fs_Pedal x0 x1).lookup ("ticks" : Str) = none := by
  unfold fs_Pedal
  rw [lk_tl (by decide +kernel), lk_tl (by decide +kernel)]
  rfl
theorem no_ticks_Note (x0 x1 x2 x3 x4 x5 x6 : V) : (fs_Note x0 x1 x2 x3 x4 x5 x6).lookup ("ticks" : Str) = none := by
  unfold fs_Note
  rw [lk_tl (by decide +kernel), lk_tl (by decide +kernel), lk_tl (by decide +kernel), lk_tl (by decide +kernel), lk_tl (by decide +kernel), lk_tl (by decide +kernel), lk_tl (by decide +kernel)]
  rfl
theorem MarkAt.keeps {T : Txt K mg} {H H' : Hp} {a : Addr} {m : Mark} (h : MarkAt T H a m) (e : Keeps H H') : MarkAt T H' a m := let ⟨dx, h⟩ := h; ⟨dx, e _ _ _ _ h (no_ticks_Mark ..)⟩
theorem SwingAt.keeps {T : Txt K mg} {H H' : Hp} {a : Addr} {m : Swing} (h : SwingAt T H a m) (e : Keeps H H') : SwingAt T H' a m := let ⟨dx, h⟩ := h; ⟨dx, e _ _ _ _ h (no_ticks_Swing ..)⟩
theorem PedalAt.keeps {T : Txt K mg} {H H' : Hp} {a : Addr} {m : Nat × Nat} (h : PedalAt T H a m) (e : Keeps H H') : PedalAt T H' a m := let ⟨dx, h⟩ := h; ⟨dx, e _ _ _ _ h (no_ticks_Pedal ..)⟩
theorem NoteAt.keeps {T : Txt K mg} {H H' : Hp} {a : Addr} {m : Note} (h : NoteAt T H a m) (e : Keeps H H') : NoteAt T H' a m := let ⟨dx, h⟩ := h; ⟨dx, e _ _ _ _ h (no_ticks_Note ..)⟩
theorem Keeps.lst {H : Hp} {l : Addr} {xs ys : List V} (h : H l = some (.lst xs)) : Keeps H (upd H l (.lst ys)) := fun b C dx fs e _ => by
  rw [upd_ne (ne_of e h (by intro z; cases z))]
  exact e
theorem Keeps.score {H : Hp} {p C dx : Addr} {fs : List (Str × V)} {v : V} {o : HO} (h : H p = some (.ins C dx fs)) (hl : fs.lookup ("ticks" : Str) = some v) : Keeps H (upd H p o) := fun b C' dx' fs' e n => by
  rw [upd_ne]
  · exact e
  · rintro rfl
    rw [h] at e
    have e := Option.some.inj e
    injection e with e1 e2 e3
    rw [e3, n] at hl
    cases hl
theorem Keeps.of {H H' : Hp} (e : Same H H') : Keeps H H' := fun b _ _ _ h _ => e b _ h
theorem Keeps.trans {H H1 H2 : Hp} (a : Keeps H H1) (b : Keeps H1 H2) : Keeps H H2 := fun c C dx fs h n => b c C dx fs (a c C dx fs h n) n
end
section
variable {P : Program} {w : World} {K : PySem.W.Frag} {mg : Str → Option Value} {base : Heap}
def spClear (T : Txt K mg) : Sp := fun vs H Q _ => ∃ (p dx : Addr) (fs : List (Str × V)) (t : Nat), vs = [.ref p, .int t] ∧ H p = some (.ins T.C_Score dx fs) ∧ (fs = [] ∨ ∃ a b c d e, fs = fs_Score a b c d e) ∧
  ∀ (H' : Hp) (L' : List Addr), ScoreAt T H' p dx L' { Sw70.init with quarter := t } → (∀ b o, H b = some o → b ≠ p → H' b = some o) → (∀ b ∈ L', H b = none) → Q .non H'
theorem ok_Score_clear_to (T : Txt K mg) : FnOk P w K mg base CX0 3 T.A_Score_clear_to T.D_Score_clear_to ["self", "ticks"] (spClear T) := by
  refine T.f_Score_clear_to.ok sc_Score_clear_to (fun vs H Q E h => ?_) (fun cdv A outer s H vs Q E hr h => ?_)
  · obtain ⟨p, dx, fs, t, rfl, _⟩ := h
    rfl
  · obtain ⟨p, dx, fs, t, rfl, hp, hf, k⟩ := h
    have hlen : fs.length ≤ 5 := by
      rcases hf with rfl | ⟨a, b, c, d, e, rfl⟩
      · exact Nat.zero_le _
      · exact Nat.le_refl 5
    refine ⟨_, (pss_cons (ps_fld (pv 0) (pv 1) rfl) (pss_cons (ps_fld (pv 0) (pe_lst (pa_cons (pe_make T.k_Mark (ok_Mark_init T) (hr.mono (by decide)) rfl T.g_Mark T.b_Mark_init .nil pass0 (pa_cons pe_int (pa_cons (pgc rfl T.c_FIRST_LENGTH) (pa_cons pe_int pa_nil)))) pa_nil)) rfl) (pss_cons (ps_fld (pv 0) (pe_lst pa_nil) rfl) (pss_cons (ps_fld (pv 0) (pe_lst pa_nil) rfl) (pss_one (ps_fld (pv 0) (pe_lst pa_nil) rfl)))))), ?_⟩
    refine ⟨_, rfl, _, rfl, p, _, dx, _, rfl, hp, T.cl_Score, T.a_Score_ticks, Nat.lt_of_le_of_lt hlen (by decide), ?_⟩
    intro x dxm nx nd ne
    refine ⟨x, dxm, _, _, _, rfl, upd_same, rfl, ?_⟩
    rw [upd_upd]
    refine ⟨(by show 1 ≤ sizeLine; decide), fun l1 nl1 => ?_⟩
    have np1 := ne_of_none (upd_same (H := H) (a := p)) nd
    have np2 := ne_of_none (upd_same (H := H) (a := p)) nx
    have hp1 : upd (upd (upd H p (.ins T.C_Score dx (putF "ticks" (V.int t) fs))) dxm (.own x)) x (.ins T.C_Mark dxm (fs_Mark (V.int 0) (V.int 500000) (V.int 0))) p = some (.ins T.C_Score dx (putF "ticks" (V.int t) fs)) := by
      rw [upd_ne np2, upd_ne np1]
      exact upd_same
    have np3 := ne_of_none hp1 nl1
    refine ⟨_, rfl, p, _, dx, _, rfl, (by rw [upd_ne np3]; exact hp1), T.cl_Score, T.a_Score_marks, Nat.lt_of_le_of_lt (lp hlen) (by decide), ?_⟩
    refine ⟨Nat.zero_le _, fun l2 nl2 => ?_⟩
    have np4 := ne_of_none upd_same nl2
    refine ⟨_, rfl, p, _, dx, _, rfl, (by rw [upd_ne np4]; exact upd_same), T.cl_Score, T.a_Score_swings, Nat.lt_of_le_of_lt (lp (lp hlen)) (by decide), ?_⟩
    refine ⟨Nat.zero_le _, fun l3 nl3 => ?_⟩
    have np5 := ne_of_none upd_same nl3
    refine ⟨_, rfl, p, _, dx, _, rfl, (by rw [upd_ne np5]; exact upd_same), T.cl_Score, T.a_Score_pedals, Nat.lt_of_le_of_lt (lp (lp (lp hlen))) (by decide), ?_⟩
    refine ⟨Nat.zero_le _, fun l4 nl4 => ?_⟩
    have np6 := ne_of_none upd_same nl4
    refine ⟨_, rfl, p, _, dx, _, rfl, (by rw [upd_ne np6]; exact upd_same), T.cl_Score, T.a_Score_notes, Nat.lt_of_le_of_lt (lp (lp (lp (lp hlen)))) (by decide), ?_⟩
    -- which addresses differ
    rw [upd_ne (Ne.symm np6)] at nl4
    have a34 : l3 ≠ l4 := by
      rintro rfl
      rw [upd_same] at nl4
      cases nl4
    rw [upd_ne (Ne.symm a34), upd_ne (Ne.symm np6)] at nl4
    rw [upd_ne (Ne.symm np5)] at nl3
    have a24 : l2 ≠ l4 := by
      rintro rfl
      rw [upd_same] at nl4
      cases nl4
    have a23 : l2 ≠ l3 := by
      rintro rfl
      rw [upd_same] at nl3
      cases nl3
    rw [upd_ne (Ne.symm a24), upd_ne (Ne.symm np6)] at nl4
    rw [upd_ne (Ne.symm a23), upd_ne (Ne.symm np5)] at nl3
    rw [upd_ne (Ne.symm np4)] at nl2
    have a14 : l1 ≠ l4 := by
      rintro rfl
      rw [upd_same] at nl4
      cases nl4
    have a13 : l1 ≠ l3 := by
      rintro rfl
      rw [upd_same] at nl3
      cases nl3
    have a12 : l1 ≠ l2 := by
      rintro rfl
      rw [upd_same] at nl2
      cases nl2
    rw [upd_ne (Ne.symm a14)] at nl4
    rw [upd_ne (Ne.symm a13)] at nl3
    rw [upd_ne (Ne.symm a12)] at nl2
    have x1 : x ≠ l1 := by
      rintro rfl
      rw [upd_same] at nl1
      cases nl1
    have x2 : x ≠ l2 := by
      rintro rfl
      rw [upd_same] at nl2
      cases nl2
    have x3 : x ≠ l3 := by
      rintro rfl
      rw [upd_same] at nl3
      cases nl3
    have x4 : x ≠ l4 := by
      rintro rfl
      rw [upd_same] at nl4
      cases nl4
    have below : ∀ {l : Addr}, p ≠ l → upd (upd (upd H p (.ins T.C_Score dx (putF "ticks" (V.int t) fs))) dxm (.own x)) x (.ins T.C_Mark dxm (fs_Mark (V.int 0) (V.int 500000) (V.int 0))) l = none → H l = none := fun {l} hl h => by
      by_cases e1 : l = x
      · subst e1
        rw [upd_same] at h
        cases h
      · rw [upd_ne e1] at h
        by_cases e2 : l = dxm
        · subst e2
          rw [upd_same] at h
          cases h
        · rw [upd_ne e2, upd_ne (Ne.symm hl)] at h
          exact h
    have nx0 : H x = none := by
      rw [upd_ne (Ne.symm np2)] at nx
      exact nx
    have nd0 : H dxm = none := by
      rw [upd_ne (Ne.symm np1)] at nd
      exact nd
    have f1 := below np3 nl1
    have f2 := below np4 nl2
    have f3 := below np5 nl3
    have f4 := below np6 nl4
    refine k _ [l1, l2, l3, l4] ⟨l1, l2, l3, l4, rfl, ?_⟩ (fun b o e hb => ?_) (fun b hb => ?_)
    · refine ⟨?_, ⟨[x], ?_, .cons ⟨dxm, ?_⟩ .nil⟩, ⟨[], ?_, .nil⟩, ⟨[], ?_, .nil⟩, ⟨[], ?_, .nil⟩, a12, a13, a14, a23, a24, a34⟩
      · rw [upd_same]
        refine congrArg (fun z => some (HO.ins T.C_Score dx z)) ?_
        rcases hf with rfl | ⟨a, b, c, d, e, rfl⟩
        · exact mk_Score ..
        · rw [pt_Score_ticks, pt_Score_marks, pt_Score_swings, pt_Score_pedals, pt_Score_notes]
      · rw [upd_ne (Ne.symm np3), upd_ne a14, upd_ne (Ne.symm np3), upd_ne a13, upd_ne (Ne.symm np3), upd_ne a12, upd_ne (Ne.symm np3)]
        exact upd_same
      · rw [upd_ne (Ne.symm np2), upd_ne x4, upd_ne (Ne.symm np2), upd_ne x3, upd_ne (Ne.symm np2), upd_ne x2, upd_ne (Ne.symm np2), upd_ne x1]
        exact upd_same
      · rw [upd_ne (Ne.symm np4), upd_ne a24, upd_ne (Ne.symm np4), upd_ne a23, upd_ne (Ne.symm np4)]
        exact upd_same
      · rw [upd_ne (Ne.symm np5), upd_ne a34, upd_ne (Ne.symm np5)]
        exact upd_same
      · rw [upd_ne (Ne.symm np6)]
        exact upd_same
    · rw [upd_ne hb, upd_ne (ne_of_none e f4), upd_ne hb, upd_ne (ne_of_none e f3), upd_ne hb, upd_ne (ne_of_none e f2), upd_ne hb, upd_ne (ne_of_none e f1), upd_ne (ne_of_none e nx0), upd_ne (ne_of_none e nd0), upd_ne hb]
      exact e
    · simp only [List.mem_cons, List.not_mem_nil, or_false] at hb
      rcases hb with rfl | rfl | rfl | rfl
      · exact f1
      · exact f2
      · exact f3
      · exact f4
def spScoreI (T : Txt K mg) : Sp := fun vs H Q _ => ∃ (p dx : Addr), vs = [.ref p] ∧ H p = some (.ins T.C_Score dx []) ∧
  ∀ (H' : Hp) (L' : List Addr), ScoreAt T H' p dx L' Sw70.init → (∀ b o, H b = some o → b ≠ p → H' b = some o) → (∀ b ∈ L', H b = none) → Q .non H'
theorem ok_Score_init (T : Txt K mg) : FnOk P w K mg base CX0 4 T.A_Score_init T.D_Score_init ["self"] (spScoreI T) := by
  refine T.f_Score_init.ok sc_Score_init (fun vs H Q E h => ?_) (fun cdv A outer s H vs Q E hr h => ?_)
  · obtain ⟨p, dx, rfl, _⟩ := h
    rfl
  · obtain ⟨p, dx, rfl, hp, k⟩ := h
    refine ⟨_, (pss_one (ps_expr (pe_meth (pv 0) T.cl_Score T.m_Score_clear_to (ok_Score_clear_to T) (hr.mono (by decide)) T.b_Score_clear_to .nil pass0 (pa_cons (pgc rfl T.c_FIRST_TICKS) pa_nil)))), ?_⟩
    refine ⟨_, rfl, p, dx, _, rfl, hp, rfl, p, dx, [], 480, rfl, hp, .inl rfl, fun H' L' a b c => ?_⟩
    exact k H' L' a b c
def spBegin (T : Txt K mg) : Sp := fun vs H Q _ => ∃ (p dx : Addr) (L : List Addr) (q : Piece) (t : Nat), vs = [.ref p, .int t] ∧ ScoreAt T H p dx L q ∧ ((t < 1 ∨ 960 < t) → Q (.int (-1)) H) ∧
  (¬ (t < 1 ∨ 960 < t) → ∀ (H' : Hp) (L' : List Addr), ScoreAt T H' p dx L' { Sw70.init with quarter := t } → Step H H' p L L' → Q (.int 0) H')
theorem ok_Score_begin (T : Txt K mg) : FnOk P w K mg base CX0 4 T.A_Score_begin T.D_Score_begin ["self", "ticks"] (spBegin T) := by
  refine T.f_Score_begin.ok sc_Score_begin (fun vs H Q E h => ?_) (fun cdv A outer s H vs Q E hr h => ?_)
  · obtain ⟨p, dx, L, q, t, rfl, _⟩ := h
    rfl
  · obtain ⟨p, dx, L, q, t, rfl, ⟨lm, ls, lp, ln, rfl, S⟩, k1, k2⟩ := h
    refine ⟨_, (pss_cons (ps_if (pt_not (pt_chain op_le op_le pe_int (pv 1) (pgc rfl T.c_GREATEST_QUARTER))) (pss_one (ps_ret (pgc rfl T.c_NOT_AS_TOLD))) pss_nil) (pss_cons (ps_expr (pe_meth (pv 0) T.cl_Score T.m_Score_clear_to (ok_Score_clear_to T) (hr.mono (by decide)) T.b_Score_clear_to .nil pass0 (pa_cons (pv 1) pa_nil))) (pss_one (ps_ret pe_int)))), ?_⟩
    refine ⟨_, rfl, _, _, rfl, rfl, _, rfl, iteD (fun h1 => ⟨_, _, rfl, rfl, _, rfl, iteNS2 (fun h2 => ?_) (fun h2 => ?_)⟩) (fun h1 => ⟨_, rfl, iteT (k1 (by omega))⟩)⟩
    · refine ⟨_, rfl, p, dx, _, rfl, S.obj, no_Score_clear_to .., _, rfl, p, dx, _, t, rfl, S.obj, .inr ⟨_, _, _, _, _, rfl⟩, fun H' L' a b c => ?_⟩
      exact k2 (by omega) H' L' a ⟨fun b' o e hb _ => b b' o e hb, fun b' hb => .inr (c b' hb)⟩
    · exact k1 (by omega)
end
end XW
namespace XW
open PySem PySem.Spec PyProof.Rows L2
open Sw70 (Mark Swing Note Piece)
/-! ### lists of instances -/
def unref : V → Addr
  | .ref a => a
  | _ => 0
theorem perm_refs {ys : List V} {as : List Addr} (h : ys.Perm (as.map V.ref)) : ∃ bs : List Addr, ys = bs.map V.ref ∧ bs.Perm as := by
  refine ⟨ys.map unref, ?_, ?_⟩
  · rw [List.map_map]
    have : ∀ y ∈ ys, (V.ref ∘ unref) y = y := fun y hy => by
      obtain ⟨a, _, rfl⟩ := List.mem_map.mp (h.mem_iff.mp hy)
      rfl
    exact (List.map_congr_left this).symm ▸ (List.map_id' ys).symm
  · have := h.map unref
    rw [List.map_map] at this
    have e : as.map (unref ∘ V.ref) = as := List.map_id' as
    rw [e] at this
    exact this
theorem Paired.append' {α β : Type} {R : α → β → Prop} : ∀ {l : List α} {m : List β} {l' : List α} {m' : List β}, Paired R l m → Paired R l' m' → Paired R (l ++ l') (m ++ m')
  | _, _, _, _, .nil, h => h
  | _, _, _, _, .cons r t, h => .cons r (Paired.append' t h)
theorem Paired.perm {α β : Type} {R : α → β → Prop} {as bs : List α} (h : bs.Perm as) : ∀ {ms : List β}, Paired R as ms → ∃ ns, Paired R bs ns ∧ ns.Perm ms := by
  induction h with
  | nil => intro ms p; exact ⟨ms, p, List.Perm.refl _⟩
  | cons x _ ih =>
    intro ms p
    cases p with
    | cons r t =>
      obtain ⟨ns, h1, h2⟩ := ih t
      exact ⟨_ :: ns, .cons r h1, h2.cons _⟩
  | swap x y l =>
    intro ms p
    cases p with
    | cons r t =>
      cases t with
      | cons r2 t2 => exact ⟨_ :: _ :: _, .cons r2 (.cons r t2), List.Perm.swap ..⟩
  | trans _ _ ih1 ih2 =>
    intro ms p
    obtain ⟨ns, h1, h2⟩ := ih2 p
    obtain ⟨ks, h3, h4⟩ := ih1 h1
    exact ⟨ks, h3, h4.trans h2⟩
theorem paired_back {α β : Type} {R : α → β → Prop} : ∀ {l : List α} {m : List β}, Paired R l m → ∀ {i : Nat} {b : β}, m[i]? = some b → ∃ a, l[i]? = some a ∧ R a b
  | _, _, .nil, i, b, h => by simp at h
  | _, _, .cons r _, 0, b, h => by
    have e := Option.some.inj h
    subst e
    exact ⟨_, rfl, r⟩
  | _, _, .cons _ t, i + 1, b, h => paired_back t (i := i) h
theorem paired_mem {α β : Type} {R : α → β → Prop} {l : List α} {m : List β} (h : Paired R l m) {a : α} (ha : a ∈ l) : ∃ b ∈ m, R a b := by
  obtain ⟨i, hi⟩ := List.getElem?_of_mem ha
  obtain ⟨b, hb, r⟩ := paired_get h hi
  exact ⟨b, List.mem_of_getElem? hb, r⟩
theorem take_snoc {α : Type} {l : List α} {i : Nat} {x : α} (h : l[i]? = some x) : l.take (i + 1) = l.take i ++ [x] := by
  rw [List.take_add_one, h]
  rfl
/-- a number that stands in an instance's field -/
def numAt (H : Hp) (f : Str) (v : V) : Int := match v with
  | .ref a => match H a with
    | some (.ins _ _ fs) => match fs.lookup f with
      | some (.int n) => n
      | _ => 0
    | _ => 0
  | _ => 0
theorem numAt_of {H : Hp} {f : Str} {a C dx : Addr} {fs : List (Str × V)} {n : Int} (h : H a = some (.ins C dx fs)) (l : fs.lookup f = some (.int n)) : numAt H f (.ref a) = n := by
  unfold numAt
  simp only [h, l]
section
variable {P : Program} {w : World} {K : PySem.W.Frag} {mg : Str → Option Value} {base : Heap}
/-! ### mark -/
theorem sorted_marks {T : Txt K mg} {H : Hp} {as bs : List Addr} {m : Mark} {l : List Mark} (hi : XM.Inc l) (hp : Paired (MarkAt T H) as (XM.others m l ++ [m])) (hb : bs.Perm as)
    (hs : (bs.map V.ref).Pairwise fun y z => Sw70.less [numAt H "tick" z] [numAt H "tick" y] = false) : Paired (MarkAt T H) bs (Sw70.putMark m l) := by
  obtain ⟨ns, h1, h2⟩ := Paired.perm hb hp
  have e : ns = Sw70.putMark m l := by
    refine XM.putMark_uniq hi h2 ?_
    rw [List.pairwise_iff_getElem] at hs ⊢
    intro i j hi' hj' hij
    obtain ⟨a, ha, ⟨d1, r1⟩⟩ := paired_back h1 (List.getElem?_eq_getElem hi')
    obtain ⟨b, hb', ⟨d2, r2⟩⟩ := paired_back h1 (List.getElem?_eq_getElem hj')
    have la := List.getElem?_eq_some_iff.mp ha
    have lb := List.getElem?_eq_some_iff.mp hb'
    have := hs i j (by rw [List.length_map]; exact la.1) (by rw [List.length_map]; exact lb.1) hij
    rw [List.getElem_map, List.getElem_map, la.2, lb.2, numAt_of r1 (lk_Mark_tick ..), numAt_of r2 (lk_Mark_tick ..)] at this
    simp only [Sw70.less, Bool.and_false, Bool.or_false, decide_eq_false_iff_not] at this
    omega
  rw [← e]
  exact h1
def spPutMark (T : Txt K mg) : Sp := fun vs H Q _ => ∃ (p dx : Addr) (L : List Addr) (q : Piece) (a : Addr) (m : Mark), vs = [.ref p, .ref a] ∧ ScoreAt T H p dx L q ∧ MarkAt T H a m ∧ XM.Inc q.marks ∧ q.marks.length ≤ 50 ∧
  (Sw70.markOk m = false → Q (.int (-1)) H) ∧ (Sw70.markOk m = true → 50 < (Sw70.putMark m q.marks).length → ∀ H', Same H H' → Q (.int (-5)) H') ∧
  (Sw70.markOk m = true → ¬ 50 < (Sw70.putMark m q.marks).length → ∀ (H' : Hp) (L' : List Addr), ScoreAt T H' p dx L' { q with marks := Sw70.putMark m q.marks } → Step H H' p L L' → Q (.int (Sw70.putMark m q.marks).length) H')
theorem ok_Score_put_mark (T : Txt K mg) : FnOk P w K mg base CX0 4 T.A_Score_put_mark T.D_Score_put_mark ["self", "mark"] (spPutMark T) := by
  refine T.f_Score_put_mark.ok sc_Score_put_mark (fun vs H Q E h => ?_) (fun cdv A outer s H vs Q E hr h => ?_)
  · obtain ⟨p, dx, L, q, a, m, rfl, _⟩ := h
    rfl
  · obtain ⟨p, dx, L, q, a, m, rfl, ⟨lm, ls, lp, ln, rfl, S⟩, hA, hi, h50, k1, k2, k3⟩ := h
    obtain ⟨am, hlm, pm⟩ := S.m
    obtain ⟨da, hA'⟩ := id hA
    have hlen := XM.putMark_len (m := m) hi
    have ham := Paired.length pm
    refine ⟨_, (pss_cons (ps_if (pt_not (pt_val (pe_call (ok_mark_is_as_told T) (hr.mono (by decide)) rfl T.g_mark_is_as_told T.f_mark_is_as_told.kp T.b_mark_is_as_told .nil pass0 (pa_cons (pv 1) pa_nil)))) (pss_one (ps_ret (pgc rfl T.c_NOT_AS_TOLD))) pss_nil) (pss_cons (ps_setLc (i := 2) rfl sc_Score_put_mark.nd rfl rfl (sw_true rfl rfl rfl rfl) (own := [("other", 3)]) (pi_list (pe_fld (pv 0) rfl)) (blkOk_by (by show blkC ["self", "mark", "marks", "other"] (defScope (inClass (top 39) 3)) _ [("other", 3)] = true; decide +kernel)) (by intro _ _ _ _ _; exact pg_name (i := 3) sc_Score_put_mark.nd rfl (Or.inl rfl)) (by intro _ _ _ _ _; exact (pts_one (pt_cmpR op_ne (pe_fldB (K := K) rfl (pv 3) rfl) (pe_fldB (K := K) rfl (pv 1) rfl) (nomark _)))) (by intro _ _ _ _ _; exact (pv 3))) (pss_cons (ps_if (pt_cmpR op_ge (pe_callB call_len_seq (by rfl) T.n_len PySem.boot_len (pa_cons (pv 2) pa_nil)) (pgc rfl T.c_MOST_MARKS) (nomark _)) (pss_one (ps_ret (pgc rfl T.c_TOO_MANY))) pss_nil) (pss_cons (ps_expr (pe_bm PySem.F.plainAttrs_list PySem.F.slot_list_append PySem.F.type_list_append mt_append (pv 2) (pa_cons (pv 1) pa_nil))) (pss_cons (ps_fld (pv 0) (pe_sortK false (ok_mark_tick T) (hr.mono (by decide)) rfl T.n_sorted rfl T.g_mark_tick T.b_mark_tick (pa_cons (pv 2) pa_nil)) rfl) (pss_one (ps_ret (pe_callB call_len_seq (by rfl) T.n_len PySem.boot_len (pa_cons (pv 2) pa_nil))))))))), ?_⟩
    refine ⟨_, rfl, a, m, rfl, hA, _, rfl, iteNB (fun h1 => k1 h1) (fun h1 => ?_)⟩
    refine ⟨_, rfl, p, _, dx, _, _, rfl, S.obj, T.cl_Score, T.a_Score_marks, lk_Score_marks .., lm, rfl, ⟨_, SqL.of hlm⟩, fun D nD => ?_⟩
    have nlD := ne_of_none hlm nD
    refine lc_list (K := K) (a := lm) (xs := am.map V.ref) (fun i H' => ∃ ks : List Addr, H' = upd H D (.lst (ks.map V.ref)) ∧ Paired (MarkAt T H) ks (XM.others m (q.marks.take i))) ⟨[], rfl, .nil⟩
      (fun i H' _ ⟨ks, e, _⟩ => by rw [e]; exact SqL.of (by rw [upd_ne nlD]; exact hlm)) ?_ ?_
    · rintro i x H' hx ⟨ks, rfl, hks⟩
      obtain ⟨b, hb, rfl⟩ := refs_at hx
      obtain ⟨mb, hmb, db, hdb⟩ := paired_get pm hb
      have sD : Same H (upd H D (.lst (ks.map V.ref))) := Same.new nD
      have e1 : XM.others m (q.marks.take (i + 1)) = XM.others m (q.marks.take i) ++ (if mb.tick = m.tick then [] else [mb]) := by
        rw [take_snoc hmb]
        unfold XM.others
        rw [List.filter_append, List.filter_cons]
        by_cases c : mb.tick = m.tick
        · rw [if_pos c, if_neg (by simp [c])]
          rfl
        · rw [if_neg c, if_pos (by simp [c])]
          rfl
      have hkl : ks.length < 1000 := by
        have h1 := Paired.length hks
        have h2 : (XM.others m (q.marks.take i)).length ≤ (q.marks.take i).length := List.length_filter_le _ _
        rw [List.length_take] at h2
        omega
      refine ⟨rfl, _, rfl, b, _, db, _, _, rfl, sD _ _ hdb, T.cl_Mark, T.a_Mark_tick, lk_Mark_tick .., _, rfl, a, _, da, _, _, rfl, sD _ _ hA', T.cl_Mark, T.a_Mark_tick, lk_Mark_tick .., rfl, _, rfl, iteN (fun c => ?_) (fun c => ?_)⟩
      · refine ⟨_, rfl, _, upd_same, (by rw [List.length_map]; exact small1000 (by omega)), ks ++ [b], ?_, ?_⟩
        · rw [upd_upd, List.map_append]
          rfl
        · rw [e1, if_neg (by omega)]
          exact Paired.append' hks (.cons ⟨db, hdb⟩ .nil)
      · refine ⟨ks, rfl, ?_⟩
        rw [e1, if_pos (by omega), List.append_nil]
        exact hks
    · rintro H' ⟨ks, rfl, hks⟩
      rw [List.length_map, ham, List.take_length] at hks
      have hkl := Paired.length hks
      have sD : Same H (upd H D (.lst (ks.map V.ref))) := Same.new nD
      refine ⟨_, rfl, D, _, rfl, .inl (SqL.of upd_same), _, _, rfl, rfl, _, rfl, iteD (fun h2 => ?_) (fun h2 => ?_)⟩
      · exact k2 h1 (by rw [List.length_map] at h2; omega) _ sD
      · rw [List.length_map] at h2
        refine ⟨_, rfl, .inl ⟨rfl, _, SqL.of upd_same⟩, _, rfl, D, _, _, rfl, rfl, upd_same, (by rw [List.length_map]; exact small1000 (by omega)), ?_⟩
        rw [upd_upd]
        have eD : (ks.map V.ref ++ [V.ref a]) = (ks ++ [a]).map V.ref := by rw [List.map_append]; rfl
        rw [eD]
        have s2 : Same H (upd H D (.lst ((ks ++ [a]).map V.ref))) := Same.new nD
        have p2 : Paired (MarkAt T (upd H D (.lst ((ks ++ [a]).map V.ref)))) (ks ++ [a]) (XM.others m q.marks ++ [m]) := Paired.append' (Paired.mapP hks fun _ _ h => h.same s2) (.cons (hA.same s2) .nil)
        refine ⟨_, rfl, D, _, (fun v => [numAt (upd H D (.lst ((ks ++ [a]).map V.ref))) "tick" v]), 1, rfl, SqL.of upd_same, ?_, (fun _ _ => rfl), ?_⟩
        · intro H' x hx hsm R hR
          obtain ⟨b, hb, rfl⟩ := List.mem_map.mp hx
          obtain ⟨mb, _, hmb⟩ := paired_mem p2 hb
          obtain ⟨db, hdb⟩ := id hmb
          exact ⟨b, mb, rfl, hmb.same hsm, hR _ H' (Same.refl _) ⟨_, rfl, congrArg (fun z => [z]) (numAt_of hdb (lk_Mark_tick ..))⟩⟩
        · intro ys l' H' hperm hpw hsm hn hl'
          obtain ⟨bs, rfl, hbs⟩ := perm_refs hperm
          have p3 : Paired (MarkAt T H') bs (Sw70.putMark m q.marks) := Paired.mapP (sorted_marks hi p2 hbs hpw) fun _ _ h => h.same hsm
          have s3 : Same H H' := s2.trans hsm
          have hpH : H' p = _ := s3 _ _ S.obj
          refine ⟨_, rfl, p, _, dx, _, rfl, hpH, T.cl_Score, T.a_Score_marks, (by show 5 < 1000; decide), ?_⟩
          have npD : D ≠ p := (ne_of_none S.obj nD).symm
          refine ⟨_, rfl, D, _, rfl, .inl (SqL.of (by rw [upd_ne npD]; exact hsm _ _ upd_same)), ?_⟩
          have kk := k3 h1 (by omega)
          have nl' : H l' = none := s2.free hn
          have ne : l' ≠ p := (ne_of_none (s2 _ _ S.obj) hn).symm
          have e0 : ((((ks ++ [a]).map V.ref).length : Nat) : Int) = ((Sw70.putMark m q.marks).length : Int) := by
            rw [List.length_map, List.length_append]
            show ((ks.length + 1 : Nat) : Int) = _
            omega
          rw [e0]
          rw [pt_Score_marks]
          have kp : Keeps H' (upd H' p (.ins T.C_Score dx (fs_Score (.int q.quarter) (.ref l') (.ref ls) (.ref lp) (.ref ln)))) := Keeps.score hpH (lk_Score_ticks ..)
          obtain ⟨as2, hls, ps⟩ := S.s
          obtain ⟨as3, hlp, pd⟩ := S.d
          obtain ⟨as4, hln, pn⟩ := S.n
          refine kk _ [l', ls, lp, ln] ⟨l', ls, lp, ln, rfl, upd_same, ⟨bs, by rw [upd_ne ne]; exact hl', Paired.mapP p3 fun _ _ h => h.keeps kp⟩,
            ⟨as2, by rw [upd_ne (ne_of hls S.obj (by intro z; cases z))]; exact s3 _ _ hls, Paired.mapP ps fun _ _ h => (h.same s3).keeps kp⟩,
            ⟨as3, by rw [upd_ne (ne_of hlp S.obj (by intro z; cases z))]; exact s3 _ _ hlp, Paired.mapP pd fun _ _ h => (h.same s3).keeps kp⟩,
            ⟨as4, by rw [upd_ne (ne_of hln S.obj (by intro z; cases z))]; exact s3 _ _ hln, Paired.mapP pn fun _ _ h => (h.same s3).keeps kp⟩,
            (ne_of_none hls nl').symm, (ne_of_none hlp nl').symm, (ne_of_none hln nl').symm, S.d4, S.d5, S.d6⟩ ⟨fun b o e hb _ => by rw [upd_ne hb]; exact s3 _ _ e, fun b hb => ?_⟩
          simp only [List.mem_cons, List.not_mem_nil, or_false] at hb ⊢
          rcases hb with rfl | rfl | rfl | rfl
          · exact .inr nl'
          · exact .inl (.inr (.inl rfl))
          · exact .inl (.inr (.inr (.inl rfl)))
          · exact .inl (.inr (.inr (.inr rfl)))
/-! ### swing, pedal, note: a list of the score's own grows -/
theorem ScoreIn.swing {T : Txt K mg} {H : Hp} {p dx lm ls lp ln : Addr} {q : Piece} (S : ScoreIn T H p dx lm ls lp ln q) {as : List Addr} (h1 : H ls = some (.lst (as.map V.ref))) (h2 : Paired (SwingAt T H) as q.swings) {a : Addr} {s : Swing} (ha : SwingAt T H a s) :
    ScoreIn T (upd H ls (.lst ((as ++ [a]).map V.ref))) p dx lm ls lp ln { q with swings := q.swings ++ [s] } := by
  have kp := Keeps.lst (ys := (as ++ [a]).map V.ref) h1
  obtain ⟨a1, m1, m2⟩ := S.m
  obtain ⟨a3, d1, d2⟩ := S.d
  obtain ⟨a4, n1, n2⟩ := S.n
  exact ⟨by rw [upd_ne (ne_of S.obj h1 (by intro z; cases z))]; exact S.obj, ⟨a1, by rw [upd_ne S.d1]; exact m1, Paired.mapP m2 fun _ _ h => h.keeps kp⟩, ⟨as ++ [a], upd_same, Paired.append' (Paired.mapP h2 fun _ _ h => h.keeps kp) (.cons (ha.keeps kp) .nil)⟩,
    ⟨a3, by rw [upd_ne (Ne.symm S.d4)]; exact d1, Paired.mapP d2 fun _ _ h => h.keeps kp⟩, ⟨a4, by rw [upd_ne (Ne.symm S.d5)]; exact n1, Paired.mapP n2 fun _ _ h => h.keeps kp⟩, S.d1, S.d2, S.d3, S.d4, S.d5, S.d6⟩
theorem ScoreIn.pedal {T : Txt K mg} {H : Hp} {p dx lm ls lp ln : Addr} {q : Piece} (S : ScoreIn T H p dx lm ls lp ln q) {as : List Addr} (h1 : H lp = some (.lst (as.map V.ref))) (h2 : Paired (PedalAt T H) as q.pedals) {a : Addr} {s : Nat × Nat} (ha : PedalAt T H a s) :
    ScoreIn T (upd H lp (.lst ((as ++ [a]).map V.ref))) p dx lm ls lp ln { q with pedals := q.pedals ++ [s] } := by
  have kp := Keeps.lst (ys := (as ++ [a]).map V.ref) h1
  obtain ⟨a1, m1, m2⟩ := S.m
  obtain ⟨a3, d1, d2⟩ := S.s
  obtain ⟨a4, n1, n2⟩ := S.n
  exact ⟨by rw [upd_ne (ne_of S.obj h1 (by intro z; cases z))]; exact S.obj, ⟨a1, by rw [upd_ne S.d2]; exact m1, Paired.mapP m2 fun _ _ h => h.keeps kp⟩, ⟨a3, by rw [upd_ne S.d4]; exact d1, Paired.mapP d2 fun _ _ h => h.keeps kp⟩,
    ⟨as ++ [a], upd_same, Paired.append' (Paired.mapP h2 fun _ _ h => h.keeps kp) (.cons (ha.keeps kp) .nil)⟩, ⟨a4, by rw [upd_ne (Ne.symm S.d6)]; exact n1, Paired.mapP n2 fun _ _ h => h.keeps kp⟩, S.d1, S.d2, S.d3, S.d4, S.d5, S.d6⟩
theorem ScoreIn.note {T : Txt K mg} {H : Hp} {p dx lm ls lp ln : Addr} {q : Piece} (S : ScoreIn T H p dx lm ls lp ln q) {as : List Addr} (h1 : H ln = some (.lst (as.map V.ref))) (h2 : Paired (NoteAt T H) as q.notes) {a : Addr} {s : Note} (ha : NoteAt T H a s) :
    ScoreIn T (upd H ln (.lst ((as ++ [a]).map V.ref))) p dx lm ls lp ln { q with notes := q.notes ++ [s] } := by
  have kp := Keeps.lst (ys := (as ++ [a]).map V.ref) h1
  obtain ⟨a1, m1, m2⟩ := S.m
  obtain ⟨a3, d1, d2⟩ := S.s
  obtain ⟨a4, n1, n2⟩ := S.d
  exact ⟨by rw [upd_ne (ne_of S.obj h1 (by intro z; cases z))]; exact S.obj, ⟨a1, by rw [upd_ne S.d3]; exact m1, Paired.mapP m2 fun _ _ h => h.keeps kp⟩, ⟨a3, by rw [upd_ne S.d5]; exact d1, Paired.mapP d2 fun _ _ h => h.keeps kp⟩,
    ⟨a4, by rw [upd_ne S.d6]; exact n1, Paired.mapP n2 fun _ _ h => h.keeps kp⟩, ⟨as ++ [a], upd_same, Paired.append' (Paired.mapP h2 fun _ _ h => h.keeps kp) (.cons (ha.keeps kp) .nil)⟩, S.d1, S.d2, S.d3, S.d4, S.d5, S.d6⟩
theorem Step.lst {H : Hp} {p l : Addr} {L : List Addr} {o : HO} (h : l ∈ L) : Step H (upd H l o) p L L := ⟨fun b u e _ hb => by
  rw [upd_ne (fun z => hb (by rw [z]; exact h))]
  exact e, fun b hb => .inl hb⟩
def spPutSwing (T : Txt K mg) : Sp := fun vs H Q _ => ∃ (p dx : Addr) (L : List Addr) (q : Piece) (a : Addr) (s : Swing), vs = [.ref p, .ref a] ∧ ScoreAt T H p dx L q ∧ SwingAt T H a s ∧ q.swings.length ≤ 30 ∧
  ∀ (r : Int) (H' : Hp) (q' : Piece), (q', Sw70.ok r) = Sw70.step q (.swing s) → ScoreAt T H' p dx L q' → Step H H' p L L → Q (.int r) H'
theorem ok_Score_put_swing (T : Txt K mg) : FnOk P w K mg base CX0 3 T.A_Score_put_swing T.D_Score_put_swing ["self", "swing"] (spPutSwing T) := by
  refine T.f_Score_put_swing.ok sc_Score_put_swing (fun vs H Q E h => ?_) (fun cdv A outer s H vs Q E hr h => ?_)
  · obtain ⟨p, dx, L, q, a, s', rfl, _⟩ := h
    rfl
  · obtain ⟨p, dx, L, q, a, s', rfl, ⟨lm, ls, lp, ln, rfl, S⟩, hA, h30, k⟩ := h
    obtain ⟨as, hls, ps⟩ := S.s
    refine ⟨_, (pss_cons (ps_if (pt_not (pt_val (pe_call (ok_swing_is_as_told T) (hr.mono (by decide)) rfl T.g_swing_is_as_told T.f_swing_is_as_told.kp T.b_swing_is_as_told .nil pass0 (pa_cons (pv 1) pa_nil)))) (pss_one (ps_ret (pgc rfl T.c_NOT_AS_TOLD))) pss_nil) (pss_one (ps_ret (pe_call (ok_put_span T) (hr.mono (by decide)) rfl T.g_put_span T.f_put_span.kp T.b_put_span .nil pass0 (pa_cons (pe_fld (pv 0) rfl) (pa_cons (pv 1) pa_nil)))))), ?_⟩
    refine ⟨_, rfl, a, s', rfl, hA, _, rfl, iteNB (fun h1 => ?_) (fun h1 => ?_)⟩
    · exact k (-1) H q (by unfold Sw70.step; dsimp only; rw [if_pos h1]) ⟨lm, ls, lp, ln, rfl, S⟩ (Step.same (Same.refl _))
    · refine ⟨_, rfl, p, _, dx, _, _, rfl, S.obj, T.cl_Score, T.a_Score_swings, lk_Score_swings .., _, rfl, ?_⟩
      have hsp : Paired (fun r (d : Nat × Nat) => SpanAt K H r d.1 d.2) as (q.swings.map fun x => (x.low, x.high)) := by
        clear k h30 hls
        generalize q.swings = sw at ps
        induction ps with
        | nil => exact .nil
        | cons r t ih => exact .cons r.span ih
      have hl := Paired.length ps
      refine ⟨a, ls, s'.low, s'.high, as, _, rfl, hA.span, hls, hsp, (by omega), fun h2 => ?_, fun h2 h3 => ?_, fun h2 h3 => ?_⟩
      · exact k (-3) H q (by unfold Sw70.step; dsimp only; rw [if_neg (by rw [h1]; decide), if_pos h2]) ⟨lm, ls, lp, ln, rfl, S⟩ (Step.same (Same.refl _))
      · rw [List.length_map] at h3
        exact k (-5) H q (by unfold Sw70.step; dsimp only; rw [if_neg (by rw [h1]; decide), if_neg (by rw [h2]; decide), if_pos (by unfold Sw70.SPANS; exact h3)]) ⟨lm, ls, lp, ln, rfl, S⟩ (Step.same (Same.refl _))
      · rw [List.length_map] at h3 ⊢
        exact k _ _ _ (by unfold Sw70.step; dsimp only; rw [if_neg (by rw [h1]; decide), if_neg (by rw [h2]; decide), if_neg (by unfold Sw70.SPANS; omega)]) ⟨lm, ls, lp, ln, rfl, S.swing hls ps hA⟩ (Step.lst (by simp))
def spPutPedal (T : Txt K mg) : Sp := fun vs H Q _ => ∃ (p dx : Addr) (L : List Addr) (q : Piece) (a : Addr) (s : Nat × Nat), vs = [.ref p, .ref a] ∧ ScoreAt T H p dx L q ∧ PedalAt T H a s ∧ q.pedals.length ≤ 30 ∧
  ∀ (r : Int) (H' : Hp) (q' : Piece), (q', Sw70.ok r) = Sw70.step q (.pedal s.1 s.2) → ScoreAt T H' p dx L q' → Step H H' p L L → Q (.int r) H'
theorem ok_Score_put_pedal (T : Txt K mg) : FnOk P w K mg base CX0 3 T.A_Score_put_pedal T.D_Score_put_pedal ["self", "pedal"] (spPutPedal T) := by
  refine T.f_Score_put_pedal.ok sc_Score_put_pedal (fun vs H Q E h => ?_) (fun cdv A outer s H vs Q E hr h => ?_)
  · obtain ⟨p, dx, L, q, a, s', rfl, _⟩ := h
    rfl
  · obtain ⟨p, dx, L, q, a, s', rfl, ⟨lm, ls, lp, ln, rfl, S⟩, hA, h30, k⟩ := h
    obtain ⟨as, hls, ps⟩ := S.d
    refine ⟨_, (pss_cons (ps_if (pt_not (pt_val (pe_call (ok_span_is_as_told T) (hr.mono (by decide)) rfl T.g_span_is_as_told T.f_span_is_as_told.kp T.b_span_is_as_told .nil pass0 (pa_cons (pv 1) pa_nil)))) (pss_one (ps_ret (pgc rfl T.c_NOT_AS_TOLD))) pss_nil) (pss_one (ps_ret (pe_call (ok_put_span T) (hr.mono (by decide)) rfl T.g_put_span T.f_put_span.kp T.b_put_span .nil pass0 (pa_cons (pe_fld (pv 0) rfl) (pa_cons (pv 1) pa_nil)))))), ?_⟩
    refine ⟨_, rfl, a, s'.1, s'.2, rfl, hA.span, _, rfl, iteNB (fun h1 => ?_) (fun h1 => ?_)⟩
    · have h1 := of_decide_eq_false h1
      exact k (-1) H q (by unfold Sw70.step; dsimp only; rw [if_pos (by unfold Sw70.LAST; omega)]) ⟨lm, ls, lp, ln, rfl, S⟩ (Step.same (Same.refl _))
    · have h1 := of_decide_eq_true h1
      have h1' : ¬ (s'.2 ≤ s'.1 ∨ Sw70.LAST < s'.2) := by unfold Sw70.LAST; omega
      refine ⟨_, rfl, p, _, dx, _, _, rfl, S.obj, T.cl_Score, T.a_Score_pedals, lk_Score_pedals .., _, rfl, ?_⟩
      have hsp : Paired (fun r (d : Nat × Nat) => SpanAt K H r d.1 d.2) as q.pedals := Paired.mapP ps fun _ _ h => h.span
      have hl := Paired.length ps
      refine ⟨a, lp, s'.1, s'.2, as, _, rfl, hA.span, hls, hsp, (by omega), fun h2 => ?_, fun h2 h3 => ?_, fun h2 h3 => ?_⟩
      · exact k (-3) H q (by unfold Sw70.step; dsimp only; rw [if_neg h1', if_pos h2]) ⟨lm, ls, lp, ln, rfl, S⟩ (Step.same (Same.refl _))
      · exact k (-5) H q (by unfold Sw70.step; dsimp only; rw [if_neg h1', if_neg (by rw [h2]; decide), if_pos (by unfold Sw70.SPANS; exact h3)]) ⟨lm, ls, lp, ln, rfl, S⟩ (Step.same (Same.refl _))
      · exact k _ _ _ (by unfold Sw70.step; dsimp only; rw [if_neg h1', if_neg (by rw [h2]; decide), if_neg (by unfold Sw70.SPANS; omega)]) ⟨lm, ls, lp, ln, rfl, S.pedal hls ps hA⟩ (Step.lst (by simp))
def spPutNote (T : Txt K mg) : Sp := fun vs H Q _ => ∃ (p dx : Addr) (L : List Addr) (q : Piece) (a : Addr) (x : Note), vs = [.ref p, .ref a] ∧ ScoreAt T H p dx L q ∧ NoteAt T H a x ∧ q.notes.length ≤ 200 ∧
  ∀ (r : Int) (H' : Hp) (q' : Piece), (q', Sw70.ok r) = Sw70.step q (.note x) → ScoreAt T H' p dx L q' → Step H H' p L L → Q (.int r) H'
theorem ok_Score_put_note (T : Txt K mg) : FnOk P w K mg base CX0 3 T.A_Score_put_note T.D_Score_put_note ["self", "note"] (spPutNote T) := by
  refine T.f_Score_put_note.ok sc_Score_put_note (fun vs H Q E h => ?_) (fun cdv A outer s H vs Q E hr h => ?_)
  · obtain ⟨p, dx, L, q, a, x, rfl, _⟩ := h
    rfl
  · obtain ⟨p, dx, L, q, a, x, rfl, ⟨lm, ls, lp, ln, rfl, S⟩, hA, h200, k⟩ := h
    obtain ⟨as, hls, ps⟩ := S.n
    have hl := Paired.length ps
    refine ⟨_, (pss_cons (ps_if (pt_not (pt_val (pe_call (ok_note_is_as_told T) (hr.mono (by decide)) rfl T.g_note_is_as_told T.f_note_is_as_told.kp T.b_note_is_as_told .nil pass0 (pa_cons (pv 1) pa_nil)))) (pss_one (ps_ret (pgc rfl T.c_NOT_AS_TOLD))) pss_nil) (pss_cons (ps_if (pt_cmpR op_ge (pe_callB call_len_seq (by rfl) T.n_len PySem.boot_len (pa_cons (pe_fld (pv 0) rfl) pa_nil)) (pgc rfl T.c_MOST_NOTES) (nomark _)) (pss_one (ps_ret (pgc rfl T.c_TOO_MANY))) pss_nil) (pss_cons (ps_expr (pe_bm PySem.F.plainAttrs_list PySem.F.slot_list_append PySem.F.type_list_append mt_append (pe_fld (pv 0) rfl) (pa_cons (pv 1) pa_nil))) (pss_one (ps_ret (pe_op op_sub (pe_callB call_len_seq (by rfl) T.n_len PySem.boot_len (pa_cons (pe_fld (pv 0) rfl) pa_nil)) pe_int)))))), ?_⟩
    refine ⟨_, rfl, a, x, rfl, hA, _, rfl, iteNB (fun h1 => ?_) (fun h1 => ?_)⟩
    · exact k (-1) H q (by unfold Sw70.step; dsimp only; rw [if_pos h1]) ⟨lm, ls, lp, ln, rfl, S⟩ (Step.same (Same.refl _))
    · have h1' : ¬ Sw70.noteOk x = false := by rw [h1]; decide
      refine ⟨_, rfl, p, _, dx, _, _, rfl, S.obj, T.cl_Score, T.a_Score_notes, lk_Score_notes .., ln, _, rfl, .inl (SqL.of hls), _, _, rfl, rfl, _, rfl, iteD (fun h2 => ?_) (fun h2 => ?_)⟩
      · rw [List.length_map] at h2
        exact k (-5) H q (by unfold Sw70.step; dsimp only; rw [if_neg h1', if_pos (by unfold Sw70.NOTES; omega)]) ⟨lm, ls, lp, ln, rfl, S⟩ (Step.same (Same.refl _))
      · rw [List.length_map] at h2
        refine ⟨_, rfl, p, _, dx, _, _, rfl, S.obj, T.cl_Score, T.a_Score_notes, lk_Score_notes .., .inl ⟨rfl, _, SqL.of hls⟩, _, rfl, ln, _, _, rfl, rfl, hls, (by rw [List.length_map]; exact small1000 (by omega)), ?_⟩
        have eD : (as.map V.ref ++ [V.ref a]) = (as ++ [a]).map V.ref := by rw [List.map_append]; rfl
        rw [eD]
        have S2 := S.note hls ps hA
        refine ⟨_, rfl, p, _, dx, _, _, rfl, S2.obj, T.cl_Score, T.a_Score_notes, lk_Score_notes .., ln, _, rfl, .inl (SqL.of upd_same), _, _, rfl, rfl, ?_⟩
        have e0 : ((((as ++ [a]).map V.ref).length : Nat) : Int) - 1 = (q.notes.length : Int) := by
          rw [List.length_map, List.length_append]
          show ((as.length + 1 : Nat) : Int) - 1 = _
          omega
        refine qI (k _ _ _ (by unfold Sw70.step; dsimp only; rw [if_neg h1', if_neg (by unfold Sw70.NOTES; omega)]) ⟨lm, ls, lp, ln, rfl, S2⟩ (Step.lst (by simp))) ?_
        exact e0.symm
end
end XW
namespace XW
open PySem PySem.Spec PyProof.Rows L2
open Sw70 (Mark Swing Note Piece)
theorem wipe_set (σ : L2.St) (v : Nat) (x : Option V) : wipe ((wipe σ [v]).set v x) [v] = wipe σ [v] := by
  show ((σ.set v none).set v x).set v none = σ.set v none
  rw [List.set_set, List.set_set]
/-- [a number of each], over a list of instances -/
theorem lc_ints {K : PySem.W.Frag} {a : Addr} {as : List Addr} {ns : List Int} {v : Nat} {te : TE} {σ : L2.St} {H1 : Hp} {D : Addr} {Qd : Hp → Prop} (nD : H1 D = none) (ha : H1 a = some (.lst (as.map V.ref))) (hlen : as.length ≤ 1000) (hn : ns.length = as.length)
    (step : ∀ (i : Nat) (b : Addr), as[i]? = some b → ∃ n, ns[i]? = some n ∧ ∀ (H' : Hp) (R : VK), Same H1 H' → R (.int n) H' → te ((wipe σ [v]).set v (some (.ref b))) H' R) (hd : Qd (upd H1 D (.lst (ns.map V.int)))) :
    ∃ W : Nat → Nat → Hp → Prop, (∃ m, W 0 m (upd H1 D (.lst []))) ∧ ∀ i m H, W i m H → ((Itl K a).stop i H ∧ Qd H) ∨ ((Itl K a).go i H ∧ ∃ Nx : Hp → Prop, (∀ H', Nx H' → ∃ m', m' < m ∧ W (i + 1) m' H') ∧ ∀ x H', (Itl K a).yld i H x H' →
      gName v x (wipe σ [v]) H' fun σ2 H2 => wipe σ2 [v] = wipe σ [v] ∧ tYes σ2 H2 fun b H3 => if b = true then te σ2 H3 fun y H4 => ∃ acc, H4 D = some (.lst acc) ∧ acc.length < sizeLine ∧ Nx (upd H4 D (.lst (acc ++ [y]))) else Nx H3) := by
  have naD := ne_of_none ha nD
  refine lc_list (K := K) (a := a) (xs := as.map V.ref) (fun i H' => H' = upd H1 D (.lst ((ns.take i).map V.int))) rfl (fun i H' _ e => by rw [e]; exact SqL.of (by rw [upd_ne naD]; exact ha)) ?_ ?_
  · rintro i x H' hx rfl
    obtain ⟨b, hb, rfl⟩ := refs_at hx
    obtain ⟨n, hn', st⟩ := step i b hb
    refine ⟨wipe_set .., ?_⟩
    dsimp only [tYes]
    rw [if_pos rfl]
    refine st _ _ (Same.new nD) ⟨_, upd_same, ?_, ?_⟩
    · rw [List.length_map, List.length_take]
      exact small1000 (by omega)
    · rw [upd_upd, take_snoc hn', List.map_append]
      rfl
  · rintro H' rfl
    rw [List.length_map, ← hn, List.take_length]
    exact hd
/-- [a new instance of each], over a list of instances -/
theorem lc_objs {K : PySem.W.Frag} {α : Type} {At : Hp → Addr → α → Prop} {a : Addr} {as : List Addr} {ms : List α} {v : Nat} {te : TE} {σ : L2.St} {H1 : Hp} {D : Addr} {Qd : Hp → Prop} (hs : ∀ {H H' : Hp} {b : Addr} {m : α}, At H b m → Same H H' → At H' b m)
    (hk : ∀ {H : Hp} {l : Addr} {xs ys : List V} {b : Addr} {m : α}, At H b m → H l = some (.lst xs) → At (upd H l (.lst ys)) b m) (nD : H1 D = none) (ha : H1 a = some (.lst (as.map V.ref))) (hlen : as.length ≤ 1000) (hn : ms.length = as.length)
    (step : ∀ (i : Nat) (b : Addr), as[i]? = some b → ∃ m, ms[i]? = some m ∧ ∀ (H' : Hp) (R : VK), Same H1 H' → (∀ (H'' : Hp) (x : Addr), Same H' H'' → At H'' x m → R (.ref x) H'') → te ((wipe σ [v]).set v (some (.ref b))) H' R)
    (hd : ∀ (H' : Hp) (bs : List Addr), Same H1 H' → H' D = some (.lst (bs.map V.ref)) → Paired (At H') bs ms → Qd H') :
    ∃ W : Nat → Nat → Hp → Prop, (∃ m, W 0 m (upd H1 D (.lst []))) ∧ ∀ i m H, W i m H → ((Itl K a).stop i H ∧ Qd H) ∨ ((Itl K a).go i H ∧ ∃ Nx : Hp → Prop, (∀ H', Nx H' → ∃ m', m' < m ∧ W (i + 1) m' H') ∧ ∀ x H', (Itl K a).yld i H x H' →
      gName v x (wipe σ [v]) H' fun σ2 H2 => wipe σ2 [v] = wipe σ [v] ∧ tYes σ2 H2 fun b H3 => if b = true then te σ2 H3 fun y H4 => ∃ acc, H4 D = some (.lst acc) ∧ acc.length < sizeLine ∧ Nx (upd H4 D (.lst (acc ++ [y]))) else Nx H3) := by
  refine lc_list (K := K) (a := a) (xs := as.map V.ref) (fun i H' => ∃ bs : List Addr, Same H1 H' ∧ H' D = some (.lst (bs.map V.ref)) ∧ Paired (At H') bs (ms.take i)) ⟨[], Same.new nD, upd_same, .nil⟩ (fun i H' _ ⟨_, e, _⟩ => SqL.of (e _ _ ha)) ?_ ?_
  · rintro i x H' hx ⟨bs, sm, hD, hp⟩
    obtain ⟨b, hb, rfl⟩ := refs_at hx
    obtain ⟨m, hm, st⟩ := step i b hb
    refine ⟨wipe_set .., ?_⟩
    dsimp only [tYes]
    rw [if_pos rfl]
    refine st H' _ sm fun H'' x' sm2 hx' => ⟨_, sm2 _ _ hD, ?_, bs ++ [x'], ?_, ?_, ?_⟩
    · have h1 := Paired.length hp
      rw [List.length_take] at h1
      rw [List.length_map]
      exact small1000 (by omega)
    · intro c o e
      rw [upd_ne (ne_of_none e nD)]
      exact sm2 _ _ (sm _ _ e)
    · rw [upd_same, List.map_append]
      rfl
    · rw [take_snoc hm]
      exact Paired.append' (Paired.mapP hp fun _ _ h => hk (hs h sm2) (sm2 _ _ hD)) (.cons (hk hx' (sm2 _ _ hD)) .nil)
  · rintro H' ⟨bs, sm, hD, hp⟩
    rw [List.length_map, ← hn, List.take_length] at hp
    exact hd H' bs sm hD hp
section
variable {P : Program} {w : World} {K : PySem.W.Frag} {mg : Str → Option Value} {base : Heap}
theorem swings_span {T : Txt K mg} {H : Hp} : ∀ {as : List Addr} {l : List Swing}, Paired (SwingAt T H) as l → Paired (fun r (d : Nat × Nat) => SpanAt K H r d.1 d.2) as (l.map fun x => (x.low, x.high))
  | _, _, .nil => .nil
  | _, _, .cons r t => .cons r.span (swings_span t)
theorem paired_map_get {α β : Type} {R : α → β → Prop} {as : List α} {ms : List β} (h : Paired R as ms) {g : β → Int} {i : Nat} {b : α} (hb : as[i]? = some b) : ∃ m, ms[i]? = some m ∧ R b m ∧ (ms.map g)[i]? = some (g m) := by
  obtain ⟨m, hm, r⟩ := paired_get h hb
  exact ⟨m, hm, r, by rw [List.getElem?_map, hm]; rfl⟩
def ends (q : Piece) : List Int := q.marks.map (fun m => (m.tick : Int)) ++ (q.swings.map (fun s => (s.high : Int)) ++ q.pedals.map (fun d => (d.2 : Int))) ++ q.notes.map (fun x => (x.start : Int) + x.long)
theorem room_max {q : Piece} {m : Int} (h1 : m ∈ ends q) (h2 : ∀ y ∈ ends q, y ≤ m) (d : Nat) : m + d ≤ 1000000 ↔ q.room d = true := by
  rw [XM.room_iff]
  constructor
  · intro h
    refine ⟨fun x hx => ?_, fun x hx => ?_, fun x hx => ?_, fun x hx => ?_⟩
    · have := h2 x.tick (List.mem_append_left _ (List.mem_append_left _ (List.mem_map.mpr ⟨x, hx, rfl⟩)))
      omega
    · have := h2 x.high (List.mem_append_left _ (List.mem_append_right _ (List.mem_append_left _ (List.mem_map.mpr ⟨x, hx, rfl⟩))))
      omega
    · have := h2 x.2 (List.mem_append_left _ (List.mem_append_right _ (List.mem_append_right _ (List.mem_map.mpr ⟨x, hx, rfl⟩))))
      omega
    · have := h2 (x.start + x.long) (List.mem_append_right _ (List.mem_map.mpr ⟨x, hx, rfl⟩))
      omega
  · rintro ⟨r1, r2, r3, r4⟩
    rcases List.mem_append.mp h1 with h | h
    · rcases List.mem_append.mp h with h | h
      · obtain ⟨x, hx, rfl⟩ := List.mem_map.mp h
        have := r1 x hx
        omega
      · rcases List.mem_append.mp h with h | h
        · obtain ⟨x, hx, rfl⟩ := List.mem_map.mp h
          have := r2 x hx
          omega
        · obtain ⟨x, hx, rfl⟩ := List.mem_map.mp h
          have := r3 x hx
          omega
    · obtain ⟨x, hx, rfl⟩ := List.mem_map.mp h
      have := r4 x hx
      omega
def spFar (T : Txt K mg) : Sp := fun vs H Q _ => ∃ (p dx : Addr) (L : List Addr) (q : Piece), vs = [.ref p] ∧ ScoreAt T H p dx L q ∧ XM.POk q ∧ ∀ (H' : Hp) (m : Int), Same H H' → (∀ d : Nat, m + d ≤ 1000000 ↔ q.room d = true) → Q (.int m) H'
theorem ok_Score_farthest_tick (T : Txt K mg) : FnOk P w K mg base CX0 2 T.A_Score_farthest_tick T.D_Score_farthest_tick ["self"] (spFar T) := by
  refine T.f_Score_farthest_tick.ok sc_Score_farthest_tick (fun vs H Q E h => ?_) (fun cdv A outer s H vs Q E hr h => ?_)
  · obtain ⟨p, dx, L, q, rfl, _⟩ := h
    rfl
  · obtain ⟨p, dx, L, q, rfl, ⟨lm, ls, lp, ln, rfl, S⟩, ok, k⟩ := h
    obtain ⟨a1, hlm, pm⟩ := S.m
    obtain ⟨a2, hls, ps⟩ := S.s
    obtain ⟨a3, hlp, pd⟩ := S.d
    obtain ⟨a4, hln, pn⟩ := S.n
    have l1 := Paired.length pm
    have l2 := Paired.length ps
    have l3 := Paired.length pd
    have l4 := Paired.length pn
    have b1 := ok.ml
    have b2 := ok.sl
    have b3 := ok.pl
    have b4 := ok.nl
    refine ⟨_, (pss_cons (ps_setLc (i := 1) rfl sc_Score_farthest_tick.nd rfl rfl (sw_true rfl rfl rfl rfl) (own := [("mark", 2)]) (pi_list (pe_fld (pv 0) rfl)) (blkOk_by (by show blkC ["self", "ticks", "mark", "span", "note"] (defScope (inClass (top 39) 7)) _ [("mark", 2)] = true; decide +kernel)) (by intro _ _ _ _ _; exact pg_name (i := 2) sc_Score_farthest_tick.nd rfl (Or.inl rfl)) (by intro _ _ _ _ _; exact pts_nil) (by intro _ _ _ _ _; exact (pe_fldB (K := K) rfl (pv 2) rfl))) (pss_cons (ps_expr (pe_bm PySem.F.plainAttrs_list PySem.F.slot_list_extend PySem.F.type_list_extend mt_extend (pv 1) (pa_cons (pe_lc rfl sc_Score_farthest_tick.nd (own := [("span", 3)]) (pi_list (pe_op op_cat (pe_fld (pv 0) rfl) (pe_fld (pv 0) rfl))) (blkOk_by (by show blkC ["self", "ticks", "mark", "span", "note"] (defScope (inClass (top 39) 7)) _ [("span", 3)] = true; decide +kernel)) (by intro _ _ _ _ _; exact pg_name (i := 3) sc_Score_farthest_tick.nd rfl (Or.inl rfl)) (by intro _ _ _ _ _; exact pts_nil) (by intro _ _ _ _ _; exact (pe_fldB (K := K) rfl (pv 3) rfl))) pa_nil))) (pss_cons (ps_expr (pe_bm PySem.F.plainAttrs_list PySem.F.slot_list_extend PySem.F.type_list_extend mt_extend (pv 1) (pa_cons (pe_lc rfl sc_Score_farthest_tick.nd (own := [("note", 4)]) (pi_list (pe_fld (pv 0) rfl)) (blkOk_by (by show blkC ["self", "ticks", "mark", "span", "note"] (defScope (inClass (top 39) 7)) _ [("note", 4)] = true; decide +kernel)) (by intro _ _ _ _ _; exact pg_name (i := 4) sc_Score_farthest_tick.nd rfl (Or.inl rfl)) (by intro _ _ _ _ _; exact pts_nil) (by intro _ _ _ _ _; exact (pe_call (ok_note_end T) (hr.mono (by decide)) rfl T.g_note_end T.f_note_end.kp T.b_note_end .nil pass0 (pa_cons (pv 4) pa_nil)))) pa_nil))) (pss_one (ps_ret (pe_callB (cr_max rfl) (by rfl) T.n_max boot_max (pa_cons (pv 1) pa_nil))))))), ?_⟩
    refine ⟨_, rfl, p, _, dx, _, _, rfl, S.obj, T.cl_Score, T.a_Score_marks, lk_Score_marks .., lm, rfl, ⟨_, SqL.of hlm⟩, fun D nD => ?_⟩
    refine lc_ints (ns := q.marks.map fun m => (m.tick : Int)) nD hlm (by omega) (by rw [List.length_map]; omega) (fun i b hb => ?_) ?_
    · obtain ⟨m, _, ⟨db, hdb⟩, hn⟩ := paired_map_get pm (g := fun m : Mark => (m.tick : Int)) hb
      exact ⟨_, hn, fun H' R sm r => ⟨_, rfl, b, _, db, _, _, rfl, sm _ _ hdb, T.cl_Mark, T.a_Mark_tick, lk_Mark_tick .., r⟩⟩
    generalize hH1 : upd H D (.lst ((q.marks.map fun m => (m.tick : Int)).map V.int)) = H1
    have s1 : Same H H1 := hH1 ▸ Same.new nD
    have hD1 : H1 D = some (.lst ((q.marks.map fun m => (m.tick : Int)).map V.int)) := hH1 ▸ upd_same
    refine ⟨_, rfl, .inl ⟨rfl, _, SqL.of hD1⟩, _, rfl, p, _, dx, _, _, rfl, s1 _ _ S.obj, T.cl_Score, T.a_Score_swings, lk_Score_swings .., _, rfl, p, _, dx, _, _, rfl, s1 _ _ S.obj, T.cl_Score, T.a_Score_pedals, lk_Score_pedals ..,
      ls, lp, _, _, rfl, rfl, s1 _ _ hls, s1 _ _ hlp, Nat.le_of_lt (small1000 (by rw [List.length_map, List.length_map]; omega)), fun c nc => ⟨c, rfl, ⟨_, SqL.of upd_same⟩, fun D2 nD2 => ?_⟩⟩
    have sc : Same H1 (upd H1 c (.lst (a2.map V.ref ++ a3.map V.ref))) := Same.new nc
    have ec : upd H1 c (.lst (a2.map V.ref ++ a3.map V.ref)) c = some (.lst ((a2 ++ a3).map V.ref)) := by rw [upd_same, List.map_append]
    have psp : Paired (fun r (d : Nat × Nat) => SpanAt K H r d.1 d.2) (a2 ++ a3) (q.swings.map (fun x => (x.low, x.high)) ++ q.pedals) := by
      exact Paired.append' (swings_span ps) (Paired.mapP pd fun _ _ h => h.span)
    refine lc_ints (ns := (q.swings.map (fun x => (x.low, x.high)) ++ q.pedals).map fun d => (d.2 : Int)) nD2 ec (by rw [List.length_append]; omega) (by rw [List.length_map, ← Paired.length psp]) (fun i b hb => ?_) ?_
    · obtain ⟨m, _, ⟨C, db, fs, hdb, cl, n1, n2, k1, k2⟩, hn⟩ := paired_map_get psp (g := fun d : Nat × Nat => (d.2 : Int)) hb
      exact ⟨_, hn, fun H' R sm r => ⟨_, rfl, b, C, db, fs, _, rfl, sm _ _ (sc _ _ (s1 _ _ hdb)), cl, n2, k2, r⟩⟩
    refine ⟨D, D2, _, _, rfl, rfl, (by rw [upd_ne (ne_of_none (sc _ _ hD1) nD2)]; exact sc _ _ hD1), upd_same, Nat.le_of_lt (small1000 (by rw [List.length_map, List.length_map, List.length_map, List.length_map, ← Paired.length psp, List.length_append]; omega)), ?_⟩
    have nDp : D ≠ p := (ne_of_none S.obj nD).symm
    have s2 : Same H (upd (upd (upd H1 c (.lst (a2.map V.ref ++ a3.map V.ref))) D2 (.lst (((q.swings.map (fun x => (x.low, x.high)) ++ q.pedals).map fun d => (d.2 : Int)).map V.int))) D
        (.lst ((q.marks.map fun m => (m.tick : Int)).map V.int ++ ((q.swings.map (fun x => (x.low, x.high)) ++ q.pedals).map fun d => (d.2 : Int)).map V.int))) := fun b o e => by
      rw [upd_ne (ne_of_none e nD), upd_ne (ne_of_none (sc _ _ (s1 _ _ e)) nD2)]
      exact sc _ _ (s1 _ _ e)
    revert s2
    generalize hH3 : upd (upd (upd H1 c (.lst (a2.map V.ref ++ a3.map V.ref))) D2 (.lst (((q.swings.map (fun x => (x.low, x.high)) ++ q.pedals).map fun d => (d.2 : Int)).map V.int))) D
        (.lst ((q.marks.map fun m => (m.tick : Int)).map V.int ++ ((q.swings.map (fun x => (x.low, x.high)) ++ q.pedals).map fun d => (d.2 : Int)).map V.int)) = H3
    intro s2
    have hD3 : H3 D = some (.lst ((q.marks.map fun m => (m.tick : Int)).map V.int ++ ((q.swings.map (fun x => (x.low, x.high)) ++ q.pedals).map fun d => (d.2 : Int)).map V.int)) := hH3 ▸ upd_same
    refine ⟨_, rfl, .inl ⟨rfl, _, SqL.of hD3⟩, _, rfl, p, _, dx, _, _, rfl, s2 _ _ S.obj, T.cl_Score, T.a_Score_notes, lk_Score_notes .., ln, rfl, ⟨_, SqL.of (s2 _ _ hln)⟩, fun D4 nD4 => ?_⟩
    refine lc_ints (ns := q.notes.map fun x => (x.start : Int) + x.long) nD4 (s2 _ _ hln) (by omega) (by rw [List.length_map]; omega) (fun i b hb => ?_) ?_
    · obtain ⟨m, _, hm, hn⟩ := paired_map_get pn (g := fun x : Note => (x.start : Int) + x.long) hb
      exact ⟨_, hn, fun H' R sm r => ⟨_, rfl, b, m, rfl, (hm.same s2).same sm, r⟩⟩
    have s4 : Same H3 (upd H3 D4 (.lst ((q.notes.map fun x => (x.start : Int) + x.long).map V.int))) := Same.new nD4
    refine ⟨D, D4, _, _, rfl, rfl, s4 _ _ hD3, upd_same, Nat.le_of_lt (small1000 (by rw [List.length_append, List.length_map, List.length_map, List.length_map, List.length_map, ← Paired.length psp, List.length_append, List.length_map, List.length_map]; omega)), ?_⟩
    have ee : (q.marks.map fun m => (m.tick : Int)).map V.int ++ ((q.swings.map (fun x => (x.low, x.high)) ++ q.pedals).map fun d => (d.2 : Int)).map V.int ++ (q.notes.map fun x => (x.start : Int) + x.long).map V.int = (ends q).map V.int := by
      unfold ends
      simp only [List.map_append, List.map_map]
      rfl
    rw [ee]
    refine ⟨_, rfl, D, ends q, rfl, SqL.of upd_same, ?_, fun m h1 h2 => ?_⟩
    · obtain ⟨m, l, e, _⟩ := ok.m0
      unfold ends
      rw [List.length_append, List.length_append, List.length_map, e, List.length_cons]
      omega
    · refine k _ m (fun b o e => ?_) (room_max h1 h2)
      rw [upd_ne (ne_of_none e nD)]
      exact s4 _ _ (s2 _ _ e)
end
end XW
namespace XW
open PySem PySem.Spec PyProof.Rows L2
open Sw70 (Mark Swing Note Piece)
section
variable {P : Program} {w : World} {K : PySem.W.Frag} {mg : Str → Option Value} {base : Heap}
def laterM (t : Nat) (m : Mark) : Mark := { m with tick := m.tick + t }
def laterS (t : Nat) (m : Swing) : Swing := { m with low := m.low + t, high := m.high + t }
def laterP (t : Nat) (m : Nat × Nat) : Nat × Nat := (m.1 + t, m.2 + t)
def laterN (t : Nat) (m : Note) : Note := { m with start := m.start + t }
theorem moved_eq {q : Piece} (ok : XM.POk q) {t : Nat} (ht : t ≠ 0) {m : Mark} {l : List Mark} (e : q.marks = m :: l) : q.moved t = ⟨q.quarter, ⟨0, m.quarter, false⟩ :: q.marks.map (laterM t), q.swings.map (laterS t), q.pedals.map (laterP t), q.notes.map (laterN t)⟩ := by
  obtain ⟨m', l', e', em⟩ := XM.moved_marks ok ht
  rw [e] at e'
  injection e' with e1 e2
  subst e1
  have : q.moved t = ⟨q.quarter, (q.moved t).marks, q.swings.map (laterS t), q.pedals.map (laterP t), q.notes.map (laterN t)⟩ := rfl
  rw [this, em]
  rfl
def spMove (T : Txt K mg) : Sp := fun vs H Q _ => ∃ (p dx : Addr) (L : List Addr) (q : Piece) (t : Nat), vs = [.ref p, .int t] ∧ ScoreAt T H p dx L q ∧ XM.POk q ∧ (q.room t = false → ∀ H', Same H H' → Q (.int (-1)) H') ∧
  (q.room t = true → 50 < (q.moved t).marks.length → ∀ H', Same H H' → Q (.int (-5)) H') ∧ (q.room t = true → ¬ 50 < (q.moved t).marks.length → ∀ (H' : Hp) (L' : List Addr), ScoreAt T H' p dx L' (q.moved t) → Step H H' p L L' → Q (.int 0) H')
theorem ok_Score_move (T : Txt K mg) : FnOk P w K mg base CX0 4 T.A_Score_move T.D_Score_move ["self", "ticks"] (spMove T) := by
  refine T.f_Score_move.ok sc_Score_move (fun vs H Q E h => ?_) (fun cdv A outer s H vs Q E hr h => ?_)
  · obtain ⟨p, dx, L, q, t, rfl, _⟩ := h
    rfl
  · obtain ⟨p, dx, L, q, t, rfl, ⟨lm, ls, lp, ln, rfl, S⟩, ok, k1, k2, k3⟩ := h
    refine ⟨_, (pss_cons (ps_if (pt_cmpR op_gt (pe_op op_add (pe_meth0 (pv 0) T.cl_Score T.m_Score_farthest_tick (ok_Score_farthest_tick T) (hr.mono (by decide)) T.b_Score_farthest_tick .nil pass0) (pv 1)) (pgc rfl T.c_LAST_TICK) (nomark _)) (pss_one (ps_ret (pgc rfl T.c_NOT_AS_TOLD))) pss_nil) (pss_cons (ps_if (pt_cmpR op_eq (pv 1) pe_int (nomark _)) (pss_one (ps_ret pe_int)) pss_nil) (pss_cons (ps_if (pt_cmpR op_ge (pe_callB call_len_seq (by rfl) T.n_len PySem.boot_len (pa_cons (pe_fld (pv 0) rfl) pa_nil)) (pgc rfl T.c_MOST_MARKS) (nomark _)) (pss_one (ps_ret (pgc rfl T.c_TOO_MANY))) pss_nil) (pss_cons (ps_set (i := 2) sc_Score_move.nd rfl (by first | exact Or.inl rfl | exact Or.inr rfl) (pe_make T.k_Mark (ok_Mark_init T) (hr.mono (by decide)) rfl T.g_Mark T.b_Mark_init .nil pass0 (pa_cons pe_int (pa_cons (pe_fld (pe_ix ix_list (pe_fld (pv 0) rfl) pe_int (fun _ _ => rfl)) rfl) (pa_cons pe_int pa_nil))))) (pss_cons (ps_fld (pv 0) (pe_op op_cat (pe_lst (pa_cons (pv 2) pa_nil)) (pe_lc rfl sc_Score_move.nd (own := [("mark", 3)]) (pi_list (pe_fld (pv 0) rfl)) (blkOk_by (by show blkC ["self", "ticks", "first", "mark", "swing", "pedal", "note"] (defScope (inClass (top 39) 8)) _ [("mark", 3)] = true; decide +kernel)) (by intro _ _ _ _ _; exact pg_name (i := 3) sc_Score_move.nd rfl (Or.inl rfl)) (by intro _ _ _ _ _; exact pts_nil) (by intro _ _ _ _ _; exact (pe_call (ok_later_mark T) (hr.mono (by decide)) rfl T.g_later_mark T.f_later_mark.kp T.b_later_mark .nil pass0 (pa_cons (pv 3) (pa_cons (pv 1) pa_nil)))))) rfl) (pss_cons (ps_fld (pv 0) (pe_lc rfl sc_Score_move.nd (own := [("swing", 4)]) (pi_list (pe_fld (pv 0) rfl)) (blkOk_by (by show blkC ["self", "ticks", "first", "mark", "swing", "pedal", "note"] (defScope (inClass (top 39) 8)) _ [("swing", 4)] = true; decide +kernel)) (by intro _ _ _ _ _; exact pg_name (i := 4) sc_Score_move.nd rfl (Or.inl rfl)) (by intro _ _ _ _ _; exact pts_nil) (by intro _ _ _ _ _; exact (pe_call (ok_later_swing T) (hr.mono (by decide)) rfl T.g_later_swing T.f_later_swing.kp T.b_later_swing .nil pass0 (pa_cons (pv 4) (pa_cons (pv 1) pa_nil))))) rfl) (pss_cons (ps_fld (pv 0) (pe_lc rfl sc_Score_move.nd (own := [("pedal", 5)]) (pi_list (pe_fld (pv 0) rfl)) (blkOk_by (by show blkC ["self", "ticks", "first", "mark", "swing", "pedal", "note"] (defScope (inClass (top 39) 8)) _ [("pedal", 5)] = true; decide +kernel)) (by intro _ _ _ _ _; exact pg_name (i := 5) sc_Score_move.nd rfl (Or.inl rfl)) (by intro _ _ _ _ _; exact pts_nil) (by intro _ _ _ _ _; exact (pe_call (ok_later_pedal T) (hr.mono (by decide)) rfl T.g_later_pedal T.f_later_pedal.kp T.b_later_pedal .nil pass0 (pa_cons (pv 5) (pa_cons (pv 1) pa_nil))))) rfl) (pss_cons (ps_fld (pv 0) (pe_lc rfl sc_Score_move.nd (own := [("note", 6)]) (pi_list (pe_fld (pv 0) rfl)) (blkOk_by (by show blkC ["self", "ticks", "first", "mark", "swing", "pedal", "note"] (defScope (inClass (top 39) 8)) _ [("note", 6)] = true; decide +kernel)) (by intro _ _ _ _ _; exact pg_name (i := 6) sc_Score_move.nd rfl (Or.inl rfl)) (by intro _ _ _ _ _; exact pts_nil) (by intro _ _ _ _ _; exact (pe_call (ok_later_note T) (hr.mono (by decide)) rfl T.g_later_note T.f_later_note.kp T.b_later_note .nil pass0 (pa_cons (pv 6) (pa_cons (pv 1) pa_nil))))) rfl) (pss_one (ps_ret pe_int)))))))))), ?_⟩
    refine ⟨_, rfl, p, dx, _, rfl, S.obj, no_Score_farthest_tick .., p, dx, _, q, rfl, ⟨lm, ls, lp, ln, rfl, S⟩, ok, fun H1 far s1 hfar => ?_⟩
    have hf := hfar t
    refine ⟨_, rfl, _, _, rfl, rfl, _, _, rfl, rfl, _, rfl, iteD (fun h1 => ?_) (fun h1 => ?_)⟩
    · refine k1 ?_ H1 s1
      cases e : q.room t with
      | false => rfl
      | true =>
        have := hf.mpr e
        omega
    have hroom : q.room t = true := hf.mp (by omega)
    refine ⟨_, rfl, rfl, _, rfl, iteE (fun h2 => ?_) (fun h2 => ?_)⟩
    · have ht : t = 0 := by omega
      subst ht
      have e0 := XM.moved_zero ok
      refine k3 hroom (by rw [e0]; have := ok.ml; omega) H1 _ (by rw [e0]; exact ScoreAt.same ⟨lm, ls, lp, ln, rfl, S⟩ s1) (Step.same s1)
    have ht : t ≠ 0 := by omega
    obtain ⟨m0, ml0, em0, et0⟩ := ok.m0
    have hmv := moved_eq ok ht em0
    have hmvl : (q.moved t).marks.length = q.marks.length + 1 := by
      rw [hmv]
      show ((q.marks.map (laterM t)).length + 1) = _
      rw [List.length_map]
    obtain ⟨a1, hlm, pm⟩ := S.m
    obtain ⟨a2, hls, ps⟩ := S.s
    obtain ⟨a3, hlp, pd⟩ := S.d
    obtain ⟨a4, hln, pn⟩ := S.n
    have l1 := Paired.length pm
    have l2 := Paired.length ps
    have l3 := Paired.length pd
    have l4 := Paired.length pn
    have b1 := ok.ml
    have b2 := ok.sl
    have b3 := ok.pl
    have b4 := ok.nl
    refine ⟨_, rfl, p, _, dx, _, _, rfl, s1 _ _ S.obj, T.cl_Score, T.a_Score_marks, lk_Score_marks .., lm, _, rfl, .inl (SqL.of (s1 _ _ hlm)), _, _, rfl, rfl, _, rfl, iteD (fun h3 => ?_) (fun h3 => ?_)⟩
    · rw [List.length_map] at h3
      exact k2 hroom (by omega) H1 s1
    rw [List.length_map] at h3
    -- first = Mark(0, self.marks[0].length, 0)
    obtain ⟨a0, ha0, d0, hd0⟩ := paired_back pm (i := 0) (b := m0) (by rw [em0]; rfl)
    refine ⟨_, rfl, p, _, dx, _, _, rfl, s1 _ _ S.obj, T.cl_Score, T.a_Score_marks, lk_Score_marks .., lm, _, _, _, rfl, rfl, SqL.of (s1 _ _ hlm), at_of (j := 0) (v := V.ref a0) rfl (by rw [List.getElem?_map, ha0]; rfl),
      a0, _, d0, _, _, rfl, s1 _ _ hd0, T.cl_Mark, T.a_Mark_length, lk_Mark_length .., ?_⟩
    intro x dxm nx nd ne
    refine ⟨x, dxm, _, _, _, rfl, upd_same, rfl, ?_⟩
    rw [upd_upd]
    have s2 : Same H1 (upd (upd H1 dxm (.own x)) x (.ins T.C_Mark dxm (fs_Mark (V.int 0) (V.int m0.quarter) (V.int 0)))) := Same.made2 nx nd
    have hx2 : MarkAt T (upd (upd H1 dxm (.own x)) x (.ins T.C_Mark dxm (fs_Mark (V.int 0) (V.int m0.quarter) (V.int 0)))) x ⟨0, m0.quarter, false⟩ := ⟨dxm, upd_same⟩
    revert s2 hx2
    generalize upd (upd H1 dxm (.own x)) x (.ins T.C_Mark dxm (fs_Mark (V.int 0) (V.int m0.quarter) (V.int 0))) = H2
    intro s2 hx2
    have s12 : Same H H2 := s1.trans s2
    -- self.marks = [first] + [..]
    refine ⟨_, rfl, (by show 1 ≤ sizeLine; decide), fun c1 nc1 => ?_⟩
    have s3 : Same H2 (upd H2 c1 (.lst [.ref x])) := Same.new nc1
    have hc1 : upd H2 c1 (.lst [V.ref x]) c1 = some (.lst [.ref x]) := upd_same
    revert s3 hc1
    generalize upd H2 c1 (.lst [V.ref x]) = H3
    intro s3 hc1
    have s13 : Same H H3 := s12.trans s3
    refine ⟨_, rfl, p, _, dx, _, _, rfl, s13 _ _ S.obj, T.cl_Score, T.a_Score_marks, lk_Score_marks .., lm, rfl, ⟨_, SqL.of (s13 _ _ hlm)⟩, fun D1 nD1 => ?_⟩
    refine lc_objs (At := MarkAt T) (ms := q.marks.map (laterM t)) (fun h e => h.same e) (fun h e => h.keeps (Keeps.lst e)) nD1 (s13 _ _ hlm) (by omega) (by rw [List.length_map]; omega) (fun i b hb => ?_) (fun H4 bs1 s4 hD1 pb1 => ?_)
    · obtain ⟨m, hm, r⟩ := paired_get pm hb
      refine ⟨laterM t m, by rw [List.getElem?_map, hm]; rfl, fun H' R sm hR => ?_⟩
      exact ⟨_, rfl, _, rfl, b, m, t, rfl, (r.same s13).same sm, fun H'' x' sm2 _ hx' => hR H'' x' sm2 hx'⟩
    refine ⟨c1, D1, _, _, rfl, rfl, s4 _ _ hc1, hD1, Nat.le_of_lt (small1000 (by rw [List.length_map, Paired.length pb1, List.length_map]; show 1 + _ ≤ _; omega)), fun n1 nn1 => ?_⟩
    have s5 : Same H4 (upd H4 n1 (.lst ([V.ref x] ++ bs1.map V.ref))) := Same.new nn1
    have hn1 : upd H4 n1 (.lst ([V.ref x] ++ bs1.map V.ref)) n1 = some (.lst ((x :: bs1).map V.ref)) := upd_same
    revert s5 hn1
    generalize upd H4 n1 (.lst ([V.ref x] ++ bs1.map V.ref)) = H5
    intro s5 hn1
    have s15 : Same H H5 := (s13.trans s4).trans s5
    have n1f : H n1 = none := (s13.trans s4).free nn1
    have pm5 : Paired (MarkAt T H5) (x :: bs1) (⟨0, m0.quarter, false⟩ :: q.marks.map (laterM t)) := .cons (((hx2.same s3).same s4).same s5) (Paired.mapP pb1 fun _ _ h => h.same s5)
    refine ⟨_, rfl, p, _, dx, _, rfl, s15 _ _ S.obj, T.cl_Score, T.a_Score_marks, (by show 5 < 1000; decide), ?_⟩
    rw [pt_Score_marks]
    have kp6 : Keeps H5 (upd H5 p (.ins T.C_Score dx (fs_Score (.int q.quarter) (.ref n1) (.ref ls) (.ref lp) (.ref ln)))) := Keeps.score (s15 _ _ S.obj) (lk_Score_ticks ..)
    have B6 : ∀ b o, H5 b = some o → b ≠ p → upd H5 p (.ins T.C_Score dx (fs_Score (.int q.quarter) (.ref n1) (.ref ls) (.ref lp) (.ref ln))) b = some o := fun b o e hb => by rw [upd_ne hb]; exact e
    have hp6 : upd H5 p (.ins T.C_Score dx (fs_Score (.int q.quarter) (.ref n1) (.ref ls) (.ref lp) (.ref ln))) p = some (.ins T.C_Score dx (fs_Score (.int q.quarter) (.ref n1) (.ref ls) (.ref lp) (.ref ln))) := upd_same
    revert kp6 B6 hp6
    generalize upd H5 p (.ins T.C_Score dx (fs_Score (.int q.quarter) (.ref n1) (.ref ls) (.ref lp) (.ref ln))) = H6
    intro kp6 B6 hp6
    have lnp : ∀ {l : Addr} {xs : List V}, H l = some (.lst xs) → l ≠ p := fun h => ne_of h S.obj (by intro z; cases z)
    have hn1p : n1 ≠ p := (ne_of_none S.obj n1f).symm
    have hls6 := B6 _ _ (s15 _ _ hls) (lnp hls)
    have hlp6 := B6 _ _ (s15 _ _ hlp) (lnp hlp)
    have hln6 := B6 _ _ (s15 _ _ hln) (lnp hln)
    have hn16 := B6 _ _ hn1 hn1p
    have ps6 : Paired (SwingAt T H6) a2 q.swings := Paired.mapP ps fun _ _ h => (h.same s15).keeps kp6
    have pd6 : Paired (PedalAt T H6) a3 q.pedals := Paired.mapP pd fun _ _ h => (h.same s15).keeps kp6
    have pn6 : Paired (NoteAt T H6) a4 q.notes := Paired.mapP pn fun _ _ h => (h.same s15).keeps kp6
    have pm6 := Paired.mapP pm5 fun _ _ h => h.keeps kp6
    -- self.swings = [..]
    refine ⟨_, rfl, p, _, dx, _, _, rfl, hp6, T.cl_Score, T.a_Score_swings, lk_Score_swings .., ls, rfl, ⟨_, SqL.of hls6⟩, fun n2 nn2 => ?_⟩
    refine lc_objs (At := SwingAt T) (ms := q.swings.map (laterS t)) (fun h e => h.same e) (fun h e => h.keeps (Keeps.lst e)) nn2 hls6 (by omega) (by rw [List.length_map]; omega) (fun i b hb => ?_) (fun H7 bs2 s7 hn2 pb2 => ?_)
    · obtain ⟨m, hm, r⟩ := paired_get ps6 hb
      refine ⟨laterS t m, by rw [List.getElem?_map, hm]; rfl, fun H' R sm hR => ?_⟩
      exact ⟨_, rfl, _, rfl, b, m, t, rfl, r.same sm, fun H'' x' sm2 _ hx' => hR H'' x' sm2 hx'⟩
    refine ⟨_, rfl, p, _, dx, _, rfl, s7 _ _ hp6, T.cl_Score, T.a_Score_swings, (by show 5 < 1000; decide), ?_⟩
    rw [pt_Score_swings]
    have kp8 : Keeps H7 (upd H7 p (.ins T.C_Score dx (fs_Score (.int q.quarter) (.ref n1) (.ref n2) (.ref lp) (.ref ln)))) := Keeps.score (s7 _ _ hp6) (lk_Score_ticks ..)
    have B8 : ∀ b o, H7 b = some o → b ≠ p → upd H7 p (.ins T.C_Score dx (fs_Score (.int q.quarter) (.ref n1) (.ref n2) (.ref lp) (.ref ln))) b = some o := fun b o e hb => by rw [upd_ne hb]; exact e
    have hp8 : upd H7 p (.ins T.C_Score dx (fs_Score (.int q.quarter) (.ref n1) (.ref n2) (.ref lp) (.ref ln))) p = some (.ins T.C_Score dx (fs_Score (.int q.quarter) (.ref n1) (.ref n2) (.ref lp) (.ref ln))) := upd_same
    revert kp8 B8 hp8
    generalize upd H7 p (.ins T.C_Score dx (fs_Score (.int q.quarter) (.ref n1) (.ref n2) (.ref lp) (.ref ln))) = H8
    intro kp8 B8 hp8
    have hn2p : n2 ≠ p := (ne_of_none hp6 nn2).symm
    have hlp8 := B8 _ _ (s7 _ _ hlp6) (lnp hlp)
    have hln8 := B8 _ _ (s7 _ _ hln6) (lnp hln)
    have hn18 := B8 _ _ (s7 _ _ hn16) hn1p
    have hn28 := B8 _ _ hn2 hn2p
    have pd8 : Paired (PedalAt T H8) a3 q.pedals := Paired.mapP pd6 fun _ _ h => (h.same s7).keeps kp8
    have pn8 : Paired (NoteAt T H8) a4 q.notes := Paired.mapP pn6 fun _ _ h => (h.same s7).keeps kp8
    have pm8 := Paired.mapP pm6 fun _ _ h => (h.same s7).keeps kp8
    have ps8 := Paired.mapP pb2 fun _ _ h => h.keeps kp8
    have d12 : n1 ≠ n2 := ne_of_none hn16 nn2
    -- self.pedals = [..]
    refine ⟨_, rfl, p, _, dx, _, _, rfl, hp8, T.cl_Score, T.a_Score_pedals, lk_Score_pedals .., lp, rfl, ⟨_, SqL.of hlp8⟩, fun n3 nn3 => ?_⟩
    refine lc_objs (At := PedalAt T) (ms := q.pedals.map (laterP t)) (fun h e => h.same e) (fun h e => h.keeps (Keeps.lst e)) nn3 hlp8 (by omega) (by rw [List.length_map]; omega) (fun i b hb => ?_) (fun H9 bs3 s9 hn3 pb3 => ?_)
    · obtain ⟨m, hm, r⟩ := paired_get pd8 hb
      refine ⟨laterP t m, by rw [List.getElem?_map, hm]; rfl, fun H' R sm hR => ?_⟩
      exact ⟨_, rfl, _, rfl, b, m, t, rfl, r.same sm, fun H'' x' sm2 _ hx' => hR H'' x' sm2 hx'⟩
    refine ⟨_, rfl, p, _, dx, _, rfl, s9 _ _ hp8, T.cl_Score, T.a_Score_pedals, (by show 5 < 1000; decide), ?_⟩
    rw [pt_Score_pedals]
    have kp10 : Keeps H9 (upd H9 p (.ins T.C_Score dx (fs_Score (.int q.quarter) (.ref n1) (.ref n2) (.ref n3) (.ref ln)))) := Keeps.score (s9 _ _ hp8) (lk_Score_ticks ..)
    have B10 : ∀ b o, H9 b = some o → b ≠ p → upd H9 p (.ins T.C_Score dx (fs_Score (.int q.quarter) (.ref n1) (.ref n2) (.ref n3) (.ref ln))) b = some o := fun b o e hb => by rw [upd_ne hb]; exact e
    have hp10 : upd H9 p (.ins T.C_Score dx (fs_Score (.int q.quarter) (.ref n1) (.ref n2) (.ref n3) (.ref ln))) p = some (.ins T.C_Score dx (fs_Score (.int q.quarter) (.ref n1) (.ref n2) (.ref n3) (.ref ln))) := upd_same
    revert kp10 B10 hp10
    generalize upd H9 p (.ins T.C_Score dx (fs_Score (.int q.quarter) (.ref n1) (.ref n2) (.ref n3) (.ref ln))) = H10
    intro kp10 B10 hp10
    have hn3p : n3 ≠ p := (ne_of_none hp8 nn3).symm
    have hln10 := B10 _ _ (s9 _ _ hln8) (lnp hln)
    have hn110 := B10 _ _ (s9 _ _ hn18) hn1p
    have hn210 := B10 _ _ (s9 _ _ hn28) hn2p
    have hn310 := B10 _ _ hn3 hn3p
    have pn10 : Paired (NoteAt T H10) a4 q.notes := Paired.mapP pn8 fun _ _ h => (h.same s9).keeps kp10
    have pm10 := Paired.mapP pm8 fun _ _ h => (h.same s9).keeps kp10
    have ps10 := Paired.mapP ps8 fun _ _ h => (h.same s9).keeps kp10
    have pd10 := Paired.mapP pb3 fun _ _ h => h.keeps kp10
    have d13 : n1 ≠ n3 := ne_of_none hn18 nn3
    have d23 : n2 ≠ n3 := ne_of_none hn28 nn3
    -- self.notes = [..]
    refine ⟨_, rfl, p, _, dx, _, _, rfl, hp10, T.cl_Score, T.a_Score_notes, lk_Score_notes .., ln, rfl, ⟨_, SqL.of hln10⟩, fun n4 nn4 => ?_⟩
    refine lc_objs (At := NoteAt T) (ms := q.notes.map (laterN t)) (fun h e => h.same e) (fun h e => h.keeps (Keeps.lst e)) nn4 hln10 (by omega) (by rw [List.length_map]; omega) (fun i b hb => ?_) (fun H11 bs4 s11 hn4 pb4 => ?_)
    · obtain ⟨m, hm, r⟩ := paired_get pn10 hb
      refine ⟨laterN t m, by rw [List.getElem?_map, hm]; rfl, fun H' R sm hR => ?_⟩
      exact ⟨_, rfl, _, rfl, b, m, t, rfl, r.same sm, fun H'' x' sm2 _ hx' => hR H'' x' sm2 hx'⟩
    refine ⟨_, rfl, p, _, dx, _, rfl, s11 _ _ hp10, T.cl_Score, T.a_Score_notes, (by show 5 < 1000; decide), ?_⟩
    rw [pt_Score_notes]
    have kp12 : Keeps H11 (upd H11 p (.ins T.C_Score dx (fs_Score (.int q.quarter) (.ref n1) (.ref n2) (.ref n3) (.ref n4)))) := Keeps.score (s11 _ _ hp10) (lk_Score_ticks ..)
    have hn4p : n4 ≠ p := (ne_of_none hp10 nn4).symm
    have d14 : n1 ≠ n4 := ne_of_none hn110 nn4
    have d24 : n2 ≠ n4 := ne_of_none hn210 nn4
    have d34 : n3 ≠ n4 := ne_of_none hn310 nn4
    have back : ∀ b o, H b = some o → b ≠ p → H10 b = some o := fun b o e hb => B10 _ _ (s9 _ _ (B8 _ _ (s7 _ _ (B6 _ _ (s15 _ _ e) hb)) hb)) hb
    have f2 : H n2 = none := by
      cases e : H n2 with
      | none => rfl
      | some o =>
        have := B6 _ _ (s15 _ _ e) hn2p
        rw [nn2] at this
        cases this
    have f3 : H n3 = none := by
      cases e : H n3 with
      | none => rfl
      | some o =>
        have := B8 _ _ (s7 _ _ (B6 _ _ (s15 _ _ e) hn3p)) hn3p
        rw [nn3] at this
        cases this
    have f4 : H n4 = none := by
      cases e : H n4 with
      | none => rfl
      | some o =>
        have := back _ _ e hn4p
        rw [nn4] at this
        cases this
    refine k3 hroom (by omega) _ [n1, n2, n3, n4] ⟨n1, n2, n3, n4, rfl, ?_⟩ ⟨fun b o e hb _ => by rw [upd_ne hb]; exact s11 _ _ (back b o e hb), fun b hb => ?_⟩
    · rw [hmv]
      exact ⟨upd_same, ⟨_, by rw [upd_ne hn1p]; exact s11 _ _ hn110, Paired.mapP pm10 fun _ _ h => (h.same s11).keeps kp12⟩, ⟨_, by rw [upd_ne hn2p]; exact s11 _ _ hn210, Paired.mapP ps10 fun _ _ h => (h.same s11).keeps kp12⟩,
        ⟨_, by rw [upd_ne hn3p]; exact s11 _ _ hn310, Paired.mapP pd10 fun _ _ h => (h.same s11).keeps kp12⟩, ⟨_, by rw [upd_ne hn4p]; exact hn4, Paired.mapP pb4 fun _ _ h => h.keeps kp12⟩, d12, d13, d14, d23, d24, d34⟩
    · simp only [List.mem_cons, List.not_mem_nil, or_false] at hb
      rcases hb with rfl | rfl | rfl | rfl
      · exact .inr n1f
      · exact .inr f2
      · exact .inr f3
      · exact .inr f4
end
end XW
namespace XW
open PySem PySem.Spec PyProof.Rows L2
open Sw70 (Mark Swing Note Piece rat)
open XM (Frac Str4)
/-! ### loops over pairs -/
theorem for_zip {K : PySem.W.Frag} {a b : Addr} {xs ys : List V} {i j n : Nat} {tb : TS} {D : Ends} {σ : L2.St} {H : Hp} (Pv : Nat → L2.St → Hp → Prop) (hn : n ≤ xs.length ∧ n ≤ ys.length ∧ (xs.length ≤ n ∨ ys.length ≤ n)) (h0 : Pv 0 σ H) (hl : ∀ k σ H, k ≤ n → Pv k σ H → SqL K H a xs ∧ SqL K H b ys)
    (hs : ∀ k x y σ H T, xs[k]? = some x → ys[k]? = some y → Pv k σ H → H T = none → tb { D with nx := Pv (k + 1), ct := Pv (k + 1), bk := D.nx } ((σ.set i (some x)).set j (some y)) (upd H T (.tup [x, y]))) (hd : ∀ σ H, Pv n σ H → D.nx σ H) :
    ∃ W : Nat → Nat → L2.St → Hp → Prop, (∃ m, W 0 m σ H) ∧ ∀ k m σ H, W k m σ H →
      ((Itz K a b).stop k H ∧ D.nx σ H) ∨ ((Itz K a b).go k H ∧ ∃ N : L2.St → Hp → Prop, (∀ σ' H', N σ' H' → ∃ m', m' < m ∧ W (k + 1) m' σ' H') ∧ ∀ x H', (Itz K a b).yld k H x H' → gTup K 2 (gCons (gName i) (gCons (gName j) gNil)) x σ H' fun σ2 H2 => tb { D with nx := N, ct := N, bk := D.nx } σ2 H2) := by
  obtain ⟨n1, n2, n3⟩ := hn
  refine ⟨fun k m σ H => m = n - k ∧ k ≤ n ∧ Pv k σ H, ⟨n, by simp, Nat.zero_le _, h0⟩, ?_⟩
  rintro k m σ H ⟨rfl, hi, p⟩
  obtain ⟨q1, q2⟩ := hl k σ H hi p
  by_cases hlt : k < n
  · refine .inr ⟨⟨xs, ys, xs[k], ys[k], q1, q2, List.getElem?_eq_getElem (by omega), List.getElem?_eq_getElem (by omega)⟩, Pv (k + 1), fun σ' H' p' => ⟨n - (k + 1), by omega, rfl, hlt, p'⟩, fun v H' y => ?_⟩
    obtain ⟨T, x, y, rfl, nT, rfl, e1, e2⟩ := y
    exact ⟨T, [x, y], rfl, SqT.of upd_same, rfl, x, [y], rfl, y, [], rfl, rfl, hs k x y σ H T (e1 xs q1) (e2 ys q2) p nT⟩
  · have e : k = n := by omega
    subst e
    exact .inl ⟨⟨xs, ys, q1, q2, n3⟩, hd σ H p⟩
theorem for_enum {K : PySem.W.Frag} {a : Addr} {xs : List V} {i j : Nat} {tb : TS} {D : Ends} {σ : L2.St} {H : Hp} (Pv : Nat → L2.St → Hp → Prop) (h0 : Pv 0 σ H) (hl : ∀ k σ H, k ≤ xs.length → Pv k σ H → SqL K H a xs)
    (hs : ∀ k x σ H T, xs[k]? = some x → Pv k σ H → H T = none → tb { D with nx := Pv (k + 1), ct := Pv (k + 1), bk := D.nx } ((σ.set i (some (.int k))).set j (some x)) (upd H T (.tup [.int k, x]))) (hd : ∀ σ H, Pv xs.length σ H → D.nx σ H) :
    ∃ W : Nat → Nat → L2.St → Hp → Prop, (∃ m, W 0 m σ H) ∧ ∀ k m σ H, W k m σ H →
      ((Ite K a).stop k H ∧ D.nx σ H) ∨ ((Ite K a).go k H ∧ ∃ N : L2.St → Hp → Prop, (∀ σ' H', N σ' H' → ∃ m', m' < m ∧ W (k + 1) m' σ' H') ∧ ∀ x H', (Ite K a).yld k H x H' → gTup K 2 (gCons (gName i) (gCons (gName j) gNil)) x σ H' fun σ2 H2 => tb { D with nx := N, ct := N, bk := D.nx } σ2 H2) := by
  refine ⟨fun k m σ H => m = xs.length - k ∧ k ≤ xs.length ∧ Pv k σ H, ⟨xs.length, by simp, Nat.zero_le _, h0⟩, ?_⟩
  rintro k m σ H ⟨rfl, hi, p⟩
  have q1 := hl k σ H hi p
  by_cases hlt : k < xs.length
  · refine .inr ⟨⟨xs, xs[k], q1, List.getElem?_eq_getElem hlt⟩, Pv (k + 1), fun σ' H' p' => ⟨xs.length - (k + 1), by omega, rfl, hlt, p'⟩, fun v H' y => ?_⟩
    obtain ⟨T, x, rfl, nT, rfl, e1⟩ := y
    exact ⟨T, [.int k, x], rfl, SqT.of upd_same, rfl, .int k, [x], rfl, x, [], rfl, rfl, hs k x σ H T (e1 xs q1) p nT⟩
  · have e : k = xs.length := by omega
    subst e
    exact .inl ⟨⟨xs, q1, Nat.le_refl _⟩, hd σ H p⟩
theorem cut_tail (xs : List V) : cutV xs (some 1) none = xs.drop 1 := by
  unfold cutV
  cases xs with
  | nil => rfl
  | cons x r =>
    have e1 : HT.sIx (x :: r).length 0 (some 1) = 1 := by
      unfold HT.sIx
      simp
    have e2 : HT.sIx (x :: r).length (x :: r).length none = (x :: r).length := by
      unfold HT.sIx
      simp
    rw [e1, e2]
    simp
section
variable {P : Program} {w : World} {K : PySem.W.Frag} {mg : Str → Option Value} {base : Heap}
def StretchAt (T : Txt K mg) (H : Hp) (a : Addr) (s : Str4) : Prop := ∃ dx, H a = some (.ins T.C_Stretch dx (fs_Stretch (.int s.tick) (.int s.len) (.int s.rise) (.int s.over) (.int s.passed)))
theorem StretchAt.same {T : Txt K mg} {H H' : Hp} {a : Addr} {m : Str4} (h : StretchAt T H a m) (e : Same H H') : StretchAt T H' a m := let ⟨dx, h⟩ := h; ⟨dx, e _ _ h⟩
theorem StretchAt.lst {T : Txt K mg} {H : Hp} {a l : Addr} {m : Str4} {xs ys : List V} (h : StretchAt T H a m) (e : H l = some (.lst xs)) : StretchAt T (upd H l (.lst ys)) a m := by
  obtain ⟨dx, h⟩ := h
  exact ⟨dx, by rw [upd_ne (ne_of h e (by intro z; cases z))]; exact h⟩
def spStretches (T : Txt K mg) : Sp := fun vs H Q _ => ∃ (l : Addr) (as : List Addr) (ms : List Mark), vs = [.ref l] ∧ H l = some (.lst (as.map V.ref)) ∧ Paired (MarkAt T H) as ms ∧ ms ≠ [] ∧ ms.length ≤ 50 ∧ (∀ m ∈ ms, XM.MkOk m) ∧
  ∀ (H' : Hp) (r : Addr) (bs : List Addr), Same H H' → H' r = some (.lst (bs.map V.ref)) → Paired (StretchAt T H') bs (XM.strs4 0 ms) → Q (.ref r) H'
theorem ok_stretches_of (T : Txt K mg) : FnOk P w K mg base CX0 3 T.A_stretches_of T.D_stretches_of ["marks"] (spStretches T) := by
  refine T.f_stretches_of.ok sc_stretches_of (fun vs H Q E h => ?_) (fun cdv A outer s H vs Q E hr h => ?_)
  · obtain ⟨l, as, ms, rfl, _⟩ := h
    rfl
  · obtain ⟨l, as, ms, rfl, hl, pm, hne, h50, hok, k⟩ := h
    have hlen := Paired.length pm
    have hpos : 0 < ms.length := List.length_pos_iff.mpr hne
    refine ⟨_, (pss_cons (ps_set (i := 1) sc_stretches_of.nd rfl (by first | exact Or.inl rfl | exact Or.inr rfl) (pe_lst pa_nil)) (pss_cons (ps_set (i := 2) sc_stretches_of.nd rfl (by first | exact Or.inl rfl | exact Or.inr rfl) pe_int) (pss_cons (ps_for PassesOwn.never rfl (pi_zip rfl T.n_zip (pa_cons (pv 0) (pa_cons (pe_slice sl_list (pv 0) (po_some pe_int) po_none) pa_nil))) (pg_tup rfl (pgs_cons (pg_name (i := 3) sc_stretches_of.nd rfl (Or.inl rfl)) (pgs_cons (pg_name (i := 4) sc_stretches_of.nd rfl (Or.inl rfl)) pgs_nil))) (pss_cons (ps_set (i := 5) sc_stretches_of.nd rfl (by first | exact Or.inl rfl | exact Or.inr rfl) (pe_op op_sub (pe_fld (pv 4) rfl) (pe_fld (pv 3) rfl))) (pss_cons (ps_set (i := 6) sc_stretches_of.nd rfl (by first | exact Or.inl rfl | exact Or.inr rfl) (pe_ifExp (pt_cmpR op_eq (pe_fld (pv 3) rfl) pe_int (nomark _)) (pe_op op_sub (pe_fld (pv 4) rfl) (pe_fld (pv 3) rfl)) pe_int)) (pss_cons (ps_expr (pe_bm PySem.F.plainAttrs_list PySem.F.slot_list_append PySem.F.type_list_append mt_append (pv 1) (pa_cons (pe_make T.k_Stretch (ok_Stretch_init T) (hr.mono (by decide)) rfl T.g_Stretch T.b_Stretch_init .nil pass0 (pa_cons (pe_fld (pv 3) rfl) (pa_cons (pe_fld (pv 3) rfl) (pa_cons (pv 6) (pa_cons (pv 5) (pa_cons (pv 2) pa_nil)))))) pa_nil))) (pss_one (ps_set (i := 2) sc_stretches_of.nd rfl (by first | exact Or.inl rfl | exact Or.inr rfl) (pe_op op_add (pv 2) (pe_op op_mul (pe_op op_add (pe_op op_mul pe_int (pe_fld (pv 3) rfl)) (pv 6)) (pv 5))))))))) (pss_cons (ps_expr (pe_bm PySem.F.plainAttrs_list PySem.F.slot_list_append PySem.F.type_list_append mt_append (pv 1) (pa_cons (pe_make T.k_Stretch (ok_Stretch_init T) (hr.mono (by decide)) rfl T.g_Stretch T.b_Stretch_init .nil pass0 (pa_cons (pe_fld (pe_ix ix_list (pv 0) (pe_un un_neg pe_int) (fun _ _ => rfl)) rfl) (pa_cons (pe_fld (pe_ix ix_list (pv 0) (pe_un un_neg pe_int) (fun _ _ => rfl)) rfl) (pa_cons pe_int (pa_cons pe_int (pa_cons (pv 2) pa_nil)))))) pa_nil))) (pss_one (ps_ret (pv 1))))))), ?_⟩
    refine ⟨Nat.zero_le _, fun S nS => ?_⟩
    refine ⟨_, rfl, _, rfl, _, rfl, l, _, rfl, SqL.of (by rw [upd_ne (ne_of_none hl nS)]; exact hl), fun c nc => ?_⟩
    rw [cut_tail]
    have s1 : Same H (upd H S (.lst [])) := Same.new nS
    have s2 : Same (upd H S (.lst [])) (upd (upd H S (.lst [])) c (.lst ((as.map V.ref).drop 1))) := Same.new nc
    have hS2 := s2 _ _ (upd_same (H := H) (a := S) (o := .lst []))
    have hc2 : upd (upd H S (.lst [])) c (.lst ((as.map V.ref).drop 1)) c = some (.lst ((as.map V.ref).drop 1)) := upd_same
    have s3 := s1.trans s2
    revert hS2 hc2 s3
    generalize upd (upd H S (.lst [])) c (.lst ((as.map V.ref).drop 1)) = H2
    intro hS2 hc2 s3
    have nSc : S ≠ c := by
      intro e
      subst e
      rw [hS2] at hc2
      have := Option.some.inj hc2
      rw [upd_same] at nc
      cases nc
    refine ⟨l, c, _, _, rfl, SqL.of (s3 _ _ hl), SqL.of hc2, for_zip (K := K) (n := ms.length - 1)
      (fun i σ H' => ∃ (bs : List Addr) (pre : List Str4) (passed : Int) (v3 v4 v5 v6 : Option V), σ = [some (.ref l), some (.ref S), some (.int passed), v3, v4, v5, v6] ∧ Same H H' ∧ H' c = some (.lst ((as.map V.ref).drop 1)) ∧ H' S = some (.lst (bs.map V.ref)) ∧
        Paired (StretchAt T H') bs pre ∧ pre.length = i ∧ XM.strs4 0 ms = pre ++ XM.strs4 passed (ms.drop i)) (by rw [List.length_drop, List.length_map]; omega) ⟨[], [], 0, none, none, none, none, rfl, s3, hc2, hS2, .nil, rfl, rfl⟩
      (fun i σ H' _ ⟨_, _, _, _, _, _, _, _, e, hc, _⟩ => ⟨SqL.of (e _ _ hl), SqL.of hc⟩) ?_ ?_⟩
    · rintro i x y σ H' Tt hx hy ⟨bs, pre, passed, v3, v4, v5, v6, rfl, sm, hc, hS, pb, hpl, hst⟩ nT
      obtain ⟨a, ha, rfl⟩ := refs_at hx
      rw [List.getElem?_drop] at hy
      obtain ⟨b, hb, rfl⟩ := refs_at (show (as.map V.ref)[i + 1]? = some y by rw [Nat.add_comm]; exact hy)
      obtain ⟨m, hm, da, hda⟩ := paired_get pm ha
      obtain ⟨n, hn, db, hdb⟩ := paired_get pm hb
      have sT : Same H' (upd H' Tt (.tup [.ref a, .ref b])) := Same.new nT
      have hS' := sT _ _ hS
      have hc' := sT _ _ hc
      have s4 := sm.trans sT
      have pb' := Paired.mapP pb fun _ _ h => h.same sT
      revert sT hS' hc' s4 pb'
      generalize upd H' Tt (.tup [.ref a, .ref b]) = H3
      intro sT hS' hc' s4 pb'
      have om := hok m (List.mem_of_getElem? hm)
      have on := hok n (List.mem_of_getElem? hn)
      have hr := XM.rise_in om on
      have q1 := om.q1
      have q2 := om.q2
      have t1 := om.t
      have t2 := on.t
      -- over, rise
      refine ⟨_, rfl, b, _, db, _, _, rfl, s4 _ _ hdb, T.cl_Mark, T.a_Mark_tick, lk_Mark_tick .., _, rfl, a, _, da, _, _, rfl, s4 _ _ hda, T.cl_Mark, T.a_Mark_tick, lk_Mark_tick .., _, _, rfl, rfl,
        _, rfl, a, _, da, _, _, rfl, s4 _ _ hda, T.cl_Mark, T.a_Mark_even, lk_Mark_even .., rfl, _, rfl, ?_⟩
      have key : ∀ {Q' : VK} {σ' : L2.St}, σ'[3]? = some (some (V.ref a)) → σ'[4]? = some (some (V.ref b)) → Q' (.int (XM.rise m n)) H3 →
          (if decide (V.int (bi m.slope) = V.int 1) = true then (tOp (rI0 fun i j => .int (i - j)) (tFld K (tVar 4) "length") (tFld K (tVar 3) "length")) σ' H3 Q' else tC (.int 0) σ' H3 Q') := fun {Q' σ'} e3 e4 hq => by
        cases hs : m.slope with
        | true =>
          rw [show XM.rise m n = (n.quarter : Int) - m.quarter by unfold XM.rise; rw [if_pos hs]] at hq
          exact iteE (fun _ => ⟨_, e4, b, _, db, _, _, rfl, s4 _ _ hdb, T.cl_Mark, T.a_Mark_length, lk_Mark_length .., _, e3, a, _, da, _, _, rfl, s4 _ _ hda, T.cl_Mark, T.a_Mark_length, lk_Mark_length .., _, _, rfl, rfl, hq⟩) (fun h => absurd rfl h)
        | false =>
          rw [show XM.rise m n = 0 by unfold XM.rise; rw [hs, if_neg Bool.false_ne_true]] at hq
          exact iteE (fun h => absurd h (by decide)) (fun _ => hq)
      refine key rfl rfl ?_
      -- stretches.append(Stretch(..))
      refine ⟨_, rfl, .inl ⟨rfl, _, SqL.of hS'⟩, _, rfl, a, _, da, _, _, rfl, s4 _ _ hda, T.cl_Mark, T.a_Mark_tick, lk_Mark_tick .., _, rfl, a, _, da, _, _, rfl, s4 _ _ hda, T.cl_Mark, T.a_Mark_length, lk_Mark_length .., _, rfl, _, rfl, _, rfl, ?_⟩
      intro x dx' nx nd ne
      refine ⟨x, dx', _, _, _, _, _, rfl, upd_same, rfl, ?_⟩
      rw [upd_upd]
      have s5 : Same H3 (upd (upd H3 dx' (.own x)) x (.ins T.C_Stretch dx' (fs_Stretch (V.int m.tick) (V.int m.quarter) (V.int (XM.rise m n)) (V.int ((n.tick : Int) - m.tick)) (V.int passed)))) := Same.made2 nx nd
      have hx5 : StretchAt T (upd (upd H3 dx' (.own x)) x (.ins T.C_Stretch dx' (fs_Stretch (V.int m.tick) (V.int m.quarter) (V.int (XM.rise m n)) (V.int ((n.tick : Int) - m.tick)) (V.int passed)))) x ⟨m.tick, m.quarter, XM.rise m n, (n.tick : Int) - m.tick, passed⟩ := ⟨dx', upd_same⟩
      revert s5 hx5
      generalize upd (upd H3 dx' (.own x)) x (.ins T.C_Stretch dx' (fs_Stretch (V.int m.tick) (V.int m.quarter) (V.int (XM.rise m n)) (V.int ((n.tick : Int) - m.tick)) (V.int passed))) = H4
      intro s5 hx5
      have hS4 := s5 _ _ hS'
      have hbl := Paired.length pb
      have hil : i + 1 < ms.length := (List.getElem?_eq_some_iff.mp hn).1
      refine ⟨S, _, _, rfl, rfl, hS4, (by rw [List.length_map]; exact small1000 (by omega)), ?_⟩
      have hda4 : upd H4 S (.lst (bs.map V.ref ++ [V.ref x])) a = some (.ins T.C_Mark da (fs_Mark (.int m.tick) (.int m.quarter) (.int (bi m.slope)))) := by
        rw [upd_ne (ne_of (s5 _ _ (s4 _ _ hda)) hS4 (by intro z; cases z))]
        exact s5 _ _ (s4 _ _ hda)
      refine ⟨_, rfl, _, rfl, a, _, da, _, _, rfl, hda4, T.cl_Mark, T.a_Mark_length, lk_Mark_length .., _, _, rfl, rfl, mulL (by decide) (by decide), _, rfl, _, _, rfl, rfl, _, rfl, _, _, rfl, rfl, mulL (by omega) (by omega), _, _, rfl, rfl, ?_⟩
      · refine ⟨bs ++ [x], pre ++ [⟨m.tick, m.quarter, XM.rise m n, (n.tick : Int) - m.tick, passed⟩], _, _, _, _, _, rfl, fun c' o e => ?_, ?_, ?_, ?_, ?_, ?_⟩
        · rw [upd_ne (ne_of_none e nS)]
          exact s5 _ _ (s4 _ _ e)
        · rw [upd_ne (Ne.symm nSc)]
          exact s5 _ _ hc'
        · rw [upd_same, List.map_append]
          rfl
        · exact Paired.append' (Paired.mapP pb' fun _ _ h => (h.same s5).lst hS4) (.cons (hx5.lst hS4) .nil)
        · rw [List.length_append, hpl]
          rfl
        · rw [hst, XM.strs_turn hm hn, List.append_assoc]
          rfl
    · rintro σ H' ⟨bs, pre, passed, v3, v4, v5, v6, rfl, sm, hc, hS, pb, hpl, hst⟩
      obtain ⟨m, hm⟩ : ∃ m, ms[ms.length - 1]? = some m := ⟨_, List.getElem?_eq_getElem (by omega)⟩
      obtain ⟨a, ha, da, hda⟩ := paired_back pm hm
      have hat : atI (as.map V.ref) (-1) = some (V.ref a) := by
        unfold atI ixN
        rw [if_neg (by decide), if_pos (by rw [List.length_map]; omega), List.length_map]
        show (as.map V.ref)[((-1 : Int) + as.length).toNat]? = _
        rw [show ((-1 : Int) + as.length).toNat = ms.length - 1 by omega, List.getElem?_map, ha]
        rfl
      have hl' := sm _ _ hl
      refine ⟨_, rfl, .inl ⟨rfl, _, SqL.of hS⟩, _, rfl, _, rfl, l, _, _, _, rfl, rfl, SqL.of hl', hat, a, _, da, _, _, rfl, sm _ _ hda, T.cl_Mark, T.a_Mark_tick, lk_Mark_tick ..,
        _, rfl, _, rfl, l, _, _, _, rfl, rfl, SqL.of hl', hat, a, _, da, _, _, rfl, sm _ _ hda, T.cl_Mark, T.a_Mark_length, lk_Mark_length .., _, rfl, ?_⟩
      intro x dx' nx nd ne
      refine ⟨x, dx', _, _, _, _, _, rfl, upd_same, rfl, ?_⟩
      rw [upd_upd]
      have s5 : Same H' (upd (upd H' dx' (.own x)) x (.ins T.C_Stretch dx' (fs_Stretch (V.int m.tick) (V.int m.quarter) (V.int 0) (V.int 1) (V.int passed)))) := Same.made2 nx nd
      have hx5 : StretchAt T (upd (upd H' dx' (.own x)) x (.ins T.C_Stretch dx' (fs_Stretch (V.int m.tick) (V.int m.quarter) (V.int 0) (V.int 1) (V.int passed)))) x ⟨m.tick, m.quarter, 0, 1, passed⟩ := ⟨dx', upd_same⟩
      revert s5 hx5
      generalize upd (upd H' dx' (.own x)) x (.ins T.C_Stretch dx' (fs_Stretch (V.int m.tick) (V.int m.quarter) (V.int 0) (V.int 1) (V.int passed))) = H4
      intro s5 hx5
      have hS4 := s5 _ _ hS
      have hbl := Paired.length pb
      refine ⟨S, _, _, rfl, rfl, hS4, (by rw [List.length_map]; exact small1000 (by omega)), ?_⟩
      refine ⟨_, rfl, k _ S (bs ++ [x]) (fun c' o e => ?_) ?_ ?_⟩
      · rw [upd_ne (ne_of_none e nS)]
        exact s5 _ _ (sm _ _ e)
      · rw [upd_same, List.map_append]
        rfl
      · rw [hst, XM.strs_last hm (by omega)]
        exact Paired.append' (Paired.mapP pb fun _ _ h => (h.same s5).lst hS4) (.cons (hx5.lst hS4) .nil)
end
end XW
namespace XW
open PySem PySem.Spec PyProof.Rows L2
open Sw70 (Mark Swing Note Piece rat)
open XM (Frac Str4)
section
variable {P : Program} {w : World} {K : PySem.W.Frag} {mg : Str → Option Value} {base : Heap}
def spWithin (K : PySem.W.Frag) : Sp := fun vs H Q _ => ∃ (a b : Addr) (f l : Nat) (u d : Int), vs = [.ref a, .ref b] ∧ SpanAt K H a f l ∧ H b = some (.tup [.int u, .int d]) ∧ 0 < d ∧ d ≤ 100 ∧ Q (.bl (decide ((f : Int) * d ≤ u) && decide (u < (l : Int) * d))) H
theorem ok_is_within (T : Txt K mg) : FnOk P w K mg base CX0 1 T.A_is_within T.D_is_within ["span", "place"] (spWithin K) := by
  refine T.f_is_within.ok sc_is_within (fun vs H Q E h => ?_) (fun cdv A outer s H vs Q E hr h => ?_)
  · obtain ⟨a, b, f, l, u, d, rfl, _⟩ := h
    rfl
  · obtain ⟨a, b, f, l, u, d, rfl, ⟨C, dx, fs, hs, c, n1, n2, l1, l2⟩, hb, h0, h1, k⟩ := h
    refine ⟨_, (pss_one (ps_ret (pe_chain op_le op_lt (pe_op op_mul (pe_fld (pv 0) rfl) (pe_ix ix_tup (pv 1) pe_int (fun _ _ => rfl))) (pe_ix ix_tup (pv 1) pe_int (fun _ _ => rfl)) (pe_op op_mul (pe_fld (pv 0) rfl) (pe_ix ix_tup (pv 1) pe_int (fun _ _ => rfl)))))), ?_⟩
    refine ⟨_, rfl, a, C, dx, fs, _, rfl, hs, c, n1, l1, _, rfl, b, _, _, _, rfl, rfl, SqT.of hb, rfl, _, _, rfl, rfl, mulR (by omega) (by omega), _, rfl, b, _, _, _, rfl, rfl, SqT.of hb, rfl, _, _, rfl, rfl, _, rfl, iteD (fun h2 => ?_) (fun h2 => ?_)⟩
    · refine ⟨_, rfl, a, C, dx, fs, _, rfl, hs, c, n2, l2, _, rfl, b, _, _, _, rfl, rfl, SqT.of hb, rfl, _, _, rfl, rfl, mulR (by omega) (by omega), _, _, rfl, rfl, ?_⟩
      refine qB k ?_
      rw [decide_eq_true h2, Bool.true_and]
    · refine qB k ?_
      rw [decide_eq_false h2, Bool.false_and]
def spSwungBy (T : Txt K mg) : Sp := fun vs H Q _ => ∃ (a b : Addr) (s : Swing) (u d : Int), vs = [.ref a, .ref b] ∧ SwingAt T H a s ∧ XM.SwOk s ∧ H b = some (.tup [.int u, .int d]) ∧ 0 < d ∧ d ≤ 100 ∧ 0 ≤ u ∧ u ≤ 1000000 * d ∧
  ∀ r, H r = none → Q (.ref r) (upd H r (.tup [.int ((u - XM.behindOf s u d) * ((s.a : Int) + s.b) + XM.reachedOf s u d), .int (d * ((s.a : Int) + s.b))]))
theorem behind_in {s : Swing} (o : XM.SwOk s) {u d : Int} (h0 : 0 < d) : 0 ≤ XM.behindOf s u d ∧ XM.behindOf s u d < (s.pair : Int) * d := by
  have hp : 0 < (s.pair : Int) * d := Int.mul_pos (by have := o.pair; omega) h0
  exact ⟨Int.emod_nonneg _ (by omega), Int.emod_lt_of_pos _ hp⟩
theorem ok_swung_by (T : Txt K mg) : FnOk P w K mg base CX0 1 T.A_swung_by T.D_swung_by ["swing", "place"] (spSwungBy T) := by
  refine T.f_swung_by.ok sc_swung_by (fun vs H Q E h => ?_) (fun cdv A outer s H vs Q E hr h => ?_)
  · obtain ⟨a, b, s', u, d, rfl, _⟩ := h
    rfl
  · obtain ⟨a, b, s', u, d, rfl, ⟨dx, hs⟩, o, hb, h0, h1, hu, hu2, k⟩ := h
    have hp0 : 0 < (s'.pair : Int) * d := Int.mul_pos (by have := o.pair; omega) h0
    obtain ⟨be0, be1⟩ := behind_in (u := u) o h0
    have a1 := o.a1
    have a2 := o.a2
    have b1 := o.b1
    have b2 := o.b2
    refine ⟨_, (pss_cons (ps_set (i := 2) sc_swung_by.nd rfl (by first | exact Or.inl rfl | exact Or.inr rfl) (pe_ix ix_tup (pv 1) pe_int (fun _ _ => rfl))) (pss_cons (ps_set (i := 3) sc_swung_by.nd rfl (by first | exact Or.inl rfl | exact Or.inr rfl) (pe_ix ix_tup (pv 1) pe_int (fun _ _ => rfl))) (pss_cons (ps_set (i := 4) sc_swung_by.nd rfl (by first | exact Or.inl rfl | exact Or.inr rfl) (pe_op op_mul (pe_fld (pv 0) rfl) (pv 3))) (pss_cons (ps_set (i := 5) sc_swung_by.nd rfl (by first | exact Or.inl rfl | exact Or.inr rfl) (pe_op op_mod (pe_op op_sub (pv 2) (pe_op op_mul (pe_fld (pv 0) rfl) (pv 3))) (pv 4))) (pss_cons (ps_set (i := 6) sc_swung_by.nd rfl (by first | exact Or.inl rfl | exact Or.inr rfl) (pe_op op_add (pe_fld (pv 0) rfl) (pe_fld (pv 0) rfl))) (pss_cons (ps_if (pt_cmpR op_le (pe_op op_mul pe_int (pv 5)) (pv 4) (nomark _)) (pss_one (ps_set (i := 7) sc_swung_by.nd rfl (by first | exact Or.inl rfl | exact Or.inr rfl) (pe_op op_mul (pe_op op_mul pe_int (pv 5)) (pe_fld (pv 0) rfl)))) (pss_one (ps_set (i := 7) sc_swung_by.nd rfl (by first | exact Or.inl rfl | exact Or.inr rfl) (pe_op op_add (pe_op op_mul (pv 4) (pe_fld (pv 0) rfl)) (pe_op op_mul (pe_op op_sub (pe_op op_mul pe_int (pv 5)) (pv 4)) (pe_fld (pv 0) rfl)))))) (pss_one (ps_ret (pe_tup (pa_cons (pe_op op_add (pe_op op_mul (pe_op op_sub (pv 2) (pv 5)) (pv 6)) (pv 7)) (pa_cons (pe_op op_mul (pv 3) (pv 6)) pa_nil))))))))))), ?_⟩
    refine ⟨_, rfl, b, _, _, _, rfl, rfl, SqT.of hb, rfl, _, rfl, b, _, _, _, rfl, rfl, SqT.of hb, rfl,
      _, rfl, a, _, dx, _, _, rfl, hs, T.cl_Swing, T.a_Swing_pair, lk_Swing_pair .., _, rfl, _, _, rfl, rfl, mulR (by omega) (by omega),
      _, rfl, _, rfl, a, _, dx, _, _, rfl, hs, T.cl_Swing, T.a_Swing_first, lk_Swing_first .., _, rfl, _, _, rfl, rfl, mulR (by omega) (by omega), _, _, rfl, rfl, _, rfl, _, _, rfl, rfl, hp0,
      _, rfl, a, _, dx, _, _, rfl, hs, T.cl_Swing, T.a_Swing_a, lk_Swing_a .., _, rfl, a, _, dx, _, _, rfl, hs, T.cl_Swing, T.a_Swing_b, lk_Swing_b .., _, _, rfl, rfl,
      _, rfl, _, _, rfl, rfl, mulL (by decide) (by decide), _, rfl, _, _, rfl, rfl, _, rfl, iteD (fun h2 => ?_) (fun h2 => ?_)⟩
    · have e : XM.reachedOf s' u d = 2 * XM.behindOf s' u d * s'.a := if_pos h2
      refine ⟨_, rfl, _, _, rfl, rfl, mulL (by decide) (by decide), _, rfl, a, _, dx, _, _, rfl, hs, T.cl_Swing, T.a_Swing_a, lk_Swing_a .., _, _, rfl, rfl, mulR (by omega) (by omega),
        _, rfl, _, rfl, _, _, rfl, rfl, _, rfl, _, _, rfl, rfl, mulR (by omega) (by omega), _, rfl, _, _, rfl, rfl, _, rfl, _, rfl, _, _, rfl, rfl, mulR (by omega) (by omega), (by show 2 ≤ sizeLine; decide), ?_⟩
      rw [e] at k
      exact k
    · have e : XM.reachedOf s' u d = (s'.pair : Int) * d * s'.a + (2 * XM.behindOf s' u d - (s'.pair : Int) * d) * s'.b := if_neg h2
      refine ⟨_, rfl, _, rfl, a, _, dx, _, _, rfl, hs, T.cl_Swing, T.a_Swing_a, lk_Swing_a .., _, _, rfl, rfl, mulR (by omega) (by omega),
        _, rfl, _, _, rfl, rfl, mulL (by decide) (by decide), _, rfl, _, _, rfl, rfl, _, rfl, a, _, dx, _, _, rfl, hs, T.cl_Swing, T.a_Swing_b, lk_Swing_b .., _, _, rfl, rfl, mulR (by omega) (by omega), _, _, rfl, rfl,
        _, rfl, _, rfl, _, _, rfl, rfl, _, rfl, _, _, rfl, rfl, mulR (by omega) (by omega), _, rfl, _, _, rfl, rfl, _, rfl, _, rfl, _, _, rfl, rfl, mulR (by omega) (by omega), (by show 2 ≤ sizeLine; decide), ?_⟩
      rw [e] at k
      exact k
/-! ### Tempo -/
structure TempoAt (T : Txt K mg) (H : Hp) (t : Addr) (q : Piece) : Prop where
  ex : ∃ (dx lt ls : Addr) (bs as : List Addr), H t = some (.ins T.C_Tempo dx (fs_Tempo (.int q.quarter) (.ref lt) (.ref ls))) ∧ H lt = some (.lst (bs.map V.ref)) ∧ Paired (StretchAt T H) bs (XM.strs4 0 q.marks) ∧ H ls = some (.lst (as.map V.ref)) ∧ Paired (SwingAt T H) as q.swings
theorem TempoAt.same {T : Txt K mg} {H H' : Hp} {t : Addr} {q : Piece} (h : TempoAt T H t q) (e : Same H H') : TempoAt T H' t q := by
  obtain ⟨dx, lt, ls, bs, as, h1, h2, h3, h4, h5⟩ := h.ex
  exact ⟨dx, lt, ls, bs, as, e _ _ h1, e _ _ h2, Paired.mapP h3 fun _ _ h => h.same e, e _ _ h4, Paired.mapP h5 fun _ _ h => h.same e⟩
def spTempoI (T : Txt K mg) : Sp := fun vs H Q _ => ∃ (x dxt p dx : Addr) (L : List Addr) (q : Piece), vs = [.ref x, .ref p] ∧ H x = some (.ins T.C_Tempo dxt []) ∧ ScoreAt T H p dx L q ∧ XM.POk q ∧
  ∀ H' : Hp, TempoAt T H' x q → (∀ b o, H b = some o → b ≠ x → H' b = some o) → Q .non H'
theorem ok_Tempo_init (T : Txt K mg) : FnOk P w K mg base CX0 4 T.A_Tempo_init T.D_Tempo_init ["self", "score"] (spTempoI T) := by
  refine T.f_Tempo_init.ok sc_Tempo_init (fun vs H Q E h => ?_) (fun cdv A outer s H vs Q E hr h => ?_)
  · obtain ⟨x, dxt, p, dx, L, q, rfl, _⟩ := h
    rfl
  · obtain ⟨x, dxt, p, dx, L, q, rfl, hx, ⟨lm, ls, lp', ln, rfl, S⟩, ok, k⟩ := h
    obtain ⟨a1, hlm, pm⟩ := S.m
    obtain ⟨a2, hls, ps⟩ := S.s
    have hfs : ∀ {a C dx' : Addr} {fs : List (Str × V)} {f : Str} {v : V}, H a = some (.ins C dx' fs) → fs.lookup f = some v → a ≠ x := fun h l e => by
      subst e
      rw [hx] at h
      have h := Option.some.inj h
      injection h with _ _ h3
      rw [← h3] at l
      cases l
    have hpx : p ≠ x := hfs S.obj (lk_Score_ticks ..)
    have hne : q.marks ≠ [] := by
      obtain ⟨m, l, e, _⟩ := ok.m0
      rw [e]
      simp
    refine ⟨_, (pss_cons (ps_fld (pv 0) (pe_fld (pv 1) rfl) rfl) (pss_cons (ps_fld (pv 0) (pe_call (ok_stretches_of T) (hr.mono (by decide)) rfl T.g_stretches_of T.f_stretches_of.kp T.b_stretches_of .nil pass0 (pa_cons (pe_fld (pv 1) rfl) pa_nil)) rfl) (pss_one (ps_fld (pv 0) (pe_fld (pv 1) rfl) rfl)))), ?_⟩
    refine ⟨_, rfl, p, _, dx, _, _, rfl, S.obj, T.cl_Score, T.a_Score_ticks, lk_Score_ticks .., _, rfl, x, _, dxt, _, rfl, hx, T.cl_Tempo, T.a_Tempo_ticks, (by decide), ?_⟩
    have s1 : ∀ b o, H b = some o → b ≠ x → upd H x (.ins T.C_Tempo dxt (putF "ticks" (V.int q.quarter) [])) b = some o := fun b o e hb => by rw [upd_ne hb]; exact e
    have hx1 : upd H x (.ins T.C_Tempo dxt (putF "ticks" (V.int q.quarter) [])) x = some (.ins T.C_Tempo dxt (putF "ticks" (V.int q.quarter) [])) := upd_same
    revert s1 hx1
    generalize upd H x (.ins T.C_Tempo dxt (putF "ticks" (V.int q.quarter) [])) = H1
    intro s1 hx1
    have lx : ∀ {l : Addr} {xs : List V}, H l = some (.lst xs) → l ≠ x := fun h => ne_of h hx (by intro z; cases z)
    have pm1 : Paired (MarkAt T H1) a1 q.marks := Paired.mapP pm fun _ _ h => let ⟨d, e⟩ := h; ⟨d, s1 _ _ e (hfs e (lk_Mark_tick ..))⟩
    have ps1 : Paired (SwingAt T H1) a2 q.swings := Paired.mapP ps fun _ _ h => let ⟨d, e⟩ := h; ⟨d, s1 _ _ e (hfs e (lk_Swing_first ..))⟩
    refine ⟨_, rfl, p, _, dx, _, _, rfl, s1 _ _ S.obj hpx, T.cl_Score, T.a_Score_marks, lk_Score_marks .., lm, a1, q.marks, rfl, s1 _ _ hlm (lx hlm), pm1, hne, ok.ml, ok.mok, fun H2 r bs s2 hr' pb => ?_⟩
    refine ⟨_, rfl, x, _, dxt, _, rfl, s2 _ _ hx1, T.cl_Tempo, T.a_Tempo_stretches, Nat.lt_of_le_of_lt (lp (Nat.le_refl 0)) (by decide), ?_⟩
    have hx2 := s2 _ _ hx1
    have rx : r ≠ x := ne_of hr' hx2 (by intro z; cases z)
    refine ⟨_, rfl, p, _, dx, _, _, rfl, (by rw [upd_ne hpx]; exact s2 _ _ (s1 _ _ S.obj hpx)), T.cl_Score, T.a_Score_swings, lk_Score_swings .., _, rfl, x, _, dxt, _, rfl, upd_same, T.cl_Tempo, T.a_Tempo_swings, Nat.lt_of_le_of_lt (lp (lp (Nat.le_refl 0))) (by decide), ?_⟩
    rw [upd_upd, mk_Tempo]
    have fx : ∀ {a C dx' : Addr} {fs : List (Str × V)} {f : Str} {v : V}, H2 a = some (.ins C dx' fs) → fs.lookup f = some v → (putF "ticks" (V.int q.quarter) []).lookup f = none → a ≠ x := fun h l n e => by
      subst e
      rw [hx2] at h
      have h := Option.some.inj h
      injection h with _ _ h3
      rw [← h3, n] at l
      cases l
    refine k _ ⟨dxt, r, ls, bs, a2, upd_same, by rw [upd_ne rx]; exact hr', Paired.mapP pb fun _ _ h => ?_, by rw [upd_ne (lx hls)]; exact s2 _ _ (s1 _ _ hls (lx hls)), Paired.mapP ps1 fun _ _ h => ?_⟩ (fun b o e hb => by rw [upd_ne hb]; exact s2 _ _ (s1 _ _ e hb))
    · obtain ⟨d, e⟩ := h
      exact ⟨d, by rw [upd_ne (fx e (lk_Stretch_tick ..) (by rw [lookup_putF, if_neg (by decide +kernel)]; rfl))]; exact e⟩
    · obtain ⟨d, e⟩ := h
      exact ⟨d, by rw [upd_ne (fx (s2 _ _ e) (lk_Swing_first ..) (by rw [lookup_putF, if_neg (by decide +kernel)]; rfl))]; exact s2 _ _ e⟩
def spSwung (T : Txt K mg) : Sp := fun vs H Q _ => ∃ (t a : Addr) (q : Piece) (x : Rat) (u l : Int), vs = [.ref t, .ref a] ∧ TempoAt T H t q ∧ XM.SwsOk q.swings ∧ H a = some (.tup [.int u, .int l]) ∧ Frac x u l ∧ l ≤ 100 ∧ 0 ≤ x ∧ x ≤ 1000000 ∧
  ∀ (H' : Hp) (r : Addr) (u' l' : Int), Same H H' → H' r = some (.tup [.int u', .int l']) → Frac (Sw70.swung q.swings x) u' l' → l' ≤ 4000 → Q (.ref r) H'
theorem find_snoc {α : Type} (p : α → Bool) : ∀ {l : List α} {i : Nat} {s : α}, l[i]? = some s → (∀ (j : Nat) (t : α), j < i → l[j]? = some t → p t = false) → p s = true → l.find? p = some s
  | [], i, s, h, _, _ => by simp at h
  | a :: l, 0, s, h, _, hp => by
    have e := Option.some.inj h
    subst e
    rw [List.find?_cons, hp]
  | a :: l, i + 1, s, h, hb, hp => by
    rw [List.find?_cons, hb 0 a (by omega) rfl]
    exact find_snoc p (l := l) (i := i) h (fun j t hj ht => hb (j + 1) t (by omega) ht) hp
theorem find_no {α : Type} (p : α → Bool) {l : List α} (h : ∀ (j : Nat) (t : α), j < l.length → l[j]? = some t → p t = false) : l.find? p = none := by
  rw [List.find?_eq_none]
  intro t ht
  obtain ⟨j, hj⟩ := List.getElem?_of_mem ht
  rw [h j t (List.getElem?_eq_some_iff.mp hj).1 hj]
  exact Bool.false_ne_true
theorem ok_Tempo_swung (T : Txt K mg) : FnOk P w K mg base CX0 2 T.A_Tempo_swung T.D_Tempo_swung ["self", "place"] (spSwung T) := by
  refine T.f_Tempo_swung.ok sc_Tempo_swung (fun vs H Q E h => ?_) (fun cdv A outer s H vs Q E hr h => ?_)
  · obtain ⟨t, a, q, x, u, l, rfl, _⟩ := h
    rfl
  · obtain ⟨t, a, q, x, u, l, rfl, hT, ok, ha, hf, hl, hx0, hx1, k⟩ := h
    obtain ⟨dx, lt, ls, bs, as, h1, h2, h3, h4, h5⟩ := hT.ex
    have hl0 := hf.pos
    have hu0 : 0 ≤ u := hf.nn.mp hx0
    have hu1 : u ≤ 1000000 * l := hf.le_top hx1
    refine ⟨_, (pss_cons (ps_for PassesOwn.never rfl (pi_list (pe_fld (pv 0) rfl)) (pg_name (i := 2) sc_Tempo_swung.nd rfl (Or.inl rfl)) (pss_one (ps_if (pt_val (pe_call (ok_is_within T) (hr.mono (by decide)) rfl T.g_is_within T.f_is_within.kp T.b_is_within .nil pass0 (pa_cons (pv 2) (pa_cons (pv 1) pa_nil)))) (pss_one (ps_ret (pe_call (ok_swung_by T) (hr.mono (by decide)) rfl T.g_swung_by T.f_swung_by.kp T.b_swung_by .nil pass0 (pa_cons (pv 2) (pa_cons (pv 1) pa_nil))))) pss_nil))) (pss_one (ps_ret (pv 1)))), ?_⟩
    refine ⟨_, rfl, t, _, dx, _, _, rfl, h1, T.cl_Tempo, T.a_Tempo_swings, lk_Tempo_swings .., ls, rfl, ⟨_, SqL.of h4⟩, for_list (K := K) (a := ls) (xs := as.map V.ref)
      (fun i σ H' => H' = H ∧ (∃ v, σ = [some (.ref t), some (.ref a), v]) ∧ ∀ (j : Nat) (s : Swing), j < i → q.swings[j]? = some s → XM.swin s x = false) ⟨rfl, ⟨none, rfl⟩, fun j s h => absurd h (Nat.not_lt_zero j)⟩ (fun i σ H' _ h => by rw [h.1]; exact SqL.of h4) ?_ ?_⟩
    · rintro i y σ H' hi ⟨rfl, ⟨v, rfl⟩, hj⟩
      obtain ⟨b, hb, rfl⟩ := refs_at hi
      obtain ⟨s', hs', hS⟩ := paired_get h5 hb
      refine ⟨_, rfl, _, rfl, b, a, s'.low, s'.high, u, l, rfl, hS.span, ha, hl0, hl, _, rfl, ?_⟩
      rw [← XM.swin_frac hf]
      refine iteB (fun h6 => ?_) (fun h6 => ?_)
      · have o' := ok.ok s' (List.mem_of_getElem? hs')
        refine ⟨_, rfl, _, rfl, b, a, s', u, l, rfl, hS, o', ha, hl0, hl, hu0, hu1, fun r nr => ?_⟩
        refine k _ r _ _ (Same.new nr) upd_same ?_ ?_
        · rw [XM.swung_eq, find_snoc _ hs' hj h6]
          exact XM.swg_frac o' hf
        · have e1 := o'.a2
          have e2 := o'.b2
          have : l * ((s'.a : Int) + s'.b) ≤ 100 * 40 := Int.mul_le_mul hl (by omega) (by omega) (by decide)
          omega
      · exact ⟨rfl, ⟨_, rfl⟩, fun j s2 hlt hs2 => by
          by_cases e : j = i
          · subst e
            rw [hs'] at hs2
            cases hs2
            exact h6
          · exact hj j s2 (by omega) hs2⟩
    · rintro σ H' ⟨rfl, ⟨v, rfl⟩, hj⟩
      rw [List.length_map, Paired.length h5] at hj
      refine ⟨_, rfl, k H' a u l (Same.refl _) ha ?_ (by omega)⟩
      rw [XM.swung_eq, find_no _ hj]
      exact hf
def spStretchAt (T : Txt K mg) : Sp := fun vs H Q _ => ∃ (t a : Addr) (q : Piece) (u l : Int), vs = [.ref t, .ref a] ∧ TempoAt T H t q ∧ XM.POk q ∧ H a = some (.tup [.int u, .int l]) ∧ 0 < l ∧ l ≤ 4000 ∧
  ∀ (b : Addr) (s0 : Str4), StretchAt T H b (XM.pickI u l s0 (XM.strs4 0 q.marks)) → Q (.ref b) H
theorem ok_Tempo_stretch_at (T : Txt K mg) : FnOk P w K mg base CX0 1 T.A_Tempo_stretch_at T.D_Tempo_stretch_at ["self", "place"] (spStretchAt T) := by
  refine T.f_Tempo_stretch_at.ok sc_Tempo_stretch_at (fun vs H Q E h => ?_) (fun cdv A outer s H vs Q E hr h => ?_)
  · obtain ⟨t, a, q, u, l, rfl, _⟩ := h
    rfl
  · obtain ⟨t, a, q, u, l, rfl, hT, ok, ha, hl0, hl, k⟩ := h
    obtain ⟨dx, lt, ls, bs, as, h1, h2, h3, h4, h5⟩ := hT.ex
    obtain ⟨m0, ml, em, _⟩ := ok.m0
    obtain ⟨s0, sr, es⟩ : ∃ s r, XM.strs4 0 q.marks = s :: r := by rw [em]; exact XM.strs_ne
    obtain ⟨b0, hb0, hS0⟩ := paired_back h3 (i := 0) (b := s0) (by rw [es]; rfl)
    refine ⟨_, (pss_cons (ps_set (i := 2) sc_Tempo_stretch_at.nd rfl (by first | exact Or.inl rfl | exact Or.inr rfl) (pe_ix ix_list (pe_fld (pv 0) rfl) pe_int (fun _ _ => rfl))) (pss_cons (ps_for PassesOwn.never rfl (pi_list (pe_fld (pv 0) rfl)) (pg_name (i := 3) sc_Tempo_stretch_at.nd rfl (Or.inl rfl)) (pss_one (ps_if (pt_cmpR op_le (pe_op op_mul (pe_fld (pv 3) rfl) (pe_ix ix_tup (pv 1) pe_int (fun _ _ => rfl))) (pe_ix ix_tup (pv 1) pe_int (fun _ _ => rfl)) (nomark _)) (pss_one (ps_set (i := 2) sc_Tempo_stretch_at.nd rfl (by first | exact Or.inl rfl | exact Or.inr rfl) (pv 3))) pss_nil))) (pss_one (ps_ret (pv 2))))), ?_⟩
    refine ⟨_, rfl, t, _, dx, _, _, rfl, h1, T.cl_Tempo, T.a_Tempo_stretches, lk_Tempo_stretches .., lt, _, _, _, rfl, rfl, SqL.of h2, at_of (j := 0) (v := V.ref b0) rfl (by rw [List.getElem?_map, hb0]; rfl), ?_⟩
    refine ⟨_, rfl, t, _, dx, _, _, rfl, h1, T.cl_Tempo, T.a_Tempo_stretches, lk_Tempo_stretches .., lt, rfl, ⟨_, SqL.of h2⟩, for_list (K := K) (a := lt) (xs := bs.map V.ref)
      (fun i σ H' => H' = H ∧ ∃ b v, σ = [some (.ref t), some (.ref a), some (.ref b), v] ∧ StretchAt T H b (XM.pickI u l s0 ((XM.strs4 0 q.marks).take i))) ⟨rfl, b0, none, rfl, hS0⟩ (fun i σ H' _ h => by rw [h.1]; exact SqL.of h2) ?_ ?_⟩
    · rintro i y σ H' hi ⟨rfl, b, v, rfl, hb⟩
      obtain ⟨c, hc, rfl⟩ := refs_at hi
      obtain ⟨s', hs', dc, hdc⟩ := paired_get h3 hc
      have ost := XM.strs_ok _ _ s' ok.inc ok.mok (List.mem_of_getElem? hs')
      have e := XM.pickI_snoc u l ((XM.strs4 0 q.marks).take i) s' s0
      rw [← take_snoc hs'] at e
      refine ⟨_, rfl, c, _, dc, _, _, rfl, hdc, T.cl_Stretch, T.a_Stretch_tick, lk_Stretch_tick .., _, rfl, a, _, _, _, rfl, rfl, SqT.of ha, rfl, _, _, rfl, rfl, mulR (by omega) (by omega), _, rfl, a, _, _, _, rfl, rfl, SqT.of ha, rfl, _, _, rfl, rfl, _, rfl, iteD (fun h6 => ?_) (fun h6 => ?_)⟩
      · refine ⟨_, rfl, rfl, c, _, rfl, ?_⟩
        rw [e, if_pos h6]
        exact ⟨dc, hdc⟩
      · refine ⟨rfl, b, _, rfl, ?_⟩
        rw [e, if_neg h6]
        exact hb
    · rintro σ H' ⟨rfl, b, v, rfl, hb⟩
      rw [List.length_map, Paired.length h3, List.take_length] at hb
      exact ⟨_, rfl, k b s0 hb⟩
def spTimeOf (T : Txt K mg) : Sp := fun vs H Q _ => ∃ (t a : Addr) (q : Piece) (x : Rat) (u l : Int), vs = [.ref t, .ref a] ∧ TempoAt T H t q ∧ XM.POk q ∧ H a = some (.tup [.int u, .int l]) ∧ Frac x u l ∧ l ≤ 100 ∧ 0 ≤ x ∧ x ≤ 1000000 ∧
  ∀ (H' : Hp) (r : Addr) (n d : Int), Same H H' → H' r = some (.tup [.int n, .int d]) → Frac (q.time x) n d → d < 2 ^ 62 → Q (.ref r) H'
theorem ok_Tempo_time_of (T : Txt K mg) : FnOk P w K mg base CX0 3 T.A_Tempo_time_of T.D_Tempo_time_of ["self", "place"] (spTimeOf T) := by
  refine T.f_Tempo_time_of.ok sc_Tempo_time_of (fun vs H Q E h => ?_) (fun cdv A outer s H vs Q E hr h => ?_)
  · obtain ⟨t, a, q, x, u, l, rfl, _⟩ := h
    rfl
  · obtain ⟨t, a, q, x, u, l, rfl, hT, ok, ha, hf, hl, hx0, hx1, k⟩ := h
    obtain ⟨dx, lt, ls, bs, as, h1, h2, h3, h4, h5⟩ := hT.ex
    refine ⟨_, (pss_cons (ps_set (i := 2) sc_Tempo_time_of.nd rfl (by first | exact Or.inl rfl | exact Or.inr rfl) (pe_meth (pv 0) T.cl_Tempo T.m_Tempo_swung (ok_Tempo_swung T) (hr.mono (by decide)) T.b_Tempo_swung .nil pass0 (pa_cons (pv 1) pa_nil))) (pss_cons (ps_set (i := 3) sc_Tempo_time_of.nd rfl (by first | exact Or.inl rfl | exact Or.inr rfl) (pe_meth (pv 0) T.cl_Tempo T.m_Tempo_stretch_at (ok_Tempo_stretch_at T) (hr.mono (by decide)) T.b_Tempo_stretch_at .nil pass0 (pa_cons (pv 2) pa_nil))) (pss_cons (ps_set (i := 4) sc_Tempo_time_of.nd rfl (by first | exact Or.inl rfl | exact Or.inr rfl) (pe_ix ix_tup (pv 2) pe_int (fun _ _ => rfl))) (pss_cons (ps_set (i := 5) sc_Tempo_time_of.nd rfl (by first | exact Or.inl rfl | exact Or.inr rfl) (pe_op op_sub (pe_ix ix_tup (pv 2) pe_int (fun _ _ => rfl)) (pe_op op_mul (pe_fld (pv 3) rfl) (pv 4)))) (pss_cons (ps_set (i := 6) sc_Tempo_time_of.nd rfl (by first | exact Or.inl rfl | exact Or.inr rfl) (pe_op op_mul (pe_op op_mul (pe_op op_mul (pe_fld (pv 3) rfl) (pv 4)) (pv 4)) (pe_fld (pv 3) rfl))) (pss_cons (ps_set (i := 7) sc_Tempo_time_of.nd rfl (by first | exact Or.inl rfl | exact Or.inr rfl) (pe_op op_add (pe_op op_mul (pe_op op_mul (pe_op op_mul (pe_op op_mul pe_int (pe_fld (pv 3) rfl)) (pv 5)) (pv 4)) (pe_fld (pv 3) rfl)) (pe_op op_mul (pe_op op_mul (pe_fld (pv 3) rfl) (pv 5)) (pv 5)))) (pss_one (ps_ret (pe_tup (pa_cons (pe_op op_add (pv 6) (pv 7)) (pa_cons (pe_op op_mul (pe_op op_mul (pe_op op_mul (pe_op op_mul pe_int (pv 4)) (pv 4)) (pe_fld (pv 3) rfl)) (pe_fld (pv 0) rfl)) pa_nil))))))))))), ?_⟩
    refine ⟨_, rfl, t, dx, _, rfl, h1, no_Tempo_swung .., _, rfl, t, a, q, x, u, l, rfl, hT, ok.sw, ha, hf, hl, hx0, hx1, fun H1 sp u' l' s1 hsp hf' hl' => ?_⟩
    have hl0 := hf'.pos
    have hu0 : 0 ≤ u' := hf'.nn.mp (XM.swung_nn ok.sw hx0)
    have hu1 : u' ≤ 1000000 * l' := hf'.le_top (XM.swung_top ok.sw hx1)
    refine ⟨_, rfl, t, dx, _, rfl, s1 _ _ h1, no_Tempo_stretch_at .., _, rfl, t, sp, q, u', l', rfl, hT.same s1, ok, hsp, hl0, hl', fun b s0 hb => ?_⟩
    obtain ⟨tf, mem⟩ := XM.time_frac ok (f := s0) hx0 hf'
    have ost := XM.strs_ok _ _ _ ok.inc ok.mok mem
    revert hb tf ost
    generalize XM.pickI u' l' s0 (XM.strs4 0 q.marks) = st
    intro hb tf ost
    obtain ⟨db, hdb⟩ := hb
    obtain ⟨t0, t1, l0, l1, r0, r1, o0, o1⟩ := ost
    have q1 := ok.q1
    have q2 := ok.q2
    have b1 : 0 ≤ st.tick * l' := Int.mul_nonneg t0 (by omega)
    have b2 : st.tick * l' ≤ 1000000 * 4000 := Int.mul_le_mul t1 hl' (by omega) (by decide)
    have c2 : u' ≤ 1000000 * 4000 := by omega
    have fT := s1 _ _ h1
    refine ⟨_, rfl, sp, _, _, _, rfl, rfl, SqT.of hsp, rfl,
      _, rfl, sp, _, _, _, rfl, rfl, SqT.of hsp, rfl, _, rfl, b, _, db, _, _, rfl, hdb, T.cl_Stretch, T.a_Stretch_tick, lk_Stretch_tick .., _, rfl, _, _, rfl, rfl, mulR (by omega) (by omega), _, _, rfl, rfl,
      _, rfl, b, _, db, _, _, rfl, hdb, T.cl_Stretch, T.a_Stretch_passed, lk_Stretch_passed .., _, rfl, _, _, rfl, rfl, mulR (by omega) (by omega), _, rfl, _, _, rfl, rfl, mulR (by omega) (by omega),
      _, rfl, b, _, db, _, _, rfl, hdb, T.cl_Stretch, T.a_Stretch_over, lk_Stretch_over .., _, _, rfl, rfl, mulR (by omega) (by omega),
      _, rfl, b, _, db, _, _, rfl, hdb, T.cl_Stretch, T.a_Stretch_length, lk_Stretch_length .., _, _, rfl, rfl, mulL (by decide) (by decide), _, rfl, _, _, rfl, rfl, mulL (by omega) (by omega), _, rfl, _, _, rfl, rfl, mulR (by omega) (by omega),
      _, rfl, b, _, db, _, _, rfl, hdb, T.cl_Stretch, T.a_Stretch_over, lk_Stretch_over .., _, _, rfl, rfl, mulR (by omega) (by omega),
      _, rfl, b, _, db, _, _, rfl, hdb, T.cl_Stretch, T.a_Stretch_rise, lk_Stretch_rise .., _, rfl, _, _, rfl, rfl, mulL (by omega) (by omega), _, rfl, _, _, rfl, rfl, mulR (by omega) (by omega), _, _, rfl, rfl, ?_⟩
    refine ⟨_, rfl, _, rfl, _, _, rfl, rfl,
      _, rfl, _, _, rfl, rfl, mulL (by decide) (by decide), _, rfl, _, _, rfl, rfl, mulR (by omega) (by omega), _, rfl, b, _, db, _, _, rfl, hdb, T.cl_Stretch, T.a_Stretch_over, lk_Stretch_over .., _, _, rfl, rfl, mulR (by omega) (by omega),
      _, rfl, t, _, dx, _, _, rfl, fT, T.cl_Tempo, T.a_Tempo_ticks, lk_Tempo_ticks .., _, _, rfl, rfl, mulR (by omega) (by omega), (by show 2 ≤ sizeLine; decide), fun r nr => ?_⟩
    exact k _ r _ _ (fun c o e => Same.new nr _ _ (s1 _ _ e)) upd_same tf (XM.tden_lt ⟨t0, t1, l0, l1, r0, r1, o0, o1⟩ hl0 hl' (by omega) (by omega))
end
end XW
namespace XW
open PySem PySem.Spec PyProof.Rows L2
open Sw70 (Mark Swing Note Piece rat)
open XM (Frac Str4 Pl)
section
variable {P : Program} {w : World} {K : PySem.W.Frag} {mg : Str → Option Value} {base : Heap}
def spTickAt (T : Txt K mg) : Sp := fun vs H Q _ => ∃ (t a : Addr) (q : Piece) (tm : Nat), vs = [.ref t, .ref a] ∧ TempoAt T H t q ∧ XM.POk q ∧ H a = some (.tup [.int tm, .int 1]) ∧ tm < 2 ^ 32 ∧ ∀ H' : Hp, Same H H' → Q (.int (q.at_ (rat tm) : Nat)) H'
theorem ok_Tempo_tick_at (T : Txt K mg) : FnOk P w K mg base CX0 4 T.A_Tempo_tick_at T.D_Tempo_tick_at ["self", "time"] (spTickAt T) := by
  refine T.f_Tempo_tick_at.ok sc_Tempo_tick_at (fun vs H Q E h => ?_) (fun cdv A outer s H vs Q E hr h => ?_)
  · obtain ⟨t, a, q, tm, rfl, _⟩ := h
    rfl
  · obtain ⟨t, a, q, tm, rfl, hT, ok, ha, htm, k⟩ := h
    refine ⟨_, (pss_cons (ps_set (i := 2) sc_Tempo_tick_at.nd rfl (by first | exact Or.inl rfl | exact Or.inr rfl) pe_int) (pss_cons (ps_set (i := 3) sc_Tempo_tick_at.nd rfl (by first | exact Or.inl rfl | exact Or.inr rfl) (pgc rfl T.c_LAST_TICK)) (pss_cons (ps_while PassesOwn.never (pt_cmpR op_lt (pv 2) (pv 3) (nomark _)) (pss_cons (ps_set (i := 4) sc_Tempo_tick_at.nd rfl (by first | exact Or.inl rfl | exact Or.inr rfl) (pe_op op_fdivB (pe_op op_add (pe_op op_add (pv 2) (pv 3)) pe_int) pe_int)) (pss_one (ps_if (pt_val (pe_call (ok_is_after T) (hr.mono (by decide)) rfl T.g_is_after T.f_is_after.kp T.b_is_after .nil pass0 (pa_cons (pe_meth (pv 0) T.cl_Tempo T.m_Tempo_time_of (ok_Tempo_time_of T) (hr.mono (by decide)) T.b_Tempo_time_of .nil pass0 (pa_cons (pe_tup (pa_cons (pv 4) (pa_cons pe_int pa_nil))) pa_nil)) (pa_cons (pv 1) pa_nil)))) (pss_one (ps_set (i := 3) sc_Tempo_tick_at.nd rfl (by first | exact Or.inl rfl | exact Or.inr rfl) (pe_op op_sub (pv 4) pe_int))) (pss_one (ps_set (i := 2) sc_Tempo_tick_at.nd rfl (by first | exact Or.inl rfl | exact Or.inr rfl) (pv 4))))))) (pss_one (ps_ret (pv 2)))))), ?_⟩
    have z0 : q.time (rat 0) ≤ rat tm := by
      show q.time 0 ≤ rat tm
      rw [XM.time_zero ok]
      exact XM.rat_nn _
    refine while_by (fun σ H' => ∃ (lo hi : Nat) (v : Option V), σ = [some (.ref t), some (.ref a), some (.int lo), some (.int hi), v] ∧ Same H H' ∧ lo ≤ hi ∧ hi ≤ 1000000 ∧ q.time (rat lo) ≤ rat tm ∧ (hi = 1000000 ∨ rat tm < q.time (rat (hi + 1))))
      (fun (σ : L2.St) (_ : Hp) => match σ[2]?, σ[3]? with | some (some (V.int x)), some (some (V.int y)) => (y - x).toNat | _, _ => 0) ⟨0, 1000000, none, rfl, Same.refl _, by omega, Nat.le_refl _, z0, .inl rfl⟩ ?_
      (fun σ H' Q1 Q2 hQ ⟨v, e, w', e', i, j, ei, ej, k, ek, q⟩ => ⟨v, e, w', e', i, j, ei, ej, k, ek, hQ _ _ q⟩)
    rintro σ H' ⟨lo, hi, v, rfl, sm, h1, h2, h3, h4⟩
    refine ⟨_, rfl, _, rfl, _, _, rfl, rfl, _, rfl, iteD (fun h5 => ?_) (fun h5 => ?_)⟩
    · have hlt : lo < hi := by omega
      obtain ⟨mid, emid⟩ : ∃ mid : Nat, ((lo : Int) + hi + 1) / 2 = (mid : Int) := ⟨(lo + hi + 1) / 2, by omega⟩
      have hm1 : lo < mid := by omega
      have hm2 : mid ≤ hi := by omega
      refine ⟨_, rfl, _, rfl, _, _, rfl, rfl, _, _, rfl, rfl, _, _, rfl, rfl, ⟨by decide, by decide⟩, ?_⟩
      dsimp only
      rw [emid]
      obtain ⟨dx, lt, ls, bs, as, g1, g2, g3, g4, g5⟩ := (hT.same sm).ex
      refine ⟨_, rfl, t, dx, _, rfl, g1, no_Tempo_time_of .., _, rfl, (by show 2 ≤ sizeLine; decide), fun pl npl => ?_⟩
      have s1 : Same H' (upd H' pl (.tup [.int mid, .int 1])) := Same.new npl
      refine ⟨t, pl, q, rat mid, mid, 1, rfl, (hT.same sm).same s1, ok, upd_same, Frac.nat mid, by decide, XM.rat_nn _, XM.rat_le (show mid ≤ 1000000 by omega), fun H2 r n d s2 hr2 hf hd => ?_⟩
      have s3 := (sm.trans s1).trans s2
      refine ⟨_, rfl, r, a, n, d, tm, 1, rfl, hr2, s3 _ _ ha, mulR (by decide) (by decide), mulL (by omega) (by omega), _, rfl, iteD (fun h6 => ?_) (fun h6 => ?_)⟩
      · rw [Int.mul_one] at h6
        have h7 := (hf.gt_iff tm).mpr h6
        refine ⟨_, rfl, _, _, rfl, rfl, ?_⟩
        refine ⟨⟨lo, mid - 1, some (V.int mid), ?_, s3, by omega, by omega, h3, .inr ?_⟩, ?_⟩
        · have e : (mid : Int) - 1 = ((mid - 1 : Nat) : Int) := by omega
          show [some (V.ref t), some (V.ref a), some (V.int lo), some (V.int ((mid : Int) - 1)), some (V.int mid)] = _
          rw [e]
        · rw [show mid - 1 + 1 = mid by omega]
          exact h7
        · show ((mid : Int) - 1 - lo).toNat < ((hi : Int) - lo).toNat
          omega
      · rw [Int.mul_one] at h6
        have h7 : q.time (rat mid) ≤ rat tm := Rat.not_lt.mp fun z => h6 ((hf.gt_iff tm).mp z)
        refine ⟨_, rfl, ⟨mid, hi, _, rfl, s3, hm2, h2, h7, h4⟩, ?_⟩
        show ((hi : Int) - mid).toNat < ((hi : Int) - lo).toNat
        omega
    · have e : lo = hi := by omega
      subst e
      have hat : XM.IsAt q (rat tm) lo := ⟨h2, h3, h4⟩
      have := XM.IsAt.uniq ok hat (XM.at_ok ok (XM.rat_nn tm))
      refine ⟨_, rfl, ?_⟩
      rw [this]
      exact k H' sm
/-! ### sounds -/
def spSoundI (T : Txt K mg) : Sp := fun vs H Q _ => ∃ (x dx an ae : Addr) (n : Int) (y : Note), vs = [.ref x, .int n, .ref an, .ref ae] ∧ H x = some (.ins T.C_Sound dx []) ∧ NoteAt T H an y ∧
  ∀ (H' : Hp) (ab : Addr), H' x = some (.ins T.C_Sound dx (fs_Sound (.int n) (.ref an) (.ref ab) (.ref ae))) → H' ab = some (.tup [.int y.start, .int 1]) → (∀ b o, H b = some o → b ≠ x → H' b = some o) → Q .non H'
theorem ok_Sound_init (T : Txt K mg) : FnOk P w K mg base CX0 1 T.A_Sound_init T.D_Sound_init ["self", "number", "note", "ending"] (spSoundI T) := by
  refine T.f_Sound_init.ok sc_Sound_init (fun vs H Q E h => ?_) (fun cdv A outer s H vs Q E hr h => ?_)
  · obtain ⟨x, dx, an, ae, n, y, rfl, _⟩ := h
    rfl
  · obtain ⟨x, dx, an, ae, n, y, rfl, hx, ⟨da, hda⟩, k⟩ := h
    have hax : an ≠ x := by
      intro e
      subst e
      rw [hx] at hda
      have h := Option.some.inj hda
      injection h with _ _ h3
      have := lk_Note_voice (V.int y.voice) (V.int y.pitch) (V.int y.start) (V.int y.long) (V.int y.loud) (V.int y.part) (V.int (bi y.tied))
      rw [← h3] at this
      cases this
    refine ⟨_, (pss_cons (ps_fld (pv 0) (pv 1) rfl) (pss_cons (ps_fld (pv 0) (pv 2) rfl) (pss_cons (ps_fld (pv 0) (pe_tup (pa_cons (pe_fld (pv 2) rfl) (pa_cons pe_int pa_nil))) rfl) (pss_one (ps_fld (pv 0) (pv 3) rfl))))), ?_⟩
    refine ⟨_, rfl, _, rfl, x, _, dx, _, rfl, hx, T.cl_Sound, T.a_Sound_number, (by decide), ?_⟩
    refine ⟨_, rfl, _, rfl, x, _, dx, _, rfl, upd_same, T.cl_Sound, T.a_Sound_note, Nat.lt_of_le_of_lt (lp (Nat.le_refl 0)) (by decide), ?_⟩
    rw [upd_upd]
    refine ⟨_, rfl, an, _, da, _, _, rfl, (by rw [upd_ne hax]; exact hda), T.cl_Note, T.a_Note_first, lk_Note_first .., (by show 2 ≤ sizeLine; decide), fun ab nab => ?_⟩
    have hxb := ne_of_none upd_same nab
    refine ⟨_, rfl, x, _, dx, _, rfl, (by rw [upd_ne hxb]; exact upd_same), T.cl_Sound, T.a_Sound_beginning, Nat.lt_of_le_of_lt (lp (lp (Nat.le_refl 0))) (by decide), ?_⟩
    refine ⟨_, rfl, _, rfl, x, _, dx, _, rfl, upd_same, T.cl_Sound, T.a_Sound_ending, Nat.lt_of_le_of_lt (lp (lp (lp (Nat.le_refl 0)))) (by decide), ?_⟩
    rw [upd_upd, mk_Sound]
    rw [upd_ne (Ne.symm hxb)] at nab
    refine k _ ab upd_same (by rw [upd_ne (Ne.symm hxb)]; exact upd_same) fun b o e hb => ?_
    rw [upd_ne hb, upd_ne (ne_of_none e nab), upd_ne hb]
    exact e
abbrev key3 (v k f : Int) : List Key := [Sum.inl v, Sum.inl k, Sum.inl f]
def fits (v k f : Int) (y : Note) : Bool := decide ((y.voice : Int) = v) && (decide ((y.pitch : Int) = k) && decide ((y.start : Int) = f))
def spByBeg (T : Txt K mg) : Sp := fun vs H Q _ => ∃ (l : Addr) (an : List Addr) (ns : List Note), vs = [.ref l] ∧ H l = some (.lst (an.map V.ref)) ∧ Paired (NoteAt T H) an ns ∧ ns.length ≤ 200 ∧
  ∀ (H' : Hp) (d : Addr) (kvs : List (List Key × V)), Same H H' → H' d = some (.dT kvs) → (∀ v k f : Int, valV kvs (key3 v k f) = (ns.findIdx? (fits v k f)).map fun i => V.int (i : Nat)) → Q (.ref d) H'
theorem ok_numbers_by_beginning (T : Txt K mg) : FnOk P w K mg base CX0 1 T.A_numbers_by_beginning T.D_numbers_by_beginning ["notes"] (spByBeg T) := by
  refine T.f_numbers_by_beginning.ok sc_numbers_by_beginning (fun vs H Q E h => ?_) (fun cdv A outer s H vs Q E hr h => ?_)
  · obtain ⟨l, an, ns, rfl, _⟩ := h
    rfl
  · obtain ⟨l, an, ns, rfl, hl, pn, h200, k⟩ := h
    have hlen := Paired.length pn
    refine ⟨_, (pss_cons (ps_set (i := 1) sc_numbers_by_beginning.nd rfl (by first | exact Or.inl rfl | exact Or.inr rfl) pe_dnewT) (pss_cons (ps_for PassesOwn.never rfl (pi_enum rfl T.n_enumerate (pa_cons (pv 0) pa_nil)) (pg_tup rfl (pgs_cons (pg_name (i := 2) sc_numbers_by_beginning.nd rfl (Or.inl rfl)) (pgs_cons (pg_name (i := 3) sc_numbers_by_beginning.nd rfl (Or.inl rfl)) pgs_nil))) (pss_one (ps_expr (pe_dsetd (hu_of hr) (pv 1) (pe_tup (pa_cons (pe_fld (pv 3) rfl) (pa_cons (pe_fld (pv 3) rfl) (pa_cons (pe_fld (pv 3) rfl) pa_nil)))) (pv 2) ⟨rfl, rfl, rfl, rfl⟩)))) (pss_one (ps_ret (pv 1))))), ?_⟩
    intro d nd
    have s1 : Same H (upd H d (.dT [])) := Same.new nd
    have hd1 : upd H d (.dT []) d = some (.dT []) := upd_same
    revert s1 hd1
    generalize upd H d (.dT []) = H1
    intro s1 hd1
    refine ⟨_, rfl, l, _, rfl, SqL.of (s1 _ _ hl), for_enum (K := K) (xs := an.map V.ref)
      (fun i σ H' => ∃ (kvs : List (List Key × V)) (v2 v3 : Option V), σ = [some (.ref l), some (.ref d), v2, v3] ∧ Same H H' ∧ H' d = some (.dT kvs) ∧ kvs.length ≤ i ∧ ∀ v k f : Int, valV kvs (key3 v k f) = ((ns.take i).findIdx? (fits v k f)).map fun i => V.int (i : Nat))
      ⟨[], none, none, rfl, s1, hd1, Nat.le_refl 0, fun _ _ _ => rfl⟩ (fun i σ H' _ ⟨_, _, _, _, e, _⟩ => SqL.of (e _ _ hl)) ?_ ?_⟩
    · rintro i x σ H' Tt hx ⟨kvs, v2, v3, rfl, sm, hd, hkl, hv⟩ nT
      obtain ⟨a, ha, rfl⟩ := refs_at hx
      obtain ⟨y, hy, da, hda⟩ := paired_get pn ha
      have hil : i < ns.length := (List.getElem?_eq_some_iff.mp hy).1
      have sT : Same H' (upd H' Tt (.tup [.int i, .ref a])) := Same.new nT
      have hd2 := sT _ _ hd
      have s3 := sm.trans sT
      revert sT hd2 s3
      generalize upd H' Tt (.tup [.int i, .ref a]) = H2
      intro sT hd2 s3
      have hn := s3 _ _ hda
      refine ⟨_, rfl, d, rfl, .inr ⟨_, .inl hd2⟩, _, rfl, a, _, da, _, _, rfl, hn, T.cl_Note, T.a_Note_voice, lk_Note_voice .., _, rfl, a, _, da, _, _, rfl, hn, T.cl_Note, T.a_Note_pitch, lk_Note_pitch .., _, rfl, a, _, da, _, _, rfl, hn, T.cl_Note, T.a_Note_first, lk_Note_first ..,
        (by show 3 ≤ sizeLine; decide), fun kt nkt => ?_⟩
      have sk : Same H2 (upd H2 kt (.tup [.int y.voice, .int y.pitch, .int y.start])) := Same.new nkt
      have ekey : upd H2 kt (.tup [.int y.voice, .int y.pitch, .int y.start]) kt = some (.tup ((key3 y.voice y.pitch y.start).map kV)) := upd_same
      have hd4 := sk _ _ hd2
      have s5 := s3.trans sk
      revert sk ekey hd4 s5
      generalize upd H2 kt (.tup [.int y.voice, .int y.pitch, .int y.start]) = H3
      intro sk ekey hd4 s5
      have fnd : ∀ v k f : Int, ((ns.take (i + 1)).findIdx? (fits v k f)) = ((ns.take i).findIdx? (fits v k f)).or (if fits v k f y = true then some i else none) := fun v k f => by
        rw [take_snoc hy, List.findIdx?_append]
        congr 1
        rw [List.findIdx?_cons]
        by_cases c : fits v k f y = true
        · rw [if_pos c, if_pos c, List.length_take]
          show some (0 + min i ns.length) = _
          rw [Nat.zero_add, Nat.min_eq_left (by omega)]
        · rw [if_neg c, if_neg c]
          rfl
      have own : fits y.voice y.pitch y.start y = true := by simp [fits]
      have fits_iff : ∀ v k f : Int, fits v k f y = true ↔ key3 v k f = key3 y.voice y.pitch y.start := fun v k f => by
        simp only [fits, key3, Bool.and_eq_true, decide_eq_true_eq, List.cons.injEq, Sum.inl.injEq, and_true]
        constructor
        · rintro ⟨a, b, c⟩
          exact ⟨a.symm, b.symm, c.symm⟩
        · rintro ⟨a, b, c⟩
          exact ⟨a.symm, b.symm, c.symm⟩
      refine ⟨_, rfl, kvs, key3 y.voice y.pitch y.start, kt, hd4, rfl, ekey, small1000 (by omega), fun v hv' => ?_, fun hv' => ?_⟩
      · refine ⟨kvs, _, _, rfl, s5, hd4, by omega, fun v' k' f' => ?_⟩
        rw [fnd, hv]
        by_cases c : fits v' k' f' y = true
        · have e := (fits_iff _ _ _).mp c
          have h1 := hv v' k' f'
          rw [e, hv'] at h1
          cases h2 : (ns.take i).findIdx? (fits v' k' f') with
          | none =>
            rw [h2] at h1
            cases h1
          | some j => rfl
        · rw [if_neg c, Option.or_none]
      · refine ⟨putK kvs (key3 y.voice y.pitch y.start) (.int i), _, _, rfl, fun b o e => ?_, upd_same, Nat.le_trans (length_putK ..) (by omega), fun v' k' f' => ?_⟩
        · rw [upd_ne]
          · exact s5 _ _ e
          · rintro rfl
            have := s1.free (l := b)
            rw [s1 _ _ e] at hd1
            have := Option.some.inj hd1
            rw [nd] at e
            cases e
        · rw [fnd, valV_put]
          by_cases c : fits v' k' f' y = true
          · have e := (fits_iff _ _ _).mp c
            rw [if_pos e, if_pos c]
            have h1 := hv v' k' f'
            rw [e, hv'] at h1
            cases h2 : (ns.take i).findIdx? (fits v' k' f') with
            | none => rfl
            | some j =>
              rw [h2] at h1
              cases h1
          · rw [if_neg (fun e => c ((fits_iff _ _ _).mpr e)), if_neg c, Option.or_none]
            exact hv v' k' f'
    · rintro σ H' ⟨kvs, v2, v3, rfl, sm, hd, hkl, hv⟩
      rw [List.length_map, hlen, List.take_length] at hv
      exact ⟨_, rfl, k H' d kvs sm hd hv⟩
end
end XW
namespace XW
open PySem PySem.Spec PyProof.Rows L2
open Sw70 (Mark Swing Note Piece rat)
open XM (Frac Str4 Pl)
section
variable {P : Program} {w : World} {K : PySem.W.Frag} {mg : Str → Option Value} {base : Heap}
theorem next_fits (q : Piece) (x : Note) : q.next x = if x.tied = true then q.notes.findIdx? (fits x.voice x.pitch ((x.start : Int) + x.long)) else none := by
  unfold Sw70.Piece.next
  by_cases c : x.tied = true
  · rw [if_pos c, if_pos c]
    congr 1
    funext y
    rw [Bool.eq_iff_iff]
    simp only [fits, Bool.and_eq_true, beq_iff_eq, decide_eq_true_eq]
    omega
  · rw [if_neg c, if_neg c]
theorem nx_at {q : Piece} {i : Nat} {x : Note} (h : q.notes[i]? = some x) : XM.nx q i = q.next x := by
  unfold XM.nx
  rw [h]
  rfl
def Ties (q : Piece) (kvs : List (Key × V)) (i : Nat) : Prop := kvs.length ≤ i ∧ (∀ j : Nat, valV kvs (Sum.inl (j : Int)) = if j < i then (XM.nx q j).map fun k => V.int (k : Nat) else none) ∧ ∀ kv ∈ kvs, ∃ j k : Nat, kv = (Sum.inl (j : Int), V.int k) ∧ XM.nx q j = some k
def spTies (T : Txt K mg) : Sp := fun vs H Q _ => ∃ (l : Addr) (an : List Addr) (q : Piece), vs = [.ref l] ∧ H l = some (.lst (an.map V.ref)) ∧ Paired (NoteAt T H) an q.notes ∧ q.notes.length ≤ 200 ∧
  ∀ (H' : Hp) (d : Addr) (kvs : List (Key × V)), Same H H' → H' d = some (.dK kvs) → Ties q kvs q.notes.length → Q (.ref d) H'
theorem ok_ties_of (T : Txt K mg) : FnOk P w K mg base CX0 2 T.A_ties_of T.D_ties_of ["notes"] (spTies T) := by
  refine T.f_ties_of.ok sc_ties_of (fun vs H Q E h => ?_) (fun cdv A outer s H vs Q E hr h => ?_)
  · obtain ⟨l, an, q, rfl, _⟩ := h
    rfl
  · obtain ⟨l, an, q, rfl, hl, pn, h200, k⟩ := h
    have hlen := Paired.length pn
    refine ⟨_, (pss_cons (ps_set (i := 1) sc_ties_of.nd rfl (by first | exact Or.inl rfl | exact Or.inr rfl) (pe_call (ok_numbers_by_beginning T) (hr.mono (by decide)) rfl T.g_numbers_by_beginning T.f_numbers_by_beginning.kp T.b_numbers_by_beginning .nil pass0 (pa_cons (pv 0) pa_nil))) (pss_cons (ps_set (i := 2) sc_ties_of.nd rfl (by first | exact Or.inl rfl | exact Or.inr rfl) pe_dnewK) (pss_cons (ps_for PassesOwn.never rfl (pi_enum rfl T.n_enumerate (pa_cons (pv 0) pa_nil)) (pg_tup rfl (pgs_cons (pg_name (i := 3) sc_ties_of.nd rfl (Or.inl rfl)) (pgs_cons (pg_name (i := 4) sc_ties_of.nd rfl (Or.inl rfl)) pgs_nil))) (pss_cons (ps_set (i := 5) sc_ties_of.nd rfl (by first | exact Or.inl rfl | exact Or.inr rfl) (pe_tup (pa_cons (pe_fld (pv 4) rfl) (pa_cons (pe_fld (pv 4) rfl) (pa_cons (pe_call (ok_note_end T) (hr.mono (by decide)) rfl T.g_note_end T.f_note_end.kp T.b_note_end .nil pass0 (pa_cons (pv 4) pa_nil)) pa_nil))))) (pss_one (ps_if (PW.pt (pw_and (pt_cmpR op_eq (pe_fld (pv 4) rfl) pe_int (nomark _)) (pw_and1 (pt_cmp (pc_din (hu_of hr) (pv 5) (pv 1)))))) (pss_one (ps_dput (hu_of hr) (pv 2) (pv 3) (pe_dget (hu_of hr) (pv 1) (pv 5) (fun _ _ => rfl)) rfl)) pss_nil)))) (pss_one (ps_ret (pv 2)))))), ?_⟩
    refine ⟨_, rfl, l, an, q.notes, rfl, hl, pn, h200, fun H1 bg kb s1 hbg hkb => ?_⟩
    intro d nd
    have s2 : Same H1 (upd H1 d (.dK [])) := Same.new nd
    have hd2 : upd H1 d (.dK []) d = some (.dK []) := upd_same
    have hbg2 := s2 _ _ hbg
    have s3 := s1.trans s2
    revert s2 hd2 hbg2 s3
    generalize upd H1 d (.dK []) = H2
    intro s2 hd2 hbg2 s3
    have nHd : H d = none := s1.free nd
    have nbd : bg ≠ d := ne_of_none hbg nd
    refine ⟨_, rfl, l, _, rfl, SqL.of (s3 _ _ hl), for_enum (K := K) (xs := an.map V.ref)
      (fun i σ H' => ∃ (kvs : List (Key × V)) (v3 v4 v5 : Option V), σ = [some (.ref l), some (.ref bg), some (.ref d), v3, v4, v5] ∧ Same H H' ∧ H' bg = some (.dT kb) ∧ H' d = some (.dK kvs) ∧ Ties q kvs i)
      ⟨[], none, none, none, rfl, s3, hbg2, hd2, Nat.le_refl 0, fun j => rfl, fun kv h => by simp at h⟩ (fun i σ H' _ ⟨_, _, _, _, _, e, _⟩ => SqL.of (e _ _ hl)) ?_ ?_⟩
    · rintro i x σ H' Tt hx ⟨kvs, v3, v4, v5, rfl, sm, hb', hd', hkl, hv, hall⟩ nT
      obtain ⟨a, ha, rfl⟩ := refs_at hx
      obtain ⟨y, hy, hY⟩ := paired_get pn ha
      obtain ⟨da, hda⟩ := id hY
      have hil : i < q.notes.length := (List.getElem?_eq_some_iff.mp hy).1
      have sT : Same H' (upd H' Tt (.tup [.int i, .ref a])) := Same.new nT
      have hb2 := sT _ _ hb'
      have hd3 := sT _ _ hd'
      have s4 := sm.trans sT
      revert sT hb2 hd3 s4
      generalize upd H' Tt (.tup [.int i, .ref a]) = H3
      intro sT hb2 hd3 s4
      have hn := s4 _ _ hda
      refine ⟨_, rfl, a, _, da, _, _, rfl, hn, T.cl_Note, T.a_Note_voice, lk_Note_voice .., _, rfl, a, _, da, _, _, rfl, hn, T.cl_Note, T.a_Note_pitch, lk_Note_pitch .., _, rfl, a, y, rfl, hY.same s4,
        (by show 3 ≤ sizeLine; decide), fun kt nkt => ?_⟩
      have sk : Same H3 (upd H3 kt (.tup [.int y.voice, .int y.pitch, .int ((y.start : Int) + y.long)])) := Same.new nkt
      have ekey : upd H3 kt (.tup [.int y.voice, .int y.pitch, .int ((y.start : Int) + y.long)]) kt = some (.tup ((key3 y.voice y.pitch ((y.start : Int) + y.long)).map kV)) := upd_same
      have hb4 := sk _ _ hb2
      have hd4 := sk _ _ hd3
      have s5 := s4.trans sk
      have hn5 := sk _ _ hn
      revert sk ekey hb4 hd4 s5 hn5
      generalize upd H3 kt (.tup [.int y.voice, .int y.pitch, .int ((y.start : Int) + y.long)]) = H4
      intro sk ekey hb4 hd4 s5 hn5
      have hnx := nx_at hy
      rw [next_fits] at hnx
      have stay : XM.nx q i = none → Ties q kvs (i + 1) := fun h => ⟨by omega, fun j => by
        rw [hv j]
        by_cases c : j < i
        · rw [if_pos c, if_pos (by omega)]
        · rw [if_neg c]
          by_cases c2 : j = i
          · subst c2
            rw [if_pos (by omega), h]
            rfl
          · rw [if_neg (by omega)], hall⟩
      refine ⟨_, rfl, a, _, da, _, _, rfl, hn5, T.cl_Note, T.a_Note_tied, lk_Note_tied .., rfl, _, rfl, iteE (fun h1 => ?_) (fun h1 => ?_)⟩
      · have ht : y.tied = true := by
          cases e : y.tied with
          | true => rfl
          | false =>
            rw [e] at h1
            exact absurd h1 (by decide)
        rw [if_pos ht] at hnx
        have hlk := hkb y.voice y.pitch ((y.start : Int) + y.long)
        rw [← hnx] at hlk
        refine ⟨_, rfl, _, rfl, bg, _, rfl, DGet.t hb4 ekey, _, rfl, ?_⟩
        rw [hlk]
        cases e : XM.nx q i with
        | none => exact iteF ⟨kvs, _, _, _, rfl, s5, hb4, hd4, stay e⟩
        | some j =>
          refine iteT ?_
          rw [e] at hlk
          refine ⟨_, rfl, _, rfl, bg, V.int j, rfl, by rw [← show valV kb (key3 y.voice y.pitch ((y.start : Int) + y.long)) = some (V.int j) from hlk]; exact DGet.t hb4 ekey, _, rfl, _, rfl, d, _, rfl, DPut.k (k := Sum.inl (i : Int)) hd4 (small1000 (by omega)), ?_⟩
          have hnone : valV kvs (Sum.inl (i : Int)) = none := by rw [hv i, if_neg (Nat.lt_irrefl i)]
          refine ⟨putK kvs (Sum.inl (i : Int)) (.int j), _, _, _, rfl, fun b o e' => ?_, ?_, upd_same, ?_, fun j' => ?_, fun kv hkv => ?_⟩
          · rw [upd_ne (ne_of_none e' nHd)]
            exact s5 _ _ e'
          · rw [upd_ne nbd]
            exact hb4
          · exact Nat.le_trans (length_putK ..) (by omega)
          · rw [valV_put, hv j']
            by_cases c : j' = i
            · subst c
              rw [if_pos rfl, if_pos (by omega), e]
              rfl
            · rw [if_neg (by intro z; injection z with z; omega)]
              by_cases c2 : j' < i
              · rw [if_pos c2, if_pos (by omega)]
              · rw [if_neg c2, if_neg (by omega)]
          · rw [putK_new _ hnone] at hkv
            rcases List.mem_append.mp hkv with hkv | hkv
            · exact hall kv hkv
            · rw [List.mem_singleton.mp hkv]
              exact ⟨i, j, rfl, e⟩
      · have ht : ¬ y.tied = true := fun e => h1 (by rw [e]; rfl)
        rw [if_neg ht] at hnx
        exact iteF ⟨kvs, _, _, _, rfl, s5, hb4, hd4, stay hnx⟩
    · rintro σ H' ⟨kvs, v3, v4, v5, rfl, sm, hb', hd', ht⟩
      rw [List.length_map, hlen] at ht
      exact ⟨_, rfl, k H' d kvs sm hd' ht⟩
theorem Ties.val {q : Piece} {kvs : List (Key × V)} (h : Ties q kvs q.notes.length) (j : Nat) : valV kvs (Sum.inl (j : Int)) = (XM.nx q j).map fun k => V.int (k : Nat) := by
  rw [h.2.1 j]
  by_cases c : j < q.notes.length
  · rw [if_pos c]
  · rw [if_neg c]
    unfold XM.nx
    rw [List.getElem?_eq_none (by omega)]
    rfl
def spLast : Sp := fun vs H Q _ => ∃ (n : Nat) (d : Addr) (kvs : List (Key × V)) (q : Piece), vs = [.int n, .ref d] ∧ H d = some (.dK kvs) ∧ Ties q kvs q.notes.length ∧ XM.POk q ∧ Q (.int (XM.lst q n : Nat)) H
theorem ok_last_number (T : Txt K mg) : FnOk P w K mg base CX0 1 T.A_last_number T.D_last_number ["number", "ties"] spLast := by
  refine T.f_last_number.ok sc_last_number (fun vs H Q E h => ?_) (fun cdv A outer s H vs Q E hr h => ?_)
  · obtain ⟨n, d, kvs, q, rfl, _⟩ := h
    rfl
  · obtain ⟨n, d, kvs, q, rfl, hd, ht, ok, k⟩ := h
    refine ⟨_, (pss_cons (ps_while PassesOwn.never (pt_cmp (pc_din (hu_of hr) (pv 0) (pv 1))) (pss_one (ps_set (i := 0) sc_last_number.nd rfl (by first | exact Or.inl rfl | exact Or.inr rfl) (pe_dget (hu_of hr) (pv 1) (pv 0) (fun _ _ => rfl))))) (pss_one (ps_ret (pv 0)))), ?_⟩
    refine while_by (fun σ H' => H' = H ∧ ∃ j : Nat, σ = [some (.int j), some (.ref d)] ∧ XM.lst q j = XM.lst q n) (fun (σ : L2.St) (_ : Hp) => match σ[0]? with | some (some (V.int x)) => XM.mu q x.toNat | _ => 0) ⟨rfl, n, rfl, rfl⟩ ?_
      (fun σ H' Q1 Q2 hQ ⟨v, e, w', e', a, o, ea, eg, k, ek, q⟩ => ⟨v, e, w', e', a, o, ea, eg, k, ek, hQ _ _ q⟩)
    rintro σ H' ⟨rfl, j, rfl, hj⟩
    refine ⟨_, rfl, _, rfl, d, _, rfl, DGet.k (k := Sum.inl (j : Int)) hd, _, rfl, ?_⟩
    rw [ht.val j]
    cases e : XM.nx q j with
    | none =>
      refine iteF ?_
      refine ⟨_, rfl, ?_⟩
      rw [← hj, XM.lst_stop e] at k
      exact k
    | some i =>
      refine iteT ?_
      refine ⟨_, rfl, _, rfl, d, V.int i, rfl, (by rw [← show valV kvs (Sum.inl (j : Int)) = some (V.int i) by rw [ht.val j, e]; rfl]; exact DGet.k (k := Sum.inl (j : Int)) hd), ⟨rfl, i, rfl, by rw [← hj, XM.lst_go ok e]⟩, ?_⟩
      exact XM.mu_lt ok e
theorem end_frac (x : Note) : Frac (Sw70.endOf x) (100 * (x.start : Int) + (x.part : Int) * x.long) 100 := by
  refine ⟨by decide, ?_⟩
  unfold Sw70.endOf
  rw [Rat.intCast_add, Rat.intCast_mul, Rat.intCast_mul]
  show (100 : Rat) * rat x.start + rat x.part * rat x.long = (rat x.start + rat x.long * rat x.part / 100) * 100
  grind
def spPlace (T : Txt K mg) : Sp := fun vs H Q _ => ∃ (a l : Addr) (x : Note) (ap : List Addr) (q : Piece), vs = [.ref a, .ref l] ∧ NoteAt T H a x ∧ XM.NoOk x ∧ H l = some (.lst (ap.map V.ref)) ∧ Paired (PedalAt T H) ap q.pedals ∧
  ∀ (H' : Hp) (r : Addr) (u d : Int), Same H H' → H' r = some (.tup [.int u, .int d]) → Frac (Sw70.held q (Sw70.endOf x)) u d → d ≤ 100 → Q (.ref r) H'
def pin (x : Rat) (d : Nat × Nat) : Bool := decide (rat d.1 ≤ x) && decide (x < rat d.2)
theorem pin_frac {x : Rat} {u l : Int} (f : Frac x u l) (d : Nat × Nat) : pin x d = (decide ((d.1 : Int) * l ≤ u) && decide (u < (d.2 : Int) * l)) := by
  unfold pin
  rw [Bool.eq_iff_iff]
  simp only [Bool.and_eq_true, decide_eq_true_eq]
  exact and_congr (f.le_iff d.1) (f.lt_iff d.2)
theorem held_eq (q : Piece) (x : Rat) : Sw70.held q x = match q.pedals.find? (pin x) with
    | some d => rat d.2
    | none => x := rfl
theorem ok_place_of_end (T : Txt K mg) : FnOk P w K mg base CX0 2 T.A_place_of_end T.D_place_of_end ["note", "pedals"] (spPlace T) := by
  refine T.f_place_of_end.ok sc_place_of_end (fun vs H Q E h => ?_) (fun cdv A outer s H vs Q E hr h => ?_)
  · obtain ⟨a, l, x, ap, q, rfl, _⟩ := h
    rfl
  · obtain ⟨a, l, x, ap, q, rfl, ⟨da, hda⟩, ok, hl, pp, k⟩ := h
    have hf := end_frac x
    have p1 := ok.p1
    have p2 := ok.p2
    refine ⟨_, (pss_cons (ps_set (i := 2) sc_place_of_end.nd rfl (by first | exact Or.inl rfl | exact Or.inr rfl) (pe_tup (pa_cons (pe_op op_add (pe_op op_mul pe_int (pe_fld (pv 0) rfl)) (pe_op op_mul (pe_fld (pv 0) rfl) (pe_fld (pv 0) rfl))) (pa_cons pe_int pa_nil)))) (pss_cons (ps_for PassesOwn.never rfl (pi_list (pv 1)) (pg_name (i := 3) sc_place_of_end.nd rfl (Or.inl rfl)) (pss_one (ps_if (pt_val (pe_call (ok_is_within T) (hr.mono (by decide)) rfl T.g_is_within T.f_is_within.kp T.b_is_within .nil pass0 (pa_cons (pv 3) (pa_cons (pv 2) pa_nil)))) (pss_one (ps_ret (pe_tup (pa_cons (pe_fld (pv 3) rfl) (pa_cons pe_int pa_nil))))) pss_nil))) (pss_one (ps_ret (pv 2))))), ?_⟩
    refine ⟨_, rfl, a, _, da, _, _, rfl, hda, T.cl_Note, T.a_Note_first, lk_Note_first .., _, _, rfl, rfl, mulL (by decide) (by decide), _, rfl, a, _, da, _, _, rfl, hda, T.cl_Note, T.a_Note_part, lk_Note_part .., _, rfl, a, _, da, _, _, rfl, hda, T.cl_Note, T.a_Note_length, lk_Note_length ..,
      _, _, rfl, rfl, mulL (by omega) (by omega), _, _, rfl, rfl, (by show 2 ≤ sizeLine; decide), fun pl npl => ?_⟩
    have s1 : Same H (upd H pl (.tup [.int (100 * (x.start : Int) + (x.part : Int) * x.long), .int 100])) := Same.new npl
    have hpl : upd H pl (.tup [.int (100 * (x.start : Int) + (x.part : Int) * x.long), .int 100]) pl = some (.tup [.int (100 * (x.start : Int) + (x.part : Int) * x.long), .int 100]) := upd_same
    show (tSeq _ _) _ _ (upd H pl (.tup [.int (100 * (x.start : Int) + (x.part : Int) * x.long), .int 100]))
    revert s1 hpl
    generalize upd H pl (.tup [.int (100 * (x.start : Int) + (x.part : Int) * x.long), .int 100]) = H1
    intro s1 hpl
    refine ⟨_, rfl, l, rfl, ⟨_, SqL.of (s1 _ _ hl)⟩, for_list (K := K) (a := l) (xs := ap.map V.ref)
      (fun i σ H' => H' = H1 ∧ (∃ v, σ = [some (.ref a), some (.ref l), some (.ref pl), v]) ∧ ∀ (j : Nat) (d : Nat × Nat), j < i → q.pedals[j]? = some d → pin (Sw70.endOf x) d = false) ⟨rfl, ⟨none, rfl⟩, fun j s h => absurd h (Nat.not_lt_zero j)⟩ (fun i σ H' _ h => by rw [h.1]; exact SqL.of (s1 _ _ hl)) ?_ ?_⟩
    · rintro i y σ H' hi ⟨rfl, ⟨v, rfl⟩, hj⟩
      obtain ⟨b, hb, rfl⟩ := refs_at hi
      obtain ⟨d, hd, hP⟩ := paired_get pp hb
      obtain ⟨db, hdb⟩ := id (hP.same s1)
      refine ⟨_, rfl, _, rfl, b, pl, d.1, d.2, _, 100, rfl, (hP.same s1).span, hpl, by decide, by decide, _, rfl, ?_⟩
      rw [← pin_frac hf]
      refine iteB (fun h6 => ?_) (fun h6 => ?_)
      · refine ⟨_, rfl, b, _, db, _, _, rfl, hdb, T.cl_Pedal, T.a_Pedal_last, lk_Pedal_last .., (by show 2 ≤ sizeLine; decide), fun r nr => ?_⟩
        refine k _ r _ _ (s1.trans (Same.new nr)) upd_same ?_ (by decide)
        rw [held_eq, find_snoc _ hd hj h6]
        exact Frac.nat d.2
      · exact ⟨rfl, ⟨_, rfl⟩, fun j s2 hlt hs2 => by
          by_cases e : j = i
          · subst e
            rw [hd] at hs2
            cases hs2
            exact h6
          · exact hj j s2 (by omega) hs2⟩
    · rintro σ H' ⟨rfl, ⟨v, rfl⟩, hj⟩
      rw [List.length_map, Paired.length pp] at hj
      refine ⟨_, rfl, k H' pl _ _ s1 hpl ?_ (by decide)⟩
      rw [held_eq, find_no _ hj]
      exact hf
/-! ### a sound's object -/
def SndAt (T : Txt K mg) (H : Hp) (a : Addr) (x : Pl) (e : Rat) : Prop := ∃ (dx an ab ae : Addr) (u l : Int), H a = some (.ins T.C_Sound dx (fs_Sound (.int x.num) (.ref an) (.ref ab) (.ref ae))) ∧ NoteAt T H an x.note ∧ H ab = some (.tup [.int x.note.start, .int 1]) ∧ H ae = some (.tup [.int u, .int l]) ∧ Frac e u l ∧ l ≤ 100
theorem SndAt.same {T : Txt K mg} {H H' : Hp} {a : Addr} {x : Pl} {e : Rat} (h : SndAt T H a x e) (s : Same H H') : SndAt T H' a x e := by
  obtain ⟨dx, an, ab, ae, u, l, h1, h2, h3, h4, h5⟩ := h
  exact ⟨dx, an, ab, ae, u, l, s _ _ h1, h2.same s, s _ _ h3, s _ _ h4, h5⟩
def spStriking (T : Txt K mg) : Sp := fun vs H Q _ => ∃ (a : Addr) (x : Pl) (e : Rat), vs = [.ref a] ∧ SndAt T H a x e ∧ ∀ r, H r = none → Q (.ref r) (upd H r (.tup ((XM.key4 x).map V.int)))
theorem ok_order_of_striking (T : Txt K mg) : FnOk P w K mg base CX0 1 T.A_order_of_striking T.D_order_of_striking ["sound"] (spStriking T) := by
  refine T.f_order_of_striking.ok sc_order_of_striking (fun vs H Q E h => ?_) (fun cdv A outer s H vs Q E hr h => ?_)
  · obtain ⟨a, x, e, rfl, _⟩ := h
    rfl
  · obtain ⟨a, x, e, rfl, ⟨dx, an, ab, ae, u, l, h1, ⟨dn, hdn⟩, h3, h4, h5⟩, k⟩ := h
    refine ⟨_, (pss_one (ps_ret (pe_tup (pa_cons (pe_fld (pe_fld (pv 0) rfl) rfl) (pa_cons (pe_fld (pe_fld (pv 0) rfl) rfl) (pa_cons (pe_fld (pe_fld (pv 0) rfl) rfl) (pa_cons (pe_fld (pv 0) rfl) pa_nil))))))), ?_⟩
    exact ⟨_, rfl, a, _, dx, _, _, rfl, h1, T.cl_Sound, T.a_Sound_note, lk_Sound_note .., an, _, dn, _, _, rfl, hdn, T.cl_Note, T.a_Note_voice, lk_Note_voice ..,
      _, rfl, a, _, dx, _, _, rfl, h1, T.cl_Sound, T.a_Sound_note, lk_Sound_note .., an, _, dn, _, _, rfl, hdn, T.cl_Note, T.a_Note_pitch, lk_Note_pitch ..,
      _, rfl, a, _, dx, _, _, rfl, h1, T.cl_Sound, T.a_Sound_note, lk_Sound_note .., an, _, dn, _, _, rfl, hdn, T.cl_Note, T.a_Note_first, lk_Note_first ..,
      _, rfl, a, _, dx, _, _, rfl, h1, T.cl_Sound, T.a_Sound_number, lk_Sound_number .., (by show 4 ≤ sizeLine; decide), k⟩
def spAlike (T : Txt K mg) : Sp := fun vs H Q _ => ∃ (a b : Addr) (x y : Pl) (e f : Rat), vs = [.ref a, .ref b] ∧ SndAt T H a x e ∧ SndAt T H b y f ∧ Q (.bl (XM.alike x y)) H
theorem ok_are_alike (T : Txt K mg) : FnOk P w K mg base CX0 1 T.A_are_alike T.D_are_alike ["sound", "other"] (spAlike T) := by
  refine T.f_are_alike.ok sc_are_alike (fun vs H Q E h => ?_) (fun cdv A outer s H vs Q E hr h => ?_)
  · obtain ⟨a, b, x, y, e, f, rfl, _⟩ := h
    rfl
  · obtain ⟨a, b, x, y, e, f, rfl, ⟨dx, an, ab, ae, u, l, h1, ⟨dn, hdn⟩, h3, h4, h5⟩, ⟨dx', an', ab', ae', u', l', h1', ⟨dn', hdn'⟩, h3', h4', h5'⟩, k⟩ := h
    refine ⟨_, (pss_one (ps_ret (pe_and (pe_cmpR op_eq (pe_fld (pe_fld (pv 0) rfl) rfl) (pe_fld (pe_fld (pv 1) rfl) rfl) (nomark _)) (pe_one (pe_cmpR op_eq (pe_fld (pe_fld (pv 0) rfl) rfl) (pe_fld (pe_fld (pv 1) rfl) rfl) (nomark _)))))), ?_⟩
    refine ⟨_, rfl, a, _, dx, _, _, rfl, h1, T.cl_Sound, T.a_Sound_note, lk_Sound_note .., an, _, dn, _, _, rfl, hdn, T.cl_Note, T.a_Note_voice, lk_Note_voice ..,
      _, rfl, b, _, dx', _, _, rfl, h1', T.cl_Sound, T.a_Sound_note, lk_Sound_note .., an', _, dn', _, _, rfl, hdn', T.cl_Note, T.a_Note_voice, lk_Note_voice .., rfl, _, rfl, iteE (fun c => ?_) (fun c => ?_)⟩
    · refine ⟨_, rfl, a, _, dx, _, _, rfl, h1, T.cl_Sound, T.a_Sound_note, lk_Sound_note .., an, _, dn, _, _, rfl, hdn, T.cl_Note, T.a_Note_pitch, lk_Note_pitch ..,
        _, rfl, b, _, dx', _, _, rfl, h1', T.cl_Sound, T.a_Sound_note, lk_Sound_note .., an', _, dn', _, _, rfl, hdn', T.cl_Note, T.a_Note_pitch, lk_Note_pitch .., rfl, ?_⟩
      refine qB k ?_
      rw [Bool.eq_iff_iff, XM.alike_iff, decide_eq_true_eq]
      constructor
      · rintro ⟨_, h⟩
        rw [h]
      · intro h
        have := V.int.inj h
        omega
    · refine qB k ?_
      rw [Bool.eq_iff_iff, XM.alike_iff]
      constructor
      · rintro ⟨h, _⟩
        exact absurd (by omega) c
      · intro h
        exact absurd h Bool.false_ne_true
end
end XW
namespace XW
open PySem PySem.Spec PyProof.Rows L2
open Sw70 (Mark Swing Note Piece rat less)
open XM (Frac Str4 Pl)
section
variable {P : Program} {w : World} {K : PySem.W.Frag} {mg : Str → Option Value} {base : Heap}
def fldAt (H : Hp) (f : Str) (v : V) : V := match v with
  | .ref a => match H a with
    | some (.ins _ _ fs) => (fs.lookup f).getD .non
    | _ => .non
  | _ => .non
def intOf : V → Int
  | .int n => n
  | _ => 0
theorem fldAt_of {H : Hp} {f : Str} {a C dx : Addr} {fs : List (Str × V)} {v : V} (h : H a = some (.ins C dx fs)) (l : fs.lookup f = some v) : fldAt H f (.ref a) = v := by
  unfold fldAt
  simp only [h, l]
  rfl
def sndKey (H : Hp) (v : V) : List Int := [intOf (fldAt H "voice" (fldAt H "note" v)), intOf (fldAt H "pitch" (fldAt H "note" v)), intOf (fldAt H "first" (fldAt H "note" v)), intOf (fldAt H "number" v)]
theorem sndKey_of {T : Txt K mg} {H : Hp} {a : Addr} {x : Pl} {e : Rat} (h : SndAt T H a x e) : sndKey H (.ref a) = XM.key4 x := by
  obtain ⟨dx, an, ab, ae, u, l, h1, ⟨dn, hdn⟩, h3, h4, h5⟩ := h
  unfold sndKey
  rw [fldAt_of h1 (lk_Sound_note ..), fldAt_of h1 (lk_Sound_number ..), fldAt_of hdn (lk_Note_voice ..), fldAt_of hdn (lk_Note_pitch ..), fldAt_of hdn (lk_Note_first ..)]
  rfl
theorem SndAt.num {T : Txt K mg} {H : Hp} {a : Addr} {x y : Pl} {e f : Rat} (h : SndAt T H a x e) (g : SndAt T H a y f) : x.num = y.num := by
  obtain ⟨dx, an, ab, ae, u, l, h1, _⟩ := h
  obtain ⟨dx', an', ab', ae', u', l', h1', _⟩ := g
  have e1 := fldAt_of h1 (lk_Sound_number ..)
  have e2 := fldAt_of h1' (lk_Sound_number ..)
  rw [e1] at e2
  have := V.int.inj e2
  omega
theorem no_number_Note (x0 x1 x2 x3 x4 x5 x6 : V) : (fs_Note x0 x1 x2 x3 x4 x5 x6).lookup ("number" : Str) = none := by
  unfold fs_Note
  rw [lk_tl (by decide +kernel), lk_tl (by decide +kernel), lk_tl (by decide +kernel), lk_tl (by decide +kernel), lk_tl (by decide +kernel), lk_tl (by decide +kernel), lk_tl (by decide +kernel)]
  rfl
theorem note_ne {T : Txt K mg} {H : Hp} {a b C dx : Addr} {y : Note} {fs : List (Str × V)} {v : V} (h : NoteAt T H a y) (g : H b = some (.ins C dx fs)) (l : fs.lookup ("number" : Str) = some v) : a ≠ b := by
  obtain ⟨dn, hdn⟩ := h
  rintro rfl
  rw [g] at hdn
  have h := Option.some.inj hdn
  injection h with _ _ h3
  rw [h3, no_number_Note] at l
  cases l
theorem SndAt.upd {T : Txt K mg} {H : Hp} {a b C dx : Addr} {x : Pl} {e : Rat} {fs : List (Str × V)} {v : V} {o : HO} (h : SndAt T H a x e) (g : H b = some (.ins C dx fs)) (l : fs.lookup ("number" : Str) = some v) (hab : a ≠ b) : SndAt T (upd H b o) a x e := by
  obtain ⟨dx', an, ab, ae, u, l', h1, h2, h3, h4, h5⟩ := h
  obtain ⟨dn, hdn⟩ := id h2
  exact ⟨dx', an, ab, ae, u, l', by rw [upd_ne hab]; exact h1, ⟨dn, by rw [upd_ne (note_ne h2 g l)]; exact hdn⟩, by rw [upd_ne (ne_of h3 g (by intro z; cases z))]; exact h3, by rw [upd_ne (ne_of h4 g (by intro z; cases z))]; exact h4, h5⟩
/-- a sound whose end is settled -/
def SndEnd (T : Txt K mg) (q : Piece) (H : Hp) (a : Addr) (x : Pl) : Prop := ∃ e, SndAt T H a x e ∧ 0 ≤ e ∧ e ≤ 1000000 ∧ q.time e = XM.offOf q.plain (XM.snd q x)
theorem SndEnd.same {T : Txt K mg} {q : Piece} {H H' : Hp} {a : Addr} {x : Pl} (h : SndEnd T q H a x) (s : Same H H') : SndEnd T q H' a x := let ⟨e, h1, h2⟩ := h; ⟨e, h1.same s, h2⟩
def spEnd (T : Txt K mg) : Sp := fun vs H Q _ => ∃ (l : Addr) (ss : List Addr) (q : Piece), vs = [.ref l] ∧ H l = some (.lst (ss.map V.ref)) ∧ Paired (fun a (x : Pl) => SndAt T H a x x.e) ss (XM.pls q) ∧ ss.Nodup ∧ XM.POk q ∧
  ∀ H' : Hp, (∀ b o, H b = some o → b ∉ ss → H' b = some o) → Paired (SndEnd T q H') ss (XM.pls q) → Q .non H'
theorem pls_inj {q : Piece} {x y : Pl} (hx : x ∈ XM.pls q) (hy : y ∈ XM.pls q) (e : x.num = y.num) : x = y := by
  have nums := XM.pls_nums q
  obtain ⟨i, hi, rfl⟩ := List.getElem_of_mem hx
  obtain ⟨j, hj, rfl⟩ := List.getElem_of_mem hy
  have q : i = j := by
    by_cases c : i < j
    · have := List.pairwise_iff_getElem.mp nums i j hi hj c
      omega
    · by_cases d : j < i
      · have := List.pairwise_iff_getElem.mp nums j i hj hi d
        omega
      · omega
  subst q
  rfl
theorem paired_of {α β : Type} {R : α → β → Prop} : ∀ {l : List α} {m : List β}, l.length = m.length → (∀ (i : Nat) (a : α) (b : β), l[i]? = some a → m[i]? = some b → R a b) → Paired R l m
  | [], [], _, _ => .nil
  | a :: l, b :: m, h, f => .cons (f 0 a b rfl rfl) (paired_of (by simpa using h) fun i a' b' h1 h2 => f (i + 1) a' b' h1 h2)
theorem ok_end_one_another (T : Txt K mg) : FnOk P w K mg base CX0 4 T.A_end_one_another T.D_end_one_another ["sounds"] (spEnd T) := by
  refine T.f_end_one_another.ok sc_end_one_another (fun vs H Q E h => ?_) (fun cdv A outer s H vs Q E hr h => ?_)
  · obtain ⟨l, ss, q, rfl, _⟩ := h
    rfl
  · obtain ⟨l, ss, q, rfl, hl, ps, nd, ok, k⟩ := h
    have hlen := Paired.length ps
    have hpl := XM.pls_len q
    have h200 := ok.nl
    refine ⟨_, (pss_cons (ps_set (i := 1) sc_end_one_another.nd rfl (by first | exact Or.inl rfl | exact Or.inr rfl) (pe_sortK true (ok_order_of_striking T) (hr.mono (by decide)) rfl T.n_sorted rfl T.g_order_of_striking T.b_order_of_striking (pa_cons (pv 0) pa_nil))) (pss_one (ps_for PassesOwn.never rfl (pi_zip rfl T.n_zip (pa_cons (pv 1) (pa_cons (pe_slice sl_list (pv 1) (po_some pe_int) po_none) pa_nil))) (pg_tup rfl (pgs_cons (pg_name (i := 2) sc_end_one_another.nd rfl (Or.inl rfl)) (pgs_cons (pg_name (i := 3) sc_end_one_another.nd rfl (Or.inl rfl)) pgs_nil))) (pss_one (ps_if (PW.pt (pw_and (pt_val (pe_call (ok_are_alike T) (hr.mono (by decide)) rfl T.g_are_alike T.f_are_alike.kp T.b_are_alike .nil pass0 (pa_cons (pv 2) (pa_cons (pv 3) pa_nil)))) (pw_and1 (pt_val (pe_call (ok_is_after T) (hr.mono (by decide)) rfl T.g_is_after T.f_is_after.kp T.b_is_after .nil pass0 (pa_cons (pe_fld (pv 2) rfl) (pa_cons (pe_fld (pv 3) rfl) pa_nil))))))) (pss_one (ps_fld (pv 2) (pe_fld (pv 3) rfl) rfl)) pss_nil))))), ?_⟩
    refine ⟨_, rfl, l, _, sndKey H, 4, rfl, SqL.of hl, fun H' x hx sm R hR => ?_, fun x hx => rfl, fun ys c H1 hperm hpw s1 nc hc => ?_⟩
    · obtain ⟨a, ha, rfl⟩ := List.mem_map.mp hx
      obtain ⟨x, _, hX⟩ := paired_mem ps ha
      refine ⟨a, x, x.e, rfl, hX.same sm, fun r nr => hR _ _ (Same.new nr) ?_⟩
      rw [sndKey_of hX]
      exact ⟨by simp [XM.key4], r, rfl, upd_same⟩
    obtain ⟨bs, rfl, hbs⟩ := perm_refs hperm
    obtain ⟨Tl, pT, hTp⟩ := Paired.perm hbs ps
    have ndb : bs.Nodup := hbs.nodup_iff.mpr nd
    have hbl := Paired.length pT
    have hsort : Tl.Pairwise fun a b => less (XM.key4 b) (XM.key4 a) = false := by
      rw [List.pairwise_iff_getElem] at hpw ⊢
      intro i j hi hj hij
      obtain ⟨a, ha, r1⟩ := paired_back pT (List.getElem?_eq_getElem hi)
      obtain ⟨b, hb, r2⟩ := paired_back pT (List.getElem?_eq_getElem hj)
      have la := List.getElem?_eq_some_iff.mp ha
      have lb := List.getElem?_eq_some_iff.mp hb
      have := hpw i j (by rw [List.length_map]; exact la.1) (by rw [List.length_map]; exact lb.1) hij
      rw [List.getElem_map, List.getElem_map, la.2, lb.2, sndKey_of r1, sndKey_of r2] at this
      exact this
    refine ⟨_, rfl, _, rfl, _, rfl, c, _, rfl, SqL.of hc, fun c2 nc2 => ?_⟩
    rw [cut_tail]
    have s2 : Same H1 (upd H1 c2 (.lst ((bs.map V.ref).drop 1))) := Same.new nc2
    have hc2 : upd H1 c2 (.lst ((bs.map V.ref).drop 1)) c2 = some (.lst ((bs.map V.ref).drop 1)) := upd_same
    have hcc := s2 _ _ hc
    have s3 := s1.trans s2
    revert s2 hc2 hcc s3
    generalize upd H1 c2 (.lst ((bs.map V.ref).drop 1)) = H2
    intro s2 hc2 hcc s3
    have pT2 : Paired (fun a (x : Pl) => SndAt T H2 a x x.e) bs Tl := Paired.mapP pT fun _ _ h => h.same s3
    have notin : ∀ {d : Addr} {xs : List V}, H2 d = some (.lst xs) → d ∉ bs := fun {d xs} h hm => by
      obtain ⟨x, _, dx, an, ab, ae, u, l', h1, _⟩ := paired_mem pT2 hm
      rw [h] at h1
      cases h1
    have ncc := notin hcc
    have nc22 := notin hc2
    refine ⟨c, c2, _, _, rfl, SqL.of hcc, SqL.of hc2, for_zip (K := K) (n := bs.length - 1)
      (fun i σ H' => (∃ v2 v3, σ = [some (.ref l), some (.ref c), v2, v3]) ∧ (∀ b o, H2 b = some o → b ∉ bs → H' b = some o) ∧ ∀ (j : Nat) (b : Addr) (x : Pl), bs[j]? = some b → Tl[j]? = some x → SndAt T H' b x (if j < i then XM.fin Tl j x else x.e))
      (by rw [List.length_drop, List.length_map]; omega) ⟨⟨none, none, rfl⟩, fun b o e _ => e, fun j b x hb hx => ?_⟩ (fun i σ H' _ h => ⟨SqL.of (h.2.1 _ _ hcc ncc), SqL.of (h.2.1 _ _ hc2 nc22)⟩) ?_ ?_⟩
    · obtain ⟨x', hx', r⟩ := paired_get pT2 hb
      rw [hx] at hx'
      cases hx'
      rw [if_neg (Nat.not_lt_zero j)]
      exact r
    · rintro i x y σ H' Tt hx hy ⟨⟨v2, v3, rfl⟩, hfr, hst⟩ nT
      obtain ⟨b, hb, rfl⟩ := refs_at hx
      rw [List.getElem?_drop] at hy
      obtain ⟨f, hf, rfl⟩ := refs_at (show (bs.map V.ref)[i + 1]? = some y by rw [Nat.add_comm]; exact hy)
      obtain ⟨x, hxT, _⟩ := paired_get pT2 hb
      obtain ⟨y, hyT, _⟩ := paired_get pT2 hf
      have sT : Same H' (upd H' Tt (.tup [.ref b, .ref f])) := Same.new nT
      have hfr3 : ∀ b' o, H2 b' = some o → b' ∉ bs → upd H' Tt (.tup [.ref b, .ref f]) b' = some o := fun b' o e hn => sT _ _ (hfr b' o e hn)
      have hst3 : ∀ (j : Nat) (b' : Addr) (x : Pl), bs[j]? = some b' → Tl[j]? = some x → SndAt T (upd H' Tt (.tup [.ref b, .ref f])) b' x (if j < i then XM.fin Tl j x else x.e) := fun j b' x h1 h2 => (hst j b' x h1 h2).same sT
      revert hfr3 hst3
      generalize upd H' Tt (.tup [.ref b, .ref f]) = H3
      intro hfr3 hst3
      have hbx := hst3 i b x hb hxT
      rw [if_neg (Nat.lt_irrefl i)] at hbx
      have hfy := hst3 (i + 1) f y hf hyT
      rw [if_neg (by omega)] at hfy
      have xin := XM.pls_e ok (hTp.mem_iff.mp (List.mem_of_getElem? hxT))
      have efin : XM.fin Tl i x = if XM.alike x y = true ∧ rat y.note.start < x.e then rat y.note.start else x.e := by
        unfold XM.fin
        rw [hyT]
      have stay : ¬ (XM.alike x y = true ∧ rat y.note.start < x.e) → ∀ (j : Nat) (b' : Addr) (x' : Pl), bs[j]? = some b' → Tl[j]? = some x' → SndAt T H3 b' x' (if j < i + 1 then XM.fin Tl j x' else x'.e) := fun hn j b' x' h1 h2 => by
        have := hst3 j b' x' h1 h2
        by_cases c1 : j < i
        · rw [if_pos c1] at this
          rw [if_pos (by omega)]
          exact this
        · rw [if_neg c1] at this
          by_cases c3 : j = i
          · subst c3
            rw [hxT] at h2
            cases h2
            rw [if_pos (by omega), efin, if_neg hn]
            exact this
          · rw [if_neg (by omega)]
            exact this
      refine ⟨_, rfl, _, rfl, b, f, x, y, x.e, y.e, rfl, hbx, hfy, _, rfl, iteB (fun al => ?_) (fun al => ?_)⟩
      · obtain ⟨dx, an, ab, ae, u, l', g1, g2, g3, g4, g5, g6⟩ := id hbx
        obtain ⟨dx', an', ab', ae', u', l'', g1', g2', g3', g4', g5', g6'⟩ := id hfy
        have gp := g5.pos
        refine ⟨_, rfl, b, _, dx, _, _, rfl, g1, T.cl_Sound, T.a_Sound_ending, lk_Sound_ending .., _, rfl, f, _, dx', _, _, rfl, g1', T.cl_Sound, T.a_Sound_beginning, lk_Sound_beginning ..,
          ae, ab', u, l', y.note.start, 1, rfl, g4, g3', mulR (by decide) (by decide), mulR (by omega) (by omega), _, rfl, iteD (fun h7 => ?_) (fun h7 => ?_)⟩
        · rw [Int.mul_one] at h7
          have h8 : rat y.note.start < x.e := (g5.gt_iff y.note.start).mpr h7
          refine ⟨_, rfl, f, _, dx', _, _, rfl, g1', T.cl_Sound, T.a_Sound_beginning, lk_Sound_beginning .., _, rfl, b, _, dx, _, rfl, g1, T.cl_Sound, T.a_Sound_ending, (by show 4 < 1000; decide), ?_⟩
          rw [pt_Sound_ending]
          refine ⟨⟨_, _, rfl⟩, fun b' o e hn => ?_, fun j b' x' h1 h2 => ?_⟩
          · rw [upd_ne (fun z => hn (by rw [z]; exact List.mem_of_getElem? hb))]
            exact hfr3 b' o e hn
          · by_cases c3 : j = i
            · subst c3
              rw [hb] at h1
              cases h1
              rw [hxT] at h2
              cases h2
              rw [if_pos (by omega), efin, if_pos ⟨al, h8⟩]
              obtain ⟨dn, hdn⟩ := id g2
              exact ⟨dx, an, ab, ab', y.note.start, 1, upd_same, ⟨dn, by rw [upd_ne (note_ne g2 g1 (lk_Sound_number ..))]; exact hdn⟩, by rw [upd_ne (ne_of g3 g1 (by intro z; cases z))]; exact g3, by rw [upd_ne (ne_of g3' g1 (by intro z; cases z))]; exact g3', Frac.nat _, by decide⟩
            · have hne : b' ≠ b := fun z => c3 (nd_ix ndb h1 (by rw [z]; exact hb))
              have := (hst3 j b' x' h1 h2).upd (o := .ins T.C_Sound dx (fs_Sound (.int x.num) (.ref an) (.ref ab) (.ref ab'))) g1 (lk_Sound_number ..) hne
              by_cases c1 : j < i
              · rw [if_pos c1] at this
                rw [if_pos (by omega)]
                exact this
              · rw [if_neg c1] at this
                rw [if_neg (by omega)]
                exact this
        · rw [Int.mul_one] at h7
          exact ⟨⟨_, _, rfl⟩, hfr3, stay fun z => h7 ((g5.gt_iff y.note.start).mp z.2)⟩
      · exact iteF ⟨⟨_, _, rfl⟩, hfr3, stay fun z => by rw [z.1] at al; cases al⟩
    · rintro σ H' ⟨⟨v2, v3, rfl⟩, hfr, hst⟩
      refine k H' (fun b o e hn => hfr b o (s3 _ _ e) fun hm => hn (hbs.mem_iff.mp hm)) (paired_of hlen fun i a x ha hx => ?_)
      have hm : a ∈ bs := hbs.mem_iff.mpr (List.mem_of_getElem? ha)
      obtain ⟨j, hj⟩ := List.getElem?_of_mem hm
      obtain ⟨x', hx', r⟩ := paired_get pT hj
      obtain ⟨x2, hx2, r2⟩ := paired_get ps ha
      rw [hx] at hx2
      cases hx2
      have exx : x' = x := pls_inj (hTp.mem_iff.mp (List.mem_of_getElem? hx')) (List.mem_of_getElem? hx) (r.num r2)
      subst exx
      have := hst j a x' hj hx'
      have jl : j < bs.length := (List.getElem?_eq_some_iff.mp hj).1
      have e : (if j < bs.length - 1 then XM.fin Tl j x' else x'.e) = XM.fin Tl j x' := by
        by_cases c : j < bs.length - 1
        · rw [if_pos c]
        · rw [if_neg c]
          unfold XM.fin
          rw [List.getElem?_eq_none (by omega)]
      rw [e] at this
      have fi := XM.fin_in ok hTp hx'
      exact ⟨_, this, fi.1, fi.2, (XM.ends_ok ok hTp hsort hx').symm⟩
end
end XW
namespace XW
open PySem PySem.Spec PyProof.Rows L2
open Sw70 (Mark Swing Note Piece rat less)
open XM (Frac Str4 Pl)
theorem for_vals {d : Addr} {o : Obj} {kvs : List (Key × V)} {g : TG} {tb : TS} {D : Ends} {σ : L2.St} {H : Hp} (Pv : Nat → L2.St → Hp → Prop) (h0 : Pv 0 σ H) (hl : ∀ i σ H, i ≤ kvs.length → Pv i σ H → H d = some (.frz o (.dK kvs)))
    (hs : ∀ i k x σ H, kvs[i]? = some (k, x) → Pv i σ H → g x σ H fun σ2 H2 => tb { D with nx := Pv (i + 1), ct := Pv (i + 1), bk := D.nx } σ2 H2) (hd : ∀ σ H, Pv kvs.length σ H → D.nx σ H) :
    ∃ W : Nat → Nat → L2.St → Hp → Prop, (∃ m, W 0 m σ H) ∧ ∀ i m σ H, W i m σ H →
      ((Itd d o kvs).stop i H ∧ D.nx σ H) ∨ ((Itd d o kvs).go i H ∧ ∃ N : L2.St → Hp → Prop, (∀ σ' H', N σ' H' → ∃ m', m' < m ∧ W (i + 1) m' σ' H') ∧ ∀ x H', (Itd d o kvs).yld i H x H' → g x σ H' fun σ2 H2 => tb { D with nx := N, ct := N, bk := D.nx } σ2 H2) := by
  refine ⟨fun i m σ H => m = kvs.length - i ∧ i ≤ kvs.length ∧ Pv i σ H, ⟨kvs.length, by simp, Nat.zero_le _, h0⟩, ?_⟩
  rintro i m σ H ⟨rfl, hi, p⟩
  have q := hl i σ H hi p
  by_cases hlt : i < kvs.length
  · refine .inr ⟨⟨q, hlt⟩, Pv (i + 1), fun σ' H' p' => ⟨kvs.length - (i + 1), by omega, rfl, hlt, p'⟩, fun x H' y => ?_⟩
    obtain ⟨e, k, hk⟩ := y
    subst e
    exact hs i k x σ _ hk p
  · have e : i = kvs.length := by omega
    subst e
    exact .inl ⟨⟨q, Nat.le_refl _⟩, hd σ H p⟩
section
variable {P : Program} {w : World} {K : PySem.W.Frag} {mg : Str → Option Value} {base : Heap}
theorem snd_lst {T : Txt K mg} {H : Hp} {a l : Addr} {x : Pl} {e : Rat} {xs ys : List V} (h : SndAt T H a x e) (g : H l = some (.lst xs)) : SndAt T (upd H l (.lst ys)) a x e := by
  obtain ⟨dx', an, ab, ae, u, l', h1, ⟨dn, hdn⟩, h3, h4, h5⟩ := h
  exact ⟨dx', an, ab, ae, u, l', by rw [upd_ne (ne_of h1 g (by intro z; cases z))]; exact h1, ⟨dn, by rw [upd_ne (ne_of hdn g (by intro z; cases z))]; exact hdn⟩, by rw [upd_ne (ne_of h3 g (by intro z; cases z))]; exact h3, by rw [upd_ne (ne_of h4 g (by intro z; cases z))]; exact h4, h5⟩
def plsTo (q : Piece) (i : Nat) : List Pl := (q.notes.zipIdx.take i).filterMap (XM.plOf q)
theorem plsTo_snoc {q : Piece} {i : Nat} {y : Note} (h : q.notes[i]? = some y) : plsTo q (i + 1) = plsTo q i ++ (if q.begun i = true then [] else [⟨i, y, Sw70.held q (Sw70.endOf (XM.lastNote q i y))⟩]) := by
  have e : q.notes.zipIdx[i]? = some (y, i) := by
    rw [List.getElem?_zipIdx, h]
    simp
  unfold plsTo
  rw [take_snoc e, List.filterMap_append, List.filterMap_cons, List.filterMap_nil]
  congr 1
  unfold XM.plOf
  by_cases c : q.begun i = true
  · rw [if_pos c, if_pos c]
  · rw [if_neg c, if_neg c]
theorem plsTo_all (q : Piece) : plsTo q q.notes.length = XM.pls q := by
  unfold plsTo XM.pls
  rw [List.take_of_length_le (by rw [List.length_zipIdx]; exact Nat.le_refl _)]
theorem plsTo_len (q : Piece) (i : Nat) : (plsTo q i).length ≤ i := by
  unfold plsTo
  refine Nat.le_trans (List.length_filterMap_le _ _) ?_
  rw [List.length_take]
  exact Nat.min_le_left _ _
def spSounds (T : Txt K mg) : Sp := fun vs H Q _ => ∃ (p dx : Addr) (L : List Addr) (q : Piece), vs = [.ref p] ∧ ScoreAt T H p dx L q ∧ XM.POk q ∧
  ∀ (H' : Hp) (r : Addr) (ss : List Addr), Same H H' → H r = none → H' r = some (.lst (ss.map V.ref)) → Paired (SndEnd T q H') ss (XM.pls q) → Q (.ref r) H'
theorem ok_sounds_of (T : Txt K mg) : FnOk P w K mg base CX0 5 T.A_sounds_of T.D_sounds_of ["score"] (spSounds T) := by
  refine T.f_sounds_of.ok sc_sounds_of (fun vs H Q E h => ?_) (fun cdv A outer s H vs Q E hr h => ?_)
  · obtain ⟨p, dx, L, q, rfl, _⟩ := h
    rfl
  · obtain ⟨p, dx, L, q, rfl, ⟨lm, ls, lp', ln, rfl, S⟩, ok, k⟩ := h
    obtain ⟨ap, hlp, pd⟩ := S.d
    obtain ⟨an, hln, pn⟩ := S.n
    have hlen := Paired.length pn
    have h200 := ok.nl
    refine ⟨_, (pss_cons (ps_set (i := 1) sc_sounds_of.nd rfl (by first | exact Or.inl rfl | exact Or.inr rfl) (pe_fld (pv 0) rfl)) (pss_cons (ps_set (i := 2) sc_sounds_of.nd rfl (by first | exact Or.inl rfl | exact Or.inr rfl) (pe_call (ok_ties_of T) (hr.mono (by decide)) rfl T.g_ties_of T.f_ties_of.kp T.b_ties_of .nil pass0 (pa_cons (pv 1) pa_nil))) (pss_cons (ps_set (i := 3) sc_sounds_of.nd rfl (by first | exact Or.inl rfl | exact Or.inr rfl) pe_dnewK) (pss_cons (ps_lock (ps_for PassesOwn.never rfl (pi_values (pv 2)) (pg_name (i := 4) sc_sounds_of.nd rfl (Or.inl rfl)) (pss_one (ps_dput (hu_of hr) (pv 3) (pv 4) pe_bl rfl)))) (pss_cons (ps_set (i := 5) sc_sounds_of.nd rfl (by first | exact Or.inl rfl | exact Or.inr rfl) (pe_lst pa_nil)) (pss_cons (ps_for PassesOwn.never rfl (pi_enum rfl T.n_enumerate (pa_cons (pv 1) pa_nil)) (pg_tup rfl (pgs_cons (pg_name (i := 4) sc_sounds_of.nd rfl (Or.inl rfl)) (pgs_cons (pg_name (i := 6) sc_sounds_of.nd rfl (Or.inl rfl)) pgs_nil))) (pss_one (ps_if (pt_cmp (pc_dnotin (hu_of hr) (pv 4) (pv 3))) (pss_cons (ps_set (i := 7) sc_sounds_of.nd rfl (by first | exact Or.inl rfl | exact Or.inr rfl) (pe_ix ix_list (pv 1) (pe_call (ok_last_number T) (hr.mono (by decide)) rfl T.g_last_number T.f_last_number.kp T.b_last_number .nil pass0 (pa_cons (pv 4) (pa_cons (pv 2) pa_nil))) (fun _ _ => rfl))) (pss_one (ps_expr (pe_bm PySem.F.plainAttrs_list PySem.F.slot_list_append PySem.F.type_list_append mt_append (pv 5) (pa_cons (pe_make T.k_Sound (ok_Sound_init T) (hr.mono (by decide)) rfl T.g_Sound T.b_Sound_init .nil pass0 (pa_cons (pv 4) (pa_cons (pv 6) (pa_cons (pe_call (ok_place_of_end T) (hr.mono (by decide)) rfl T.g_place_of_end T.f_place_of_end.kp T.b_place_of_end .nil pass0 (pa_cons (pv 7) (pa_cons (pe_fld (pv 0) rfl) pa_nil))) pa_nil)))) pa_nil))))) pss_nil))) (pss_cons (ps_expr (pe_call (ok_end_one_another T) (hr.mono (by decide)) rfl T.g_end_one_another T.f_end_one_another.kp T.b_end_one_another .nil pass0 (pa_cons (pv 5) pa_nil))) (pss_one (ps_ret (pv 5)))))))))), ?_⟩
    refine ⟨_, rfl, p, _, dx, _, _, rfl, S.obj, T.cl_Score, T.a_Score_notes, lk_Score_notes .., _, rfl, ln, an, q, rfl, hln, pn, h200, fun H1 td kt s1 htd hties => ?_⟩
    intro bg nbg
    have s2 : Same H1 (upd H1 bg (.dK [])) := Same.new nbg
    have hbg2 : upd H1 bg (.dK []) bg = some (.dK []) := upd_same
    have htd2 := s2 _ _ htd
    revert s2 hbg2 htd2
    generalize upd H1 bg (.dK []) = H2
    intro s2 hbg2 htd2
    have ntb : bg ≠ td := (ne_of_none htd nbg).symm
    refine ⟨td, .dK kt, htd2, trivial, fun od => ?_⟩
    refine ⟨_, rfl, td, od, kt, rfl, upd_same, for_vals
      (fun i σ H' => ∃ (kb : List (Key × V)) (v4 : Option V), σ = [some (.ref p), some (.ref ln), some (.ref td), some (.ref bg), v4, none, none, none] ∧ H' td = some (.frz od (.dK kt)) ∧ H' bg = some (.dK kb) ∧ (∀ b o, H1 b = some o → b ≠ td → H' b = some o) ∧ kb.length ≤ i ∧
        ∀ j : Nat, (valV kb (Sum.inl (j : Int))).isSome = true ↔ ∃ (i' : Nat) (kk : Key), i' < i ∧ kt[i']? = some (kk, V.int j))
      ⟨[], none, rfl, upd_same, by rw [upd_ne ntb]; exact hbg2, fun b o e hb => by rw [upd_ne hb]; exact s2 _ _ e, Nat.le_refl 0, fun j => ⟨fun h => (by cases h), fun ⟨i', _, h, _⟩ => absurd h (Nat.not_lt_zero i')⟩⟩ (fun i σ H' _ ⟨_, _, _, e, _⟩ => e) ?_ ?_⟩
    · rintro i kk x σ H' hx ⟨kb, v4, rfl, ht', hb', hfr, hkl, hv⟩
      obtain ⟨j0, j, ej, _⟩ := hties.2.2 (kk, x) (List.mem_of_getElem? hx)
      have ex : x = V.int (j : Nat) := (Prod.mk.inj ej).2
      subst ex
      have hil : i < kt.length := (List.getElem?_eq_some_iff.mp hx).1
      have htl := hties.1
      refine ⟨_, rfl, _, rfl, bg, _, rfl, DPut.k (k := Sum.inl (j : Int)) hb' (small1000 (by omega)), ?_⟩
      refine ⟨putK kb (Sum.inl (j : Int)) (.bl true), _, rfl, by rw [upd_ne (Ne.symm ntb)]; exact ht', upd_same, fun b o e hb => ?_, Nat.le_trans (length_putK ..) (by omega), fun j' => ?_⟩
      · rw [upd_ne (ne_of_none e nbg)]
        exact hfr b o e hb
      · rw [valV_put]
        by_cases c : j' = j
        · subst c
          rw [if_pos rfl]
          exact ⟨fun _ => ⟨i, kk, by omega, hx⟩, fun _ => rfl⟩
        · rw [if_neg (by intro z; injection z with z; omega), hv j']
          constructor
          · rintro ⟨i', kk', h1, h2⟩
            exact ⟨i', kk', by omega, h2⟩
          · rintro ⟨i', kk', h1, h2⟩
            refine ⟨i', kk', ?_, h2⟩
            by_cases c2 : i' = i
            · subst c2
              rw [hx] at h2
              have := V.int.inj (Prod.mk.inj (Option.some.inj h2)).2
              omega
            · omega
    rintro σ H' ⟨kb, v4, rfl, ht', hb', hfr, hkl, hv⟩
    refine ⟨ht', ?_⟩
    have hbeg : ∀ j : Nat, (valV kb (Sum.inl (j : Int))).isSome = q.begun j := fun j => by
      rw [Bool.eq_iff_iff, hv j, XM.begun_iff]
      constructor
      · rintro ⟨i', kk, _, h2⟩
        obtain ⟨j0, j1, ej, hnx⟩ := hties.2.2 _ (List.mem_of_getElem? h2)
        have := V.int.inj (Prod.mk.inj ej).2
        exact ⟨j0, by rw [hnx]; congr 1; omega⟩
      · rintro ⟨i0, hnx⟩
        have hval := hties.val i0
        rw [hnx] at hval
        obtain ⟨p', hp', e'⟩ := Option.map_eq_some_iff.mp (show (kt.find? fun kv => decide (kv.1 = Sum.inl (i0 : Int))).map (·.2) = some (V.int (j : Nat)) from hval)
        obtain ⟨i', hi'⟩ := List.getElem?_of_mem (List.mem_of_find?_eq_some hp')
        refine ⟨i', p'.1, (List.getElem?_eq_some_iff.mp hi').1, ?_⟩
        rw [hi', ← e']
    have s3 : Same H1 (upd H' td (.dK kt)) := fun b o e => by
      by_cases c : b = td
      · subst c
        rw [upd_same, ← htd, e]
      · rw [upd_ne c]
        exact hfr b o e c
    have htd3 : upd H' td (.dK kt) td = some (.dK kt) := upd_same
    have hbg3 : upd H' td (.dK kt) bg = some (.dK kb) := by rw [upd_ne ntb]; exact hb'
    have s13 := s1.trans s3
    revert s3 htd3 hbg3 s13
    generalize upd H' td (.dK kt) = H3
    intro s3 htd3 hbg3 s13
    refine ⟨Nat.zero_le _, fun sl nsl => ?_⟩
    have s4 : Same H3 (upd H3 sl (.lst [])) := Same.new nsl
    have hsl4 : upd H3 sl (.lst []) sl = some (.lst []) := upd_same
    have htd4 := s4 _ _ htd3
    have hbg4 := s4 _ _ hbg3
    have s14 := s13.trans s4
    have nHsl : H sl = none := s13.free nsl
    have ntsl := ne_of_none htd3 nsl
    have nbsl := ne_of_none hbg3 nsl
    revert s4 hsl4 htd4 hbg4 s14
    generalize upd H3 sl (.lst []) = H4
    intro s4 hsl4 htd4 hbg4 s14
    refine ⟨_, rfl, ln, _, rfl, SqL.of (s14 _ _ hln), for_enum (K := K) (xs := an.map V.ref)
      (fun i σ H' => ∃ (ss : List Addr) (v4 v6 v7 : Option V), σ = [some (.ref p), some (.ref ln), some (.ref td), some (.ref bg), v4, some (.ref sl), v6, v7] ∧ Same H H' ∧ H' td = some (.dK kt) ∧ H' bg = some (.dK kb) ∧ H' sl = some (.lst (ss.map V.ref)) ∧ ss.Nodup ∧ (∀ a ∈ ss, H a = none) ∧
        Paired (fun a (x : Pl) => SndAt T H' a x x.e) ss (plsTo q i)) ⟨[], _, none, none, rfl, s14, htd4, hbg4, hsl4, List.nodup_nil, fun a h => by simp at h, .nil⟩ (fun i σ H' _ ⟨_, _, _, _, _, e, _⟩ => SqL.of (e _ _ hln)) ?_ ?_⟩
    · rintro i x σ H5 Tt hx ⟨ss, w4, w6, w7, rfl, sm, ht5, hb5, hs5, nds, hnew, pss⟩ nT
      obtain ⟨a, ha, rfl⟩ := refs_at hx
      obtain ⟨y, hy, hY⟩ := paired_get pn ha
      have hil : i < q.notes.length := (List.getElem?_eq_some_iff.mp hy).1
      have hssl : ss.length ≤ i := by
        rw [Paired.length pss]
        exact plsTo_len q i
      have sT : Same H5 (upd H5 Tt (.tup [.int i, .ref a])) := Same.new nT
      have ht6 := sT _ _ ht5
      have hb6 := sT _ _ hb5
      have hs6 := sT _ _ hs5
      have s6 := sm.trans sT
      have pss6 := Paired.mapP pss fun _ _ h => SndAt.same h sT
      revert sT ht6 hb6 hs6 s6 pss6
      generalize upd H5 Tt (.tup [.int i, .ref a]) = H6
      intro sT ht6 hb6 hs6 s6 pss6
      refine ⟨_, rfl, _, rfl, bg, _, rfl, DGet.k (k := Sum.inl (i : Int)) hb6, _, rfl, ?_⟩
      rw [hbeg i]
      refine iteNB (fun hb => ?_) (fun hb => ?_)
      · -- a sound of its own
        have hlm := XM.lastNote_mem ok hy
        obtain ⟨al, hal, hAL⟩ := paired_back pn hlm
        refine ⟨_, rfl, _, rfl, _, rfl, i, td, kt, q, rfl, ht6, hties, ok, ln, _, _, _, rfl, rfl, SqL.of (s6 _ _ hln), atI_nat (v := V.ref al) (by rw [List.getElem?_map, hal]; rfl), ?_⟩
        refine ⟨_, rfl, .inl ⟨rfl, _, SqL.of hs6⟩, _, rfl, _, rfl, _, rfl, _, rfl, p, _, dx, _, _, rfl, s6 _ _ S.obj, T.cl_Score, T.a_Score_pedals, lk_Score_pedals ..,
          al, lp', _, ap, q, rfl, hAL.same s6, ok.no _ (List.mem_of_getElem? hlm), s6 _ _ hlp, Paired.mapP pd fun _ _ h => h.same s6, fun H7 ae u d s7 hae hfr' hd' => ?_⟩
        intro x dx' nx nd' ne
        have s8 : Same H7 (upd (upd H7 dx' (.own x)) x (.ins T.C_Sound dx' [])) := Same.made2 nx nd'
        refine ⟨x, dx', a, ae, i, y, rfl, upd_same, ((hY.same s6).same s7).same s8, fun H9 ab g1 g2 g3 => ⟨rfl, ?_⟩⟩
        have s9 : Same H7 H9 := fun b o e => g3 b o (s8 _ _ e) (ne_of_none e nx)
        have hs9 := s9 _ _ (s7 _ _ hs6)
        have nHx : H x = none := (s6.trans s7).free nx
        refine ⟨sl, _, _, rfl, rfl, hs9, (by rw [List.length_map]; exact small1000 (by omega)), ss ++ [x], _, _, _, rfl, fun b o e => ?_, ?_, ?_, ?_, ?_, ?_, ?_⟩
        · rw [upd_ne (ne_of_none e nHsl)]
          exact s9 _ _ (s7 _ _ (s6 _ _ e))
        · rw [upd_ne ntsl]
          exact s9 _ _ (s7 _ _ ht6)
        · rw [upd_ne nbsl]
          exact s9 _ _ (s7 _ _ hb6)
        · rw [upd_same, List.map_append]
          rfl
        · refine nd_snoc nds fun hm => ?_
          obtain ⟨x', _, dz, _, _, _, _, _, h1, _⟩ := paired_mem pss6 hm
          have := s7 _ _ h1
          rw [nx] at this
          cases this
        · intro a' ha'
          rcases List.mem_append.mp ha' with ha' | ha'
          · exact hnew a' ha'
          · rw [List.mem_singleton.mp ha']
            exact nHx
        · rw [plsTo_snoc hy, hb, if_neg Bool.false_ne_true]
          refine Paired.append' (Paired.mapP pss6 fun _ _ h => snd_lst ((SndAt.same h s7).same s9) hs9) (.cons ?_ .nil)
          exact snd_lst (x := ⟨i, y, Sw70.held q (Sw70.endOf (XM.lastNote q i y))⟩) ⟨dx', a, ab, ae, u, d, g1, ((hY.same s6).same s7).same s9, g2, s9 _ _ hae, hfr', hd'⟩ hs9
      · refine ⟨ss, _, _, _, rfl, s6, ht6, hb6, hs6, nds, hnew, ?_⟩
        rw [plsTo_snoc hy, if_pos hb, List.append_nil]
        exact pss6
    · rintro σ H5 ⟨ss, w4, w6, w7, rfl, sm, ht5, hb5, hs5, nds, hnew, pss⟩
      rw [List.length_map, hlen, plsTo_all] at pss
      refine ⟨_, rfl, sl, ss, q, rfl, hs5, pss, nds, ok, fun H7 fr pe => ?_⟩
      have hn : sl ∉ ss := fun hm => by
        obtain ⟨x', _, dz, _, _, _, _, _, h1, _⟩ := paired_mem pss hm
        rw [hs5] at h1
        cases h1
      refine ⟨_, rfl, k H7 sl ss (fun b o e => fr b o (sm _ _ e) fun hm => ?_) nHsl (fr _ _ hs5 hn) pe⟩
      rw [hnew b hm] at e
      cases e
end
end XW
namespace XW
open PySem PySem.Spec PyProof.Rows L2
open Sw70 (Mark Swing Note Piece rat less)
open XM (Frac Str4 Pl)
section
variable {P : Program} {w : World} {K : PySem.W.Frag} {mg : Str → Option Value} {base : Heap}
def EvAt (T : Txt K mg) (H : Hp) (a : Addr) (e : Sw70.Event) : Prop := ∃ dx, H a = some (.ins T.C_Event dx (fs_Event (.int e.time) (.int e.kind) (.int e.voice) (.int e.pitch) (.int e.loud) (.int e.note)))
theorem EvAt.same {T : Txt K mg} {H H' : Hp} {a : Addr} {m : Sw70.Event} (h : EvAt T H a m) (e : Same H H') : EvAt T H' a m := let ⟨dx, h⟩ := h; ⟨dx, e _ _ h⟩
theorem EvAt.lst {T : Txt K mg} {H : Hp} {a l : Addr} {m : Sw70.Event} {xs ys : List V} (h : EvAt T H a m) (e : H l = some (.lst xs)) : EvAt T (upd H l (.lst ys)) a m := by
  obtain ⟨dx, h⟩ := h
  exact ⟨dx, by rw [upd_ne (ne_of h e (by intro z; cases z))]; exact h⟩
def spEventI (T : Txt K mg) : Sp := fun vs H Q _ => ∃ (x dx a : Addr) (tm : Int) (kd : Nat) (s : Pl) (e : Rat), vs = [.ref x, .int tm, .int kd, .ref a] ∧ H x = some (.ins T.C_Event dx []) ∧ SndAt T H a s e ∧
  Q .non (upd H x (.ins T.C_Event dx (fs_Event (.int tm) (.int kd) (.int s.note.voice) (.int s.note.pitch) (.int ((if kd = 1 then s.note.loud else 0 : Nat) : Int)) (.int s.num))))
theorem ok_Event_init (T : Txt K mg) : FnOk P w K mg base CX0 1 T.A_Event_init T.D_Event_init ["self", "time", "kind", "sound"] (spEventI T) := by
  refine T.f_Event_init.ok sc_Event_init (fun vs H Q E h => ?_) (fun cdv A outer s H vs Q E hr h => ?_)
  · obtain ⟨x, dx, a, tm, kd, s', e, rfl, _⟩ := h
    rfl
  · obtain ⟨x, dx, a, tm, kd, s', e, rfl, hx, ⟨ds, an, ab, ae, u, l, h1, ⟨dn, hdn⟩, h3, h4, h5⟩, k⟩ := h
    have hfs : ∀ {a' C dx' : Addr} {fs : List (Str × V)} {f : Str} {v : V}, H a' = some (.ins C dx' fs) → fs.lookup f = some v → a' ≠ x := fun h l e => by
      subst e
      rw [hx] at h
      have h := Option.some.inj h
      injection h with _ _ h3
      rw [← h3] at l
      cases l
    have hax := hfs h1 (lk_Sound_number ..)
    have hnx := hfs hdn (lk_Note_voice ..)
    have g1 : ∀ {o : HO}, upd H x o a = some (.ins T.C_Sound ds (fs_Sound (.int s'.num) (.ref an) (.ref ab) (.ref ae))) := fun {o} => by rw [upd_ne hax]; exact h1
    have g2 : ∀ {o : HO}, upd H x o an = some (.ins T.C_Note dn (fs_Note (.int s'.note.voice) (.int s'.note.pitch) (.int s'.note.start) (.int s'.note.long) (.int s'.note.loud) (.int s'.note.part) (.int (bi s'.note.tied)))) := fun {o} => by rw [upd_ne hnx]; exact hdn
    refine ⟨_, (pss_cons (ps_fld (pv 0) (pv 1) rfl) (pss_cons (ps_fld (pv 0) (pv 2) rfl) (pss_cons (ps_fld (pv 0) (pe_fld (pe_fld (pv 3) rfl) rfl) rfl) (pss_cons (ps_fld (pv 0) (pe_fld (pe_fld (pv 3) rfl) rfl) rfl) (pss_cons (ps_fld (pv 0) (pe_ifExp (pt_cmpR op_eq (pv 2) (pgc rfl T.c_BEGINNING) (nomark _)) (pe_fld (pe_fld (pv 3) rfl) rfl) pe_int) rfl) (pss_one (ps_fld (pv 0) (pe_fld (pv 3) rfl) rfl))))))), ?_⟩
    refine ⟨_, rfl, _, rfl, x, _, dx, _, rfl, hx, T.cl_Event, T.a_Event_time, (by decide), ?_⟩
    refine ⟨_, rfl, _, rfl, x, _, dx, _, rfl, upd_same, T.cl_Event, T.a_Event_kind, Nat.lt_of_le_of_lt (lp (Nat.le_refl 0)) (by decide), ?_⟩
    rw [upd_upd]
    refine ⟨_, rfl, a, _, ds, _, _, rfl, g1, T.cl_Sound, T.a_Sound_note, lk_Sound_note .., an, _, dn, _, _, rfl, g2, T.cl_Note, T.a_Note_voice, lk_Note_voice .., _, rfl, x, _, dx, _, rfl, upd_same, T.cl_Event, T.a_Event_voice, Nat.lt_of_le_of_lt (lp (lp (Nat.le_refl 0))) (by decide), ?_⟩
    rw [upd_upd]
    refine ⟨_, rfl, a, _, ds, _, _, rfl, g1, T.cl_Sound, T.a_Sound_note, lk_Sound_note .., an, _, dn, _, _, rfl, g2, T.cl_Note, T.a_Note_pitch, lk_Note_pitch .., _, rfl, x, _, dx, _, rfl, upd_same, T.cl_Event, T.a_Event_pitch, Nat.lt_of_le_of_lt (lp (lp (lp (Nat.le_refl 0)))) (by decide), ?_⟩
    rw [upd_upd]
    refine ⟨_, rfl, rfl, _, rfl, iteE (fun h6 => ?_) (fun h6 => ?_)⟩
    · rw [if_pos (by omega)] at k
      refine ⟨_, rfl, a, _, ds, _, _, rfl, g1, T.cl_Sound, T.a_Sound_note, lk_Sound_note .., an, _, dn, _, _, rfl, g2, T.cl_Note, T.a_Note_loudness, lk_Note_loudness .., _, rfl, x, _, dx, _, rfl, upd_same, T.cl_Event, T.a_Event_loudness, Nat.lt_of_le_of_lt (lp (lp (lp (lp (Nat.le_refl 0))))) (by decide), ?_⟩
      rw [upd_upd]
      refine ⟨_, rfl, a, _, ds, _, _, rfl, g1, T.cl_Sound, T.a_Sound_number, lk_Sound_number .., _, rfl, x, _, dx, _, rfl, upd_same, T.cl_Event, T.a_Event_number, Nat.lt_of_le_of_lt (lp (lp (lp (lp (lp (Nat.le_refl 0)))))) (by decide), ?_⟩
      rw [upd_upd, mk_Event]
      exact k
    · rw [if_neg (by omega)] at k
      refine ⟨_, rfl, x, _, dx, _, rfl, upd_same, T.cl_Event, T.a_Event_loudness, Nat.lt_of_le_of_lt (lp (lp (lp (lp (Nat.le_refl 0))))) (by decide), ?_⟩
      rw [upd_upd]
      refine ⟨_, rfl, a, _, ds, _, _, rfl, g1, T.cl_Sound, T.a_Sound_number, lk_Sound_number .., _, rfl, x, _, dx, _, rfl, upd_same, T.cl_Event, T.a_Event_number, Nat.lt_of_le_of_lt (lp (lp (lp (lp (lp (Nat.le_refl 0)))))) (by decide), ?_⟩
      rw [upd_upd, mk_Event]
      exact k
def spOrder (T : Txt K mg) : Sp := fun vs H Q _ => ∃ (a : Addr) (e : Sw70.Event), vs = [.ref a] ∧ EvAt T H a e ∧ ∀ r, H r = none → Q (.ref r) (upd H r (.tup (e.row.map V.int)))
theorem ok_order_of_events (T : Txt K mg) : FnOk P w K mg base CX0 1 T.A_order_of_events T.D_order_of_events ["event"] (spOrder T) := by
  refine T.f_order_of_events.ok sc_order_of_events (fun vs H Q E h => ?_) (fun cdv A outer s H vs Q E hr h => ?_)
  · obtain ⟨a, e, rfl, _⟩ := h
    rfl
  · obtain ⟨a, e, rfl, ⟨dx, h1⟩, k⟩ := h
    refine ⟨_, (pss_one (ps_ret (pe_tup (pa_cons (pe_fld (pv 0) rfl) (pa_cons (pe_fld (pv 0) rfl) (pa_cons (pe_fld (pv 0) rfl) (pa_cons (pe_fld (pv 0) rfl) (pa_cons (pe_fld (pv 0) rfl) pa_nil)))))))), ?_⟩
    exact ⟨_, rfl, a, _, dx, _, _, rfl, h1, T.cl_Event, T.a_Event_time, lk_Event_time .., _, rfl, a, _, dx, _, _, rfl, h1, T.cl_Event, T.a_Event_kind, lk_Event_kind .., _, rfl, a, _, dx, _, _, rfl, h1, T.cl_Event, T.a_Event_voice, lk_Event_voice ..,
      _, rfl, a, _, dx, _, _, rfl, h1, T.cl_Event, T.a_Event_pitch, lk_Event_pitch .., _, rfl, a, _, dx, _, _, rfl, h1, T.cl_Event, T.a_Event_number, lk_Event_number .., (by show 5 ≤ sizeLine; decide), k⟩
/-- all but one list is as it was -/
def But (l : Addr) (H H' : Hp) : Prop := ∀ b o, H b = some o → b ≠ l → H' b = some o
theorem snd_but {T : Txt K mg} {H H' : Hp} {a l : Addr} {x : Pl} {e : Rat} {xs : List V} (h : SndAt T H a x e) (g : H l = some (.lst xs)) (b : But l H H') : SndAt T H' a x e := by
  obtain ⟨dx', an, ab, ae, u, l', h1, ⟨dn, hdn⟩, h3, h4, h5⟩ := h
  exact ⟨dx', an, ab, ae, u, l', b _ _ h1 (ne_of h1 g (by intro z; cases z)), ⟨dn, b _ _ hdn (ne_of hdn g (by intro z; cases z))⟩, b _ _ h3 (ne_of h3 g (by intro z; cases z)), b _ _ h4 (ne_of h4 g (by intro z; cases z)), h5⟩
theorem sounds_at {q : Piece} {i : Nat} {x : Pl} (h : (XM.pls q)[i]? = some x) : q.sounds[i]? = some { XM.snd q x with off := XM.offOf q.plain (XM.snd q x) } := by
  rw [XM.sounds_eq]
  rw [List.getElem?_map]
  rw [show q.plain[i]? = some (XM.snd q x) by rw [XM.plain_eq, List.getElem?_map, h]; rfl]
  rfl
theorem sounds_len (q : Piece) : q.sounds.length = (XM.pls q).length := by rw [XM.sounds_eq, List.length_map, XM.plain_eq, List.length_map]
def evKey (H : Hp) (v : V) : List Int := [intOf (fldAt H "time" v), intOf (fldAt H "kind" v), intOf (fldAt H "voice" v), intOf (fldAt H "pitch" v), intOf (fldAt H "number" v)]
theorem evKey_of {T : Txt K mg} {H : Hp} {a : Addr} {e : Sw70.Event} (h : EvAt T H a e) : evKey H (.ref a) = e.row := by
  obtain ⟨dx, h1⟩ := h
  unfold evKey
  rw [fldAt_of h1 (lk_Event_time ..), fldAt_of h1 (lk_Event_kind ..), fldAt_of h1 (lk_Event_voice ..), fldAt_of h1 (lk_Event_pitch ..), fldAt_of h1 (lk_Event_number ..)]
  rfl
/-- Tempo(score) -/
theorem tempo_made {T : Txt K mg} {H : Hp} {p dx : Addr} {L : List Addr} {q : Piece} (S : ScoreAt T H p dx L q) (ok : XM.POk q) {Q : V → Hp → Prop} (k : ∀ (H' : Hp) (t : Addr), Same H H' → TempoAt T H' t q → Q (.ref t) H') :
    ∀ x dx', H x = none → H dx' = none → dx' ≠ x → spTempoI T (.ref x :: ([.ref p] ++ [])) (upd (upd H dx' (.own x)) x (.ins T.C_Tempo dx' [])) (fun v H2 => v = .non ∧ Q (.ref x) H2) E0 := by
  intro x dx' nx nd ne
  have s1 : Same H (upd (upd H dx' (.own x)) x (.ins T.C_Tempo dx' [])) := Same.made2 nx nd
  exact ⟨x, dx', p, dx, L, q, rfl, upd_same, S.same s1, ok, fun H' hT fr => ⟨rfl, k H' x (fun b o e => fr b o (s1 _ _ e) (ne_of_none e nx)) hT⟩⟩
def spEvents (T : Txt K mg) : Sp := fun vs H Q _ => ∃ (p dx : Addr) (L : List Addr) (q : Piece), vs = [.ref p] ∧ ScoreAt T H p dx L q ∧ XM.POk q ∧
  ∀ (H' : Hp) (r : Addr) (es : List Addr), Same H H' → H r = none → H' r = some (.lst (es.map V.ref)) → Paired (EvAt T H') es q.events → Q (.ref r) H'
theorem evs_len (l : List Sw70.Sound) : (l.flatMap Sw70.eventsOf).length ≤ 2 * l.length := by
  induction l with
  | nil => simp
  | cons x r ih =>
    rw [List.flatMap_cons, List.length_append, List.length_cons]
    have : (Sw70.eventsOf x).length ≤ 2 := by
      unfold Sw70.eventsOf
      split <;> simp
    omega
theorem EvAt.but {T : Txt K mg} {H H' : Hp} {a l : Addr} {m : Sw70.Event} {xs : List V} (h : EvAt T H a m) (g : H l = some (.lst xs)) (b : But l H H') : EvAt T H' a m := by
  obtain ⟨dx, h⟩ := h
  exact ⟨dx, b _ _ h (ne_of h g (by intro z; cases z))⟩
theorem start_in {q : Piece} (ok : XM.POk q) {x : Pl} (h : x ∈ XM.pls q) : 0 ≤ rat x.note.start ∧ rat x.note.start ≤ 1000000 := by
  have := (ok.no _ (XM.pls_mem h).1).e
  exact ⟨XM.rat_nn _, XM.rat_le (b := 1000000) (by omega)⟩
theorem flat_snoc {q : Piece} {i : Nat} {x : Pl} (h : (XM.pls q)[i]? = some x) : (q.sounds.take (i + 1)).flatMap Sw70.eventsOf = (q.sounds.take i).flatMap Sw70.eventsOf ++ Sw70.eventsOf { XM.snd q x with off := XM.offOf q.plain (XM.snd q x) } := by
  rw [take_snoc (sounds_at h), List.flatMap_append, List.flatMap_cons, List.flatMap_nil, List.append_nil]
theorem ev_put {T : Txt K mg} {H1 H6 : Hp} {el y dy : Addr} {es : List Addr} {l : List Sw70.Event} (ev : Sw70.Event) (sm : Same H1 H6) (nel : H1 el = none) (he : H6 el = some (.lst (es.map V.ref))) (pe : Paired (EvAt T H6) es l) (ny : H6 y = none) (nd : H6 dy = none) :
    ∀ G, G = upd (upd (upd H6 dy (.own y)) y (.ins T.C_Event dy (fs_Event (.int ev.time) (.int ev.kind) (.int ev.voice) (.int ev.pitch) (.int ev.loud) (.int ev.note)))) el (.lst (es.map V.ref ++ [.ref y])) →
      Same H1 G ∧ But el H6 G ∧ G el = some (.lst ((es ++ [y]).map V.ref)) ∧ Paired (EvAt T G) (es ++ [y]) (l ++ [ev]) := by
  rintro G rfl
  have s7 : Same H6 (upd (upd H6 dy (.own y)) y (.ins T.C_Event dy (fs_Event (.int ev.time) (.int ev.kind) (.int ev.voice) (.int ev.pitch) (.int ev.loud) (.int ev.note)))) := Same.made2 ny nd
  have bt : But el H6 (upd (upd (upd H6 dy (.own y)) y (.ins T.C_Event dy (fs_Event (.int ev.time) (.int ev.kind) (.int ev.voice) (.int ev.pitch) (.int ev.loud) (.int ev.note)))) el (.lst (es.map V.ref ++ [.ref y]))) := fun b o e hb => by
    rw [upd_ne hb]
    exact s7 _ _ e
  refine ⟨fun b o e => bt b o (sm _ _ e) (ne_of_none e nel), bt, by rw [upd_same, List.map_append]; rfl, Paired.append' (Paired.mapP pe fun _ _ h => EvAt.but h he bt) (.cons ?_ .nil)⟩
  refine ⟨dy, ?_⟩
  rw [upd_ne (ne_of_none he ny).symm, upd_same]
theorem ok_events_of (T : Txt K mg) : FnOk P w K mg base CX0 6 T.A_events_of T.D_events_of ["score"] (spEvents T) := by
  refine T.f_events_of.ok sc_events_of (fun vs H Q E h => ?_) (fun cdv A outer s H vs Q E hr h => ?_)
  · obtain ⟨p, dx, L, q, rfl, _⟩ := h
    rfl
  · obtain ⟨p, dx, L, q, rfl, S, ok, k⟩ := h
    have h200 := ok.nl
    have hpl := XM.pls_len q
    have hsl' := sounds_len q
    refine ⟨_, (pss_cons (ps_set (i := 1) sc_events_of.nd rfl (by first | exact Or.inl rfl | exact Or.inr rfl) (pe_make T.k_Tempo (ok_Tempo_init T) (hr.mono (by decide)) rfl T.g_Tempo T.b_Tempo_init .nil pass0 (pa_cons (pv 0) pa_nil))) (pss_cons (ps_set (i := 2) sc_events_of.nd rfl (by first | exact Or.inl rfl | exact Or.inr rfl) (pe_lst pa_nil)) (pss_cons (ps_for PassesOwn.never rfl (pi_list (pe_call (ok_sounds_of T) (hr.mono (by decide)) rfl T.g_sounds_of T.f_sounds_of.kp T.b_sounds_of .nil pass0 (pa_cons (pv 0) pa_nil))) (pg_name (i := 3) sc_events_of.nd rfl (Or.inl rfl)) (pss_cons (ps_set (i := 4) sc_events_of.nd rfl (by first | exact Or.inl rfl | exact Or.inr rfl) (pe_call (ok_nearest T) (hr.mono (by decide)) rfl T.g_nearest T.f_nearest.kp T.b_nearest .nil pass0 (pa_cons (pe_meth (pv 1) T.cl_Tempo T.m_Tempo_time_of (ok_Tempo_time_of T) (hr.mono (by decide)) T.b_Tempo_time_of .nil pass0 (pa_cons (pe_fld (pv 3) rfl) pa_nil)) pa_nil))) (pss_cons (ps_set (i := 5) sc_events_of.nd rfl (by first | exact Or.inl rfl | exact Or.inr rfl) (pe_call (ok_nearest T) (hr.mono (by decide)) rfl T.g_nearest T.f_nearest.kp T.b_nearest .nil pass0 (pa_cons (pe_meth (pv 1) T.cl_Tempo T.m_Tempo_time_of (ok_Tempo_time_of T) (hr.mono (by decide)) T.b_Tempo_time_of .nil pass0 (pa_cons (pe_fld (pv 3) rfl) pa_nil)) pa_nil))) (pss_one (ps_if (pt_cmpR op_gt (pv 5) (pv 4) (nomark _)) (pss_cons (ps_expr (pe_bm PySem.F.plainAttrs_list PySem.F.slot_list_append PySem.F.type_list_append mt_append (pv 2) (pa_cons (pe_make T.k_Event (ok_Event_init T) (hr.mono (by decide)) rfl T.g_Event T.b_Event_init .nil pass0 (pa_cons (pv 4) (pa_cons (pgc rfl T.c_BEGINNING) (pa_cons (pv 3) pa_nil)))) pa_nil))) (pss_one (ps_expr (pe_bm PySem.F.plainAttrs_list PySem.F.slot_list_append PySem.F.type_list_append mt_append (pv 2) (pa_cons (pe_make T.k_Event (ok_Event_init T) (hr.mono (by decide)) rfl T.g_Event T.b_Event_init .nil pass0 (pa_cons (pv 5) (pa_cons (pgc rfl T.c_END) (pa_cons (pv 3) pa_nil)))) pa_nil))))) pss_nil))))) (pss_one (ps_ret (pe_sortK true (ok_order_of_events T) (hr.mono (by decide)) rfl T.n_sorted rfl T.g_order_of_events T.b_order_of_events (pa_cons (pv 2) pa_nil))))))), ?_⟩
    refine ⟨_, rfl, ?_⟩
    intro t dxt nt ndt net
    have s0 : Same H (upd (upd H dxt (.own t)) t (.ins T.C_Tempo dxt [])) := Same.made2 nt ndt
    refine ⟨t, dxt, p, dx, L, q, rfl, upd_same, S.same s0, ok, fun H1 hT fr => ⟨rfl, ?_⟩⟩
    have s1 : Same H H1 := fun b o e => fr b o (s0 _ _ e) (ne_of_none e nt)
    obtain ⟨dxT, lt, ls, _, _, hTt, _⟩ := hT.ex
    refine ⟨Nat.zero_le _, fun el nel => ?_⟩
    have s2 : Same H1 (upd H1 el (.lst [])) := Same.new nel
    have hel2 : upd H1 el (.lst []) el = some (.lst []) := upd_same
    revert s2 hel2
    generalize upd H1 el (.lst []) = H2
    intro s2 hel2
    refine ⟨_, rfl, p, dx, L, q, rfl, (S.same s1).same s2, ok, fun H3 sl ss s3 nsl hsl pss => ?_⟩
    have hel3 := s3 _ _ hel2
    have nse : sl ≠ el := (ne_of_none hel2 nsl).symm
    have s13 := s2.trans s3
    have hlen := Paired.length pss
    refine ⟨sl, rfl, ⟨_, SqL.of hsl⟩, for_list (K := K) (xs := ss.map V.ref)
      (fun i σ H' => ∃ (es : List Addr) (v3 v4 v5 : Option V), σ = [some (.ref p), some (.ref t), some (.ref el), v3, v4, v5] ∧ Same H1 H' ∧ But el H3 H' ∧ H' el = some (.lst (es.map V.ref)) ∧ Paired (EvAt T H') es ((q.sounds.take i).flatMap Sw70.eventsOf))
      ⟨[], none, none, none, rfl, s13, fun b o e _ => e, hel3, .nil⟩ (fun i σ H' _ ⟨_, _, _, _, _, _, b, _⟩ => SqL.of (b _ _ hsl nse)) ?_ ?_⟩
    · rintro i x σ H4 hx ⟨es, w3, w4, w5, rfl, sm, bt, he4, pe4⟩
      obtain ⟨a, ha, rfl⟩ := refs_at hx
      obtain ⟨x, hpx, e, hA, he0, he1, het⟩ := paired_get pss ha
      have hil : i < (XM.pls q).length := (List.getElem?_eq_some_iff.mp hpx).1
      have hel : es.length ≤ 400 := by
        have h1 := Paired.length pe4
        have h2 := evs_len (q.sounds.take i)
        rw [List.length_take] at h2
        omega
      obtain ⟨st0, st1⟩ := start_in ok (List.mem_of_getElem? hpx)
      have hA4 := snd_but hA hel3 bt
      obtain ⟨ds, an, ab, ae, u, l, h1, h2, h3, h4, h5, h6⟩ := id hA4
      refine ⟨_, rfl, t, _, _, rfl, sm _ _ hTt, no_Tempo_time_of .., _, rfl, a, _, ds, _, _, rfl, h1, T.cl_Sound, T.a_Sound_beginning, lk_Sound_beginning .., t, ab, q, _, _, _, rfl, hT.same sm, ok, h3, Frac.nat x.note.start, by decide, st0, st1, fun H5 r5 n5 d5 s5 hr5 f5 b5 => ?_⟩
      refine ⟨r5, n5, d5, rfl, hr5, f5.pos, b5, ?_⟩
      have sm5 := sm.trans s5
      refine ⟨_, rfl, t, _, _, rfl, sm5 _ _ hTt, no_Tempo_time_of .., _, rfl, a, _, ds, _, _, rfl, s5 _ _ h1, T.cl_Sound, T.a_Sound_ending, lk_Sound_ending .., t, ae, q, e, _, _, rfl, hT.same sm5, ok, s5 _ _ h4, h5, h6, he0, he1, fun H6 r6 n6 d6 s6 hr6 f6 b6 => ?_⟩
      refine ⟨r6, n6, d6, rfl, hr6, f6.pos, b6, ?_⟩
      have sm6 := sm5.trans s6
      have s46 := s5.trans s6
      have he6 := s46 _ _ he4
      have hA6 := hA4.same s46
      have pe6 := Paired.mapP pe4 fun _ _ h => EvAt.same h s46
      have bt6 : But el H3 H6 := fun b o e hb => s46 _ _ (bt b o e hb)
      rw [← XM.nearest_eq f5, ← XM.nearest_eq f6]
      have hev := flat_snoc hpx
      have nH1el : ∀ {b : Addr} {o : HO}, H1 b = some o → b ≠ el := fun e => ne_of_none e nel
      refine ⟨_, rfl, _, rfl, _, _, rfl, rfl, _, rfl, iteD (fun h7 => ?_) (fun h7 => ?_)⟩
      · have hve : Sw70.eventsOf { XM.snd q x with off := XM.offOf q.plain (XM.snd q x) } = [⟨Sw70.nearest (q.time (rat x.note.start)), 1, x.note.voice, x.note.pitch, x.note.loud, x.num⟩, ⟨Sw70.nearest (q.time e), 0, x.note.voice, x.note.pitch, 0, x.num⟩] := by
          unfold Sw70.eventsOf
          show (if Sw70.nearest (XM.offOf q.plain (XM.snd q x)) ≤ Sw70.nearest (q.time (rat x.note.start)) then _ else _) = _
          rw [← het, if_neg (by omega)]
          rfl
        refine ⟨_, rfl, .inl ⟨rfl, _, SqL.of he6⟩, _, rfl, _, rfl, ?_⟩
        intro y1 dy1 ny1 nd1 ne1
        have s7 : ∀ {fs : List (Str × V)}, Same H6 (upd (upd H6 dy1 (.own y1)) y1 (.ins T.C_Event dy1 fs)) := fun {fs} => Same.made2 ny1 nd1
        refine ⟨y1, dy1, a, _, 1, x, e, rfl, upd_same, hA6.same s7, rfl, ?_⟩
        rw [upd_upd, if_pos rfl]
        refine ⟨el, _, _, rfl, rfl, s7 _ _ he6, (by rw [List.length_map]; exact small1000 (by omega)), ?_⟩
        obtain ⟨g1, g2, g3, g4⟩ := ev_put ⟨Sw70.nearest (q.time (rat x.note.start)), 1, x.note.voice, x.note.pitch, x.note.loud, x.num⟩ sm6 nel he6 pe6 ny1 nd1 _ rfl
        have hA7 := snd_but hA6 he6 g2
        revert g1 g2 g3 g4 hA7
        generalize upd (upd (upd H6 dy1 (.own y1)) y1 (.ins T.C_Event dy1 _)) el _ = H7
        intro g1 g2 g3 g4 hA7
        refine ⟨_, rfl, .inl ⟨rfl, _, SqL.of g3⟩, _, rfl, _, rfl, ?_⟩
        intro y2 dy2 ny2 nd2 ne2
        have s8 : ∀ {fs : List (Str × V)}, Same H7 (upd (upd H7 dy2 (.own y2)) y2 (.ins T.C_Event dy2 fs)) := fun {fs} => Same.made2 ny2 nd2
        refine ⟨y2, dy2, a, _, 0, x, e, rfl, upd_same, hA7.same s8, rfl, ?_⟩
        rw [upd_upd, if_neg (by decide)]
        refine ⟨el, _, _, rfl, rfl, s8 _ _ g3, (by rw [List.length_map, List.length_append]; exact small1000 (by show es.length + 1 ≤ 1000; omega)), ?_⟩
        obtain ⟨k1, k2, k3, k4⟩ := ev_put ⟨Sw70.nearest (q.time e), 0, x.note.voice, x.note.pitch, 0, x.num⟩ g1 nel g3 g4 ny2 nd2 _ rfl
        refine ⟨es ++ [y1] ++ [y2], _, _, _, rfl, k1, fun b o e' hb => k2 b o (g2 b o (bt6 b o e' hb) hb) hb, k3, ?_⟩
        rw [hev, hve]
        rw [List.append_assoc (List.flatMap _ _) [_] [_]] at k4
        exact k4
      · have hve : Sw70.eventsOf { XM.snd q x with off := XM.offOf q.plain (XM.snd q x) } = [] := by
          unfold Sw70.eventsOf
          show (if Sw70.nearest (XM.offOf q.plain (XM.snd q x)) ≤ Sw70.nearest (q.time (rat x.note.start)) then _ else _) = _
          rw [← het, if_pos (by omega)]
        rw [hve, List.append_nil] at hev
        refine ⟨es, _, _, _, rfl, sm6, bt6, he6, ?_⟩
        rw [hev]
        exact pe6
    · rintro σ H4 ⟨es, w3, w4, w5, rfl, sm, bt, he4, pe4⟩
      rw [List.length_map, hlen, ← hsl', List.take_length] at pe4
      refine ⟨_, rfl, el, _, evKey H4, 5, rfl, SqL.of he4, fun H' x hx sm' R hR => ?_, fun x hx => rfl, fun ys c H5 hperm hpw s5 nc hc => ?_⟩
      · obtain ⟨a, ha, rfl⟩ := List.mem_map.mp hx
        obtain ⟨x, _, hX⟩ := paired_mem pe4 ha
        refine ⟨a, x, rfl, hX.same sm', fun r nr => hR _ _ (Same.new nr) ?_⟩
        rw [evKey_of hX]
        exact ⟨by simp [Sw70.Event.row], r, rfl, upd_same⟩
      obtain ⟨bs, rfl, hbs⟩ := perm_refs hperm
      obtain ⟨Tl, pT, hTp⟩ := Paired.perm hbs pe4
      have hsort : Tl.Pairwise XM.Ele := by
        rw [List.pairwise_iff_getElem] at hpw ⊢
        intro i j hi hj hij
        obtain ⟨a, ha, r1⟩ := paired_back pT (List.getElem?_eq_getElem hi)
        obtain ⟨b, hb, r2⟩ := paired_back pT (List.getElem?_eq_getElem hj)
        have la := List.getElem?_eq_some_iff.mp ha
        have lb := List.getElem?_eq_some_iff.mp hb
        have := hpw i j (by rw [List.length_map]; exact la.1) (by rw [List.length_map]; exact lb.1) hij
        rw [List.getElem_map, List.getElem_map, la.2, lb.2, evKey_of r1, evKey_of r2] at this
        exact this
      have hfin := XM.events_ok hTp hsort
      subst hfin
      exact k H5 c bs ((s1.trans sm).trans s5) ((s1.trans sm).free nc) hc (Paired.mapP pT fun _ _ h => EvAt.same h s5)
end
end XW
namespace XW
open PySem PySem.Spec PyProof.Rows L2
open Sw70 (Mark Swing Note Piece rat less)
open XM (Frac Str4 Pl)
section
variable {P : Program} {w : World} {K : PySem.W.Frag} {mg : Str → Option Value} {base : Heap}
def spCounted : Sp := fun vs H Q _ => ∃ (a : Addr) (xs : List Int), vs = [.ref a] ∧ H a = some (.lst (xs.map V.int)) ∧ xs.length ≤ 1000 ∧
  ∀ (H' : Hp) (r : Addr), Same H H' → H r = none → H' r = some (.lst (((xs.length : Int) :: xs).map V.int)) → Q (.ref r) H'
theorem ok_counted (T : Txt K mg) : FnOk P w K mg base CX0 1 T.A_counted T.D_counted ["numbers"] spCounted := by
  refine T.f_counted.ok sc_counted (fun vs H Q E h => ?_) (fun cdv A outer s H vs Q E hr h => ?_)
  · obtain ⟨a, xs, rfl, _⟩ := h
    rfl
  · obtain ⟨a, xs, rfl, ha, hl, k⟩ := h
    refine ⟨_, (pss_one (ps_ret (pe_op op_cat (pe_lst (pa_cons (pe_callB call_len_seq (by rfl) T.n_len PySem.boot_len (pa_cons (pv 0) pa_nil)) pa_nil)) (pv 0)))), ?_⟩
    refine ⟨_, rfl, a, _, rfl, .inl (SqL.of ha), (by show 1 ≤ sizeLine; decide), fun r nr => ?_⟩
    refine ⟨_, rfl, r, a, _, _, rfl, rfl, upd_same, Same.new nr _ _ ha, ?_, fun p np => ?_⟩
    · show 1 + (xs.map V.int).length ≤ sizeLine
      rw [List.length_map]
      have := small1000 hl
      omega
    · refine k _ p ((Same.new nr).trans (Same.new np)) (Same.free (Same.new nr) np) ?_
      rw [upd_same, List.length_map]
      rfl
def spAnsTime (T : Txt K mg) : Sp := fun vs H Q _ => ∃ (p dx : Addr) (L : List Addr) (q : Piece) (x : Nat), vs = [.ref p, .int x] ∧ ScoreAt T H p dx L q ∧ XM.POk q ∧
  ∀ (H' : Hp) (r : Addr), Same H H' → H r = none → H' r = some (.lst ((Sw70Neutral.out (Sw70.step q (.time x)).2).map V.int)) → Q (.ref r) H'
theorem ok_answer_time (T : Txt K mg) : FnOk P w K mg base CX0 6 T.A_answer_time T.D_answer_time ["score", "tick"] (spAnsTime T) := by
  refine T.f_answer_time.ok sc_answer_time (fun vs H Q E h => ?_) (fun cdv A outer s H vs Q E hr h => ?_)
  · obtain ⟨p, dx, L, q, x, rfl, _⟩ := h
    rfl
  · obtain ⟨p, dx, L, q, x, rfl, S, ok, k⟩ := h
    refine ⟨_, (pss_cons (ps_if (pt_cmpR op_gt (pv 1) (pgc rfl T.c_LAST_TICK) (nomark _)) (pss_one (ps_ret (pe_lst (pa_cons (pgc rfl T.c_NOT_AS_TOLD) pa_nil)))) pss_nil) (pss_cons (ps_set (i := 2) sc_answer_time.nd rfl (by first | exact Or.inl rfl | exact Or.inr rfl) (pe_meth (pe_make T.k_Tempo (ok_Tempo_init T) (hr.mono (by decide)) rfl T.g_Tempo T.b_Tempo_init .nil pass0 (pa_cons (pv 0) pa_nil)) T.cl_Tempo T.m_Tempo_time_of (ok_Tempo_time_of T) (hr.mono (by decide)) T.b_Tempo_time_of .nil pass0 (pa_cons (pe_tup (pa_cons (pv 1) (pa_cons pe_int pa_nil))) pa_nil))) (pss_one (ps_ret (pe_op op_cat (pe_lst (pa_cons pe_int pa_nil)) (pe_call (ok_counted T) (hr.mono (by decide)) rfl T.g_counted T.f_counted.kp T.b_counted .nil pass0 (pa_cons (pe_call (ok_told T) (hr.mono (by decide)) rfl T.g_told T.f_told.kp T.b_told .nil pass0 (pa_cons (pv 2) pa_nil)) pa_nil))))))), ?_⟩
    refine ⟨_, rfl, _, _, rfl, rfl, _, rfl, iteD (fun h1 => ?_) (fun h1 => ?_)⟩
    · refine ⟨(by show 1 ≤ sizeLine; decide), fun r nr => k _ r (Same.new nr) nr ?_⟩
      have hc : Sw70.LAST < x := by show 1000000 < x; omega
      rw [upd_same]
      show _ = some (HO.lst (List.map V.int (Sw70Neutral.out (if Sw70.LAST < x then (q, Sw70.ok (-1)) else _).2)))
      rw [if_pos hc]
      rfl
    · refine ⟨_, rfl, ?_⟩
      intro t dxt nt ndt net
      have s0 : Same H (upd (upd H dxt (.own t)) t (.ins T.C_Tempo dxt [])) := Same.made2 nt ndt
      refine ⟨t, dxt, p, dx, L, q, rfl, upd_same, S.same s0, ok, fun H1 hT fr => ⟨rfl, ?_⟩⟩
      have s1 : Same H H1 := fun b o e => fr b o (s0 _ _ e) (ne_of_none e nt)
      obtain ⟨dxT, lt, ls, _, _, hTt, _⟩ := hT.ex
      refine ⟨t, _, _, rfl, hTt, no_Tempo_time_of .., _, rfl, (by show 2 ≤ sizeLine; decide), fun tp ntp => ?_⟩
      have s2 : Same H1 (upd H1 tp (.tup [.int x, .int 1])) := Same.new ntp
      refine ⟨t, tp, q, _, _, _, rfl, hT.same s2, ok, upd_same, Frac.nat x, by decide, XM.rat_nn _, XM.rat_le (b := 1000000) (by omega), fun H3 r3 n3 d3 s3 hr3 f3 b3 => ?_⟩
      have s13 := (s1.trans s2).trans s3
      refine ⟨(by show 1 ≤ sizeLine; decide), fun r nr => ?_⟩
      have s4 : Same H3 (upd H3 r (.lst [.int 0])) := Same.new nr
      refine ⟨_, rfl, r3, n3, d3, rfl, s4 _ _ hr3, f3.pos, b3, fun r5 nr5 => ?_⟩
      have s5 := Same.new (o := .lst [.int (n3 / d3), .int (n3 % d3 / ((Int.gcd d3 (n3 % d3) : Nat) : Int)), .int (d3 / ((Int.gcd d3 (n3 % d3) : Nat) : Int))]) nr5
      refine ⟨r5, [n3 / d3, n3 % d3 / ((Int.gcd d3 (n3 % d3) : Nat) : Int), d3 / ((Int.gcd d3 (n3 % d3) : Nat) : Int)], rfl, upd_same, (by show 3 ≤ 1000; decide), fun H6 r6 s6 nr6 hr6 => ?_⟩
      have s36 := (s4.trans s5).trans s6
      refine ⟨r, r6, _, _, rfl, rfl, s6 _ _ (s5 _ _ upd_same), hr6, (by show 5 ≤ sizeLine; decide), fun r7 nr7 => ?_⟩
      refine k _ r7 ((s13.trans s36).trans (Same.new nr7)) ((s13.trans s36).free nr7) ?_
      have hc : ¬ Sw70.LAST < x := by show ¬ 1000000 < x; omega
      rw [upd_same]
      show _ = some (HO.lst (List.map V.int (Sw70Neutral.out (if Sw70.LAST < x then (q, Sw70.ok (-1)) else (q, ⟨0, [Sw70.fraction (q.time (rat x))]⟩)).2)))
      rw [if_neg hc, XM.told_eq f3]
      rfl
theorem flat8 {α : Type} (f : α → List Int) (c : Nat) : ∀ l : List α, (∀ x ∈ l, (f x).length = c) → ((l.map f).flatMap fun w => (w.length : Int) :: w).length = (c + 1) * l.length
  | [], _ => by simp
  | x :: r, h => by
    rw [List.map_cons, List.flatMap_cons, List.length_append, flat8 f c r fun y hy => h y (List.mem_cons_of_mem _ hy), List.length_cons, List.length_cons, h x List.mem_cons_self, Nat.mul_add]
    omega
def flatS {α : Type} (f : α → List Int) (l : List α) (i : Nat) : List Int := ((l.take i).map f).flatMap fun w => (w.length : Int) :: w
theorem flatS_snoc {α : Type} {f : α → List Int} {l : List α} {i : Nat} {x : α} (h : l[i]? = some x) : flatS f l (i + 1) = flatS f l i ++ (((f x).length : Int) :: f x) := by
  unfold flatS
  rw [take_snoc h, List.map_append, List.flatMap_append, List.map_cons, List.map_nil, List.flatMap_cons, List.flatMap_nil, List.append_nil]
theorem flatS_len {α : Type} {f : α → List Int} {l : List α} {c : Nat} (h : ∀ x, (f x).length = c) (i : Nat) : (flatS f l i).length ≤ (c + 1) * l.length := by
  unfold flatS
  rw [flat8 f c _ fun x _ => h x, List.length_take]
  exact Nat.mul_le_mul_left _ (Nat.min_le_right _ _)
def spAnsSounds (T : Txt K mg) : Sp := fun vs H Q _ => ∃ (p dx : Addr) (L : List Addr) (q : Piece), vs = [.ref p] ∧ ScoreAt T H p dx L q ∧ XM.POk q ∧
  ∀ (H' : Hp) (r : Addr), Same H H' → H r = none → H' r = some (.lst ((Sw70Neutral.out (Sw70.step q .sounds).2).map V.int)) → Q (.ref r) H'
theorem ok_answer_sounds (T : Txt K mg) : FnOk P w K mg base CX0 6 T.A_answer_sounds T.D_answer_sounds ["score"] (spAnsSounds T) := by
  refine T.f_answer_sounds.ok sc_answer_sounds (fun vs H Q E h => ?_) (fun cdv A outer s H vs Q E hr h => ?_)
  · obtain ⟨p, dx, L, q, rfl, _⟩ := h
    rfl
  · obtain ⟨p, dx, L, q, rfl, S, ok, k⟩ := h
    have h200 := ok.nl
    have hpl := XM.pls_len q
    have hsl' := sounds_len q
    refine ⟨_, (pss_cons (ps_set (i := 1) sc_answer_sounds.nd rfl (by first | exact Or.inl rfl | exact Or.inr rfl) (pe_make T.k_Tempo (ok_Tempo_init T) (hr.mono (by decide)) rfl T.g_Tempo T.b_Tempo_init .nil pass0 (pa_cons (pv 0) pa_nil))) (pss_cons (ps_set (i := 2) sc_answer_sounds.nd rfl (by first | exact Or.inl rfl | exact Or.inr rfl) (pe_call (ok_sounds_of T) (hr.mono (by decide)) rfl T.g_sounds_of T.f_sounds_of.kp T.b_sounds_of .nil pass0 (pa_cons (pv 0) pa_nil))) (pss_cons (ps_set (i := 3) sc_answer_sounds.nd rfl (by first | exact Or.inl rfl | exact Or.inr rfl) (pe_lst (pa_cons (pe_callB call_len_seq (by rfl) T.n_len PySem.boot_len (pa_cons (pv 2) pa_nil)) pa_nil))) (pss_cons (ps_for PassesOwn.never rfl (pi_list (pv 2)) (pg_name (i := 4) sc_answer_sounds.nd rfl (Or.inl rfl)) (pss_cons (ps_set (i := 5) sc_answer_sounds.nd rfl (by first | exact Or.inl rfl | exact Or.inr rfl) (pe_call (ok_told T) (hr.mono (by decide)) rfl T.g_told T.f_told.kp T.b_told .nil pass0 (pa_cons (pe_meth (pv 1) T.cl_Tempo T.m_Tempo_time_of (ok_Tempo_time_of T) (hr.mono (by decide)) T.b_Tempo_time_of .nil pass0 (pa_cons (pe_fld (pv 4) rfl) pa_nil)) pa_nil))) (pss_cons (ps_set (i := 6) sc_answer_sounds.nd rfl (by first | exact Or.inl rfl | exact Or.inr rfl) (pe_call (ok_told T) (hr.mono (by decide)) rfl T.g_told T.f_told.kp T.b_told .nil pass0 (pa_cons (pe_meth (pv 1) T.cl_Tempo T.m_Tempo_time_of (ok_Tempo_time_of T) (hr.mono (by decide)) T.b_Tempo_time_of .nil pass0 (pa_cons (pe_fld (pv 4) rfl) pa_nil)) pa_nil))) (pss_one (ps_expr (pe_bm PySem.F.plainAttrs_list PySem.F.slot_list_extend PySem.F.type_list_extend mt_extend (pv 3) (pa_cons (pe_call (ok_counted T) (hr.mono (by decide)) rfl T.g_counted T.f_counted.kp T.b_counted .nil pass0 (pa_cons (pe_op op_cat (pe_op op_cat (pe_lst (pa_cons (pe_fld (pv 4) rfl) pa_nil)) (pv 5)) (pv 6)) pa_nil)) pa_nil))))))) (pss_one (ps_ret (pv 3))))))), ?_⟩
    refine ⟨_, rfl, ?_⟩
    intro t dxt nt ndt net
    have s0 : Same H (upd (upd H dxt (.own t)) t (.ins T.C_Tempo dxt [])) := Same.made2 nt ndt
    refine ⟨t, dxt, p, dx, L, q, rfl, upd_same, S.same s0, ok, fun H1 hT fr => ⟨rfl, ?_⟩⟩
    have s1 : Same H H1 := fun b o e => fr b o (s0 _ _ e) (ne_of_none e nt)
    obtain ⟨dxT, lt, ls, _, _, hTt, _⟩ := hT.ex
    refine ⟨_, rfl, p, dx, L, q, rfl, S.same s1, ok, fun H2 sl ss s2 nsl hsl pss => ?_⟩
    have hlen := Paired.length pss
    refine ⟨_, rfl, sl, _, rfl, .inl (SqL.of hsl), (by show 1 ≤ sizeLine; decide), fun el nel => ?_⟩
    have s3 : Same H2 (upd H2 el (.lst [.int (ss.map V.ref).length])) := Same.new nel
    have hel3 : upd H2 el (.lst [.int (ss.map V.ref).length]) el = some (.lst [.int (ss.map V.ref).length]) := upd_same
    revert s3 hel3
    generalize upd H2 el (.lst [.int (ss.map V.ref).length]) = H3
    intro s3 hel3
    have nH : H el = none := (s1.trans s2).free nel
    have hsl3 := s3 _ _ hsl
    have hT2 := hT.same s2
    refine ⟨_, rfl, sl, rfl, ⟨_, SqL.of hsl3⟩, for_list (K := K) (xs := ss.map V.ref)
      (fun i σ H' => ∃ (v4 v5 v6 : Option V), σ = [some (.ref p), some (.ref t), some (.ref sl), some (.ref el), v4, v5, v6] ∧ Same H2 H' ∧ H' el = some (.lst (((q.sounds.length : Int) :: flatS Sw70.soundOut q.sounds i).map V.int)))
      ⟨none, none, none, rfl, s3, ?_⟩ (fun i σ H' _ ⟨_, _, _, _, b, _⟩ => SqL.of (b _ _ hsl)) ?_ ?_⟩
    · rw [hel3, List.length_map, hlen, hsl']
      rfl
    · rintro i x σ H4 hx ⟨w4, w5, w6, rfl, bt, he4⟩
      obtain ⟨a, ha, rfl⟩ := refs_at hx
      obtain ⟨x, hpx, e, hA, he0, he1, het⟩ := paired_get pss ha
      have hil : i < (XM.pls q).length := (List.getElem?_eq_some_iff.mp hpx).1
      obtain ⟨st0, st1⟩ := start_in ok (List.mem_of_getElem? hpx)
      have hA4 := hA.same bt
      obtain ⟨ds, an, ab, ae, u, l, h1, h2, h3, h4, h5, h6⟩ := id hA4
      refine ⟨_, rfl, t, _, _, rfl, bt _ _ (s2 _ _ hTt), no_Tempo_time_of .., _, rfl, a, _, ds, _, _, rfl, h1, T.cl_Sound, T.a_Sound_beginning, lk_Sound_beginning .., t, ab, q, _, _, _, rfl, hT2.same bt, ok, h3, Frac.nat x.note.start, by decide, st0, st1, fun H5 r5 n5 d5 s5 hr5 f5 b5 => ?_⟩
      have hon := XM.told_eq f5
      have hmon : (Sw70.fraction (q.time (rat x.note.start))).map V.int = [.int (n5 / d5), .int (n5 % d5 / ((Int.gcd d5 (n5 % d5) : Nat) : Int)), .int (d5 / ((Int.gcd d5 (n5 % d5) : Nat) : Int))] := by rw [hon]; rfl
      refine ⟨r5, n5, d5, rfl, hr5, f5.pos, b5, fun g5 ng5 => ?_⟩
      rw [← hmon]
      have t5 : Same H5 (upd H5 g5 (.lst ((Sw70.fraction (q.time (rat x.note.start))).map V.int))) := Same.new ng5
      have hg5 : upd H5 g5 (.lst ((Sw70.fraction (q.time (rat x.note.start))).map V.int)) g5 = some (.lst ((Sw70.fraction (q.time (rat x.note.start))).map V.int)) := upd_same
      have s45 := s5.trans t5
      revert s45 hg5
      generalize upd H5 g5 (.lst ((Sw70.fraction (q.time (rat x.note.start))).map V.int)) = H6
      intro hg5 s45
      have bt6 := bt.trans s45
      refine ⟨_, rfl, t, _, _, rfl, bt6 _ _ (s2 _ _ hTt), no_Tempo_time_of .., _, rfl, a, _, ds, _, _, rfl, s45 _ _ h1, T.cl_Sound, T.a_Sound_ending, lk_Sound_ending .., t, ae, q, e, _, _, rfl, hT2.same bt6, ok, s45 _ _ h4, h5, h6, he0, he1, fun H7 r7 n7 d7 s7 hr7 f7 b7 => ?_⟩
      have hoff := XM.told_eq f7
      have hmoff : (Sw70.fraction (q.time e)).map V.int = [.int (n7 / d7), .int (n7 % d7 / ((Int.gcd d7 (n7 % d7) : Nat) : Int)), .int (d7 / ((Int.gcd d7 (n7 % d7) : Nat) : Int))] := by rw [hoff]; rfl
      refine ⟨r7, n7, d7, rfl, hr7, f7.pos, b7, fun g7 ng7 => ?_⟩
      rw [← hmoff]
      have t7 : Same H7 (upd H7 g7 (.lst ((Sw70.fraction (q.time e)).map V.int))) := Same.new ng7
      have hg7 : upd H7 g7 (.lst ((Sw70.fraction (q.time e)).map V.int)) g7 = some (.lst ((Sw70.fraction (q.time e)).map V.int)) := upd_same
      have s47 := (s45.trans s7).trans t7
      have hg57 := t7 _ _ (s7 _ _ hg5)
      revert hg7 s47 hg57
      generalize upd H7 g7 (.lst ((Sw70.fraction (q.time e)).map V.int)) = H8
      intro hg7 s47 hg57
      refine ⟨_, rfl, .inl ⟨rfl, _, SqL.of (s47 _ _ he4)⟩, _, rfl, a, _, ds, _, _, rfl, s47 _ _ h1, T.cl_Sound, T.a_Sound_number, lk_Sound_number .., (by show 1 ≤ sizeLine; decide), fun m1 nm1 => ?_⟩
      have u1 := Same.new (o := .lst [.int x.num]) nm1
      refine ⟨_, rfl, m1, g5, _, _, rfl, rfl, upd_same, u1 _ _ hg57, (by rw [List.length_map, hon]; show 4 ≤ sizeLine; decide), fun m2 nm2 => ?_⟩
      have u2 := Same.new (o := .lst ([.int x.num] ++ (Sw70.fraction (q.time (rat x.note.start))).map V.int)) nm2
      refine ⟨_, rfl, m2, g7, _, _, rfl, rfl, upd_same, u2 _ _ (u1 _ _ hg7), (by rw [List.length_append, List.length_map, List.length_map, hon, hoff]; show 7 ≤ sizeLine; decide), fun m3 nm3 => ?_⟩
      have u3 := Same.new (o := .lst ([.int x.num] ++ (Sw70.fraction (q.time (rat x.note.start))).map V.int ++ (Sw70.fraction (q.time e)).map V.int)) nm3
      have hso : Sw70.soundOut { XM.snd q x with off := XM.offOf q.plain (XM.snd q x) } = (x.num : Int) :: (Sw70.fraction (q.time (rat x.note.start)) ++ Sw70.fraction (q.time e)) := by
        unfold Sw70.soundOut
        rw [het]
        rfl
      have hsl8 : (Sw70.soundOut { XM.snd q x with off := XM.offOf q.plain (XM.snd q x) }).length = 7 := rfl
      refine ⟨m3, Sw70.soundOut { XM.snd q x with off := XM.offOf q.plain (XM.snd q x) }, rfl, (by rw [upd_same, hso, List.map_cons, List.map_append]; rfl), (by rw [hsl8]; decide), fun H9 m4 s9 nm4 hm4 => ?_⟩
      have s89 := ((u1.trans u2).trans u3).trans s9
      have he9 := s89 _ _ (s47 _ _ he4)
      refine ⟨el, m4, _, _, rfl, rfl, he9, hm4, ?_, _, _, _, rfl, fun b o eb => ?_, ?_⟩
      · have := flatS_len (f := Sw70.soundOut) (l := q.sounds) (c := 7) (fun _ => rfl) i
        rw [List.length_map, List.length_map, List.length_cons, List.length_cons, hsl8]
        refine Nat.le_trans (m := 10000) ?_ (by decide)
        omega
      · rw [upd_ne (ne_of_none eb nel)]
        exact s89 _ _ (s47 _ _ (bt _ _ eb))
      · rw [upd_same, flatS_snoc (sounds_at hpx), ← List.map_append]
        rfl
    · rintro σ H4 ⟨w4, w5, w6, rfl, bt, he4⟩
      rw [List.length_map, hlen, ← hsl'] at he4
      refine ⟨_, rfl, k H4 el ((s1.trans s2).trans bt) nH ?_⟩
      unfold flatS at he4
      rw [List.take_length] at he4
      exact he4
end
end XW
namespace XW
open PySem PySem.Spec PyProof.Rows L2
open Sw70 (Mark Swing Note Piece rat less)
open XM (Frac Str4 Pl)
section
variable {P : Program} {w : World} {K : PySem.W.Frag} {mg : Str → Option Value} {base : Heap}
theorem events_len (q : Piece) : q.events.length ≤ 2 * (XM.pls q).length := by
  unfold Sw70.Piece.events
  rw [(XM.fold_perm _ []).length_eq, List.append_nil, ← sounds_len q]
  exact evs_len q.sounds
def spAnsEvents (T : Txt K mg) : Sp := fun vs H Q _ => ∃ (p dx : Addr) (L : List Addr) (q : Piece), vs = [.ref p] ∧ ScoreAt T H p dx L q ∧ XM.POk q ∧
  ∀ (H' : Hp) (r : Addr), Same H H' → H r = none → H' r = some (.lst ((Sw70Neutral.out (Sw70.step q .events).2).map V.int)) → Q (.ref r) H'
theorem ok_answer_events (T : Txt K mg) : FnOk P w K mg base CX0 7 T.A_answer_events T.D_answer_events ["score"] (spAnsEvents T) := by
  refine T.f_answer_events.ok sc_answer_events (fun vs H Q E h => ?_) (fun cdv A outer s H vs Q E hr h => ?_)
  · obtain ⟨p, dx, L, q, rfl, _⟩ := h
    rfl
  · obtain ⟨p, dx, L, q, rfl, S, ok, k⟩ := h
    have h200 := ok.nl
    have hpl := XM.pls_len q
    have hel' := events_len q
    refine ⟨_, (pss_cons (ps_set (i := 1) sc_answer_events.nd rfl (by first | exact Or.inl rfl | exact Or.inr rfl) (pe_call (ok_events_of T) (hr.mono (by decide)) rfl T.g_events_of T.f_events_of.kp T.b_events_of .nil pass0 (pa_cons (pv 0) pa_nil))) (pss_cons (ps_set (i := 2) sc_answer_events.nd rfl (by first | exact Or.inl rfl | exact Or.inr rfl) (pe_lst (pa_cons (pe_callB call_len_seq (by rfl) T.n_len PySem.boot_len (pa_cons (pv 1) pa_nil)) pa_nil))) (pss_cons (ps_for PassesOwn.never rfl (pi_list (pv 1)) (pg_name (i := 3) sc_answer_events.nd rfl (Or.inl rfl)) (pss_cons (ps_set (i := 4) sc_answer_events.nd rfl (by first | exact Or.inl rfl | exact Or.inr rfl) (pe_lst (pa_cons (pe_fld (pv 3) rfl) (pa_cons (pe_fld (pv 3) rfl) (pa_cons (pe_fld (pv 3) rfl) (pa_cons (pe_fld (pv 3) rfl) (pa_cons (pe_fld (pv 3) rfl) (pa_cons (pe_fld (pv 3) rfl) pa_nil)))))))) (pss_one (ps_expr (pe_bm PySem.F.plainAttrs_list PySem.F.slot_list_extend PySem.F.type_list_extend mt_extend (pv 2) (pa_cons (pe_call (ok_counted T) (hr.mono (by decide)) rfl T.g_counted T.f_counted.kp T.b_counted .nil pass0 (pa_cons (pv 4) pa_nil)) pa_nil)))))) (pss_one (ps_ret (pv 2)))))), ?_⟩
    refine ⟨_, rfl, p, dx, L, q, rfl, S, ok, fun H2 sl ss s2 nsl hsl pss => ?_⟩
    have hlen := Paired.length pss
    refine ⟨_, rfl, sl, _, rfl, .inl (SqL.of hsl), (by show 1 ≤ sizeLine; decide), fun el nel => ?_⟩
    have s3 : Same H2 (upd H2 el (.lst [.int (ss.map V.ref).length])) := Same.new nel
    have hel3 : upd H2 el (.lst [.int (ss.map V.ref).length]) el = some (.lst [.int (ss.map V.ref).length]) := upd_same
    revert s3 hel3
    generalize upd H2 el (.lst [.int (ss.map V.ref).length]) = H3
    intro s3 hel3
    have nH : H el = none := s2.free nel
    have hsl3 := s3 _ _ hsl
    refine ⟨_, rfl, sl, rfl, ⟨_, SqL.of hsl3⟩, for_list (K := K) (xs := ss.map V.ref)
      (fun i σ H' => ∃ (v3 v4 : Option V), σ = [some (.ref p), some (.ref sl), some (.ref el), v3, v4] ∧ Same H2 H' ∧ H' el = some (.lst (((q.events.length : Int) :: flatS Sw70.eventOut q.events i).map V.int)))
      ⟨none, none, rfl, s3, ?_⟩ (fun i σ H' _ ⟨_, _, _, b, _⟩ => SqL.of (b _ _ hsl)) ?_ ?_⟩
    · rw [hel3, List.length_map, hlen]
      rfl
    · rintro i x σ H4 hx ⟨w3, w4, rfl, bt, he4⟩
      obtain ⟨a, ha, rfl⟩ := refs_at hx
      obtain ⟨e, hpx, hA⟩ := paired_get pss ha
      obtain ⟨ds, h1⟩ := hA.same bt
      refine ⟨_, rfl, a, _, ds, _, _, rfl, h1, T.cl_Event, T.a_Event_time, lk_Event_time .., _, rfl, a, _, ds, _, _, rfl, h1, T.cl_Event, T.a_Event_kind, lk_Event_kind .., _, rfl, a, _, ds, _, _, rfl, h1, T.cl_Event, T.a_Event_voice, lk_Event_voice ..,
        _, rfl, a, _, ds, _, _, rfl, h1, T.cl_Event, T.a_Event_pitch, lk_Event_pitch .., _, rfl, a, _, ds, _, _, rfl, h1, T.cl_Event, T.a_Event_loudness, lk_Event_loudness .., _, rfl, a, _, ds, _, _, rfl, h1, T.cl_Event, T.a_Event_number, lk_Event_number .., (by show 6 ≤ sizeLine; decide), fun m1 nm1 => ?_⟩
      have u1 : Same H4 (upd H4 m1 (.lst ((Sw70.eventOut e).map V.int))) := Same.new nm1
      refine ⟨_, rfl, .inl ⟨rfl, _, SqL.of (u1 _ _ he4)⟩, _, rfl, m1, Sw70.eventOut e, rfl, upd_same, (by show 6 ≤ 1000; decide), fun H9 m4 s9 nm4 hm4 => ?_⟩
      have he9 := s9 _ _ (u1 _ _ he4)
      refine ⟨el, m4, _, _, rfl, rfl, he9, hm4, ?_, _, _, rfl, fun b o eb => ?_, ?_⟩
      · have := flatS_len (f := Sw70.eventOut) (l := q.events) (c := 6) (fun _ => rfl) i
        rw [List.length_map, List.length_map, List.length_cons, List.length_cons]
        refine Nat.le_trans (m := 10000) ?_ (by decide)
        show _ + (6 + 1) ≤ _
        omega
      · rw [upd_ne (ne_of_none eb nel)]
        exact s9 _ _ (u1 _ _ (bt _ _ eb))
      · rw [upd_same, flatS_snoc hpx, ← List.map_append]
        rfl
    · rintro σ H4 ⟨w3, w4, rfl, bt, he4⟩
      rw [List.length_map, hlen] at he4
      refine ⟨_, rfl, k H4 el (s2.trans bt) nH ?_⟩
      unfold flatS at he4
      rw [List.take_length] at he4
      exact he4
/-! ### a call's numbers read -/
theorem at_ix {xs : List Int} {n : Nat} {x : Int} (h : xs[n]? = some x) : (xs.map V.int)[n]? = some (V.int x) := by
  rw [List.getElem?_map, h]
  rfl
def spReadMark (T : Txt K mg) : Sp := fun vs H Q _ => ∃ (l : Addr) (t q : Nat) (e : Bool), vs = [.ref l] ∧ H l = some (.lst ([(t : Int), (q : Int), bi e].map V.int)) ∧
  ∀ (H' : Hp) (a : Addr), Same H H' → H a = none → MarkAt T H' a ⟨t, q, e⟩ → Q (.ref a) H'
theorem ok_read_mark (T : Txt K mg) : FnOk P w K mg base CX0 3 T.A_read_mark T.D_read_mark ["numbers"] (spReadMark T) := by
  refine T.f_read_mark.ok sc_read_mark (fun vs H Q E h => ?_) (fun cdv A outer s H vs Q E hr h => ?_)
  · obtain ⟨l, t, q, e, rfl, _⟩ := h
    rfl
  · obtain ⟨l, t, q, e, rfl, hl, k⟩ := h
    refine ⟨_, (pss_one (ps_ret (pe_make T.k_Mark (ok_Mark_init T) (hr.mono (by decide)) rfl T.g_Mark T.b_Mark_init .nil pass0 (pa_cons (pe_ix ix_list (pv 0) pe_int (fun _ _ => rfl)) (pa_cons (pe_ix ix_list (pv 0) pe_int (fun _ _ => rfl)) (pa_cons (pe_ix ix_list (pv 0) pe_int (fun _ _ => rfl)) pa_nil)))))), ?_⟩
    refine ⟨_, rfl, l, _, _, _, rfl, rfl, SqL.of hl, rfl, _, rfl, l, _, _, _, rfl, rfl, SqL.of hl, rfl, _, rfl, l, _, _, _, rfl, rfl, SqL.of hl, rfl, ?_⟩
    intro x dx nx nd ne
    refine ⟨x, dx, _, _, _, rfl, upd_same, rfl, ?_⟩
    rw [upd_upd]
    exact k _ x (Same.made2 nx nd) nx ⟨dx, upd_same⟩
end
end XW
namespace XW
open PySem PySem.Spec PyProof.Rows L2
open Sw70 (Mark Swing Note Piece rat less)
open XM (Frac Str4 Pl)
section
variable {P : Program} {w : World} {K : PySem.W.Frag} {mg : Str → Option Value} {base : Heap}
def spReadSwing (T : Txt K mg) : Sp := fun vs H Q _ => ∃ (l : Addr) (f g r c d : Nat), vs = [.ref l] ∧ H l = some (.lst ([(f : Int), (g : Int), (r : Int), (c : Int), (d : Int)].map V.int)) ∧
  ∀ (H' : Hp) (a : Addr), Same H H' → H a = none → SwingAt T H' a ⟨f, g, r, c, d⟩ → Q (.ref a) H'
theorem ok_read_swing (T : Txt K mg) : FnOk P w K mg base CX0 3 T.A_read_swing T.D_read_swing ["numbers"] (spReadSwing T) := by
  refine T.f_read_swing.ok sc_read_swing (fun vs H Q E h => ?_) (fun cdv A outer s H vs Q E hr h => ?_)
  · obtain ⟨l, f, g, r, c, d, rfl, _⟩ := h
    rfl
  · obtain ⟨l, f, g, r, c, d, rfl, hl, k⟩ := h
    refine ⟨_, (pss_one (ps_ret (pe_make T.k_Swing (ok_Swing_init T) (hr.mono (by decide)) rfl T.g_Swing T.b_Swing_init .nil pass0 (pa_cons (pe_ix ix_list (pv 0) pe_int (fun _ _ => rfl)) (pa_cons (pe_ix ix_list (pv 0) pe_int (fun _ _ => rfl)) (pa_cons (pe_ix ix_list (pv 0) pe_int (fun _ _ => rfl)) (pa_cons (pe_ix ix_list (pv 0) pe_int (fun _ _ => rfl)) (pa_cons (pe_ix ix_list (pv 0) pe_int (fun _ _ => rfl)) pa_nil)))))))), ?_⟩
    refine ⟨_, rfl, l, _, _, _, rfl, rfl, SqL.of hl, rfl, _, rfl, l, _, _, _, rfl, rfl, SqL.of hl, rfl, _, rfl, l, _, _, _, rfl, rfl, SqL.of hl, rfl, _, rfl, l, _, _, _, rfl, rfl, SqL.of hl, rfl, _, rfl, l, _, _, _, rfl, rfl, SqL.of hl, rfl, ?_⟩
    intro x dx nx nd ne
    refine ⟨x, dx, _, _, _, _, _, rfl, upd_same, rfl, ?_⟩
    rw [upd_upd]
    exact k _ x (Same.made2 nx nd) nx ⟨dx, upd_same⟩
def spReadPedal (T : Txt K mg) : Sp := fun vs H Q _ => ∃ (l : Addr) (f g : Nat), vs = [.ref l] ∧ H l = some (.lst ([(f : Int), (g : Int)].map V.int)) ∧
  ∀ (H' : Hp) (a : Addr), Same H H' → H a = none → PedalAt T H' a (f, g) → Q (.ref a) H'
theorem ok_read_pedal (T : Txt K mg) : FnOk P w K mg base CX0 3 T.A_read_pedal T.D_read_pedal ["numbers"] (spReadPedal T) := by
  refine T.f_read_pedal.ok sc_read_pedal (fun vs H Q E h => ?_) (fun cdv A outer s H vs Q E hr h => ?_)
  · obtain ⟨l, f, g, rfl, _⟩ := h
    rfl
  · obtain ⟨l, f, g, rfl, hl, k⟩ := h
    refine ⟨_, (pss_one (ps_ret (pe_make T.k_Pedal (ok_Pedal_init T) (hr.mono (by decide)) rfl T.g_Pedal T.b_Pedal_init .nil pass0 (pa_cons (pe_ix ix_list (pv 0) pe_int (fun _ _ => rfl)) (pa_cons (pe_ix ix_list (pv 0) pe_int (fun _ _ => rfl)) pa_nil))))), ?_⟩
    refine ⟨_, rfl, l, _, _, _, rfl, rfl, SqL.of hl, rfl, _, rfl, l, _, _, _, rfl, rfl, SqL.of hl, rfl, ?_⟩
    intro x dx nx nd ne
    refine ⟨x, dx, _, _, rfl, upd_same, rfl, ?_⟩
    rw [upd_upd]
    exact k _ x (Same.made2 nx nd) nx ⟨dx, upd_same⟩
def spReadNote (T : Txt K mg) : Sp := fun vs H Q _ => ∃ (l : Addr) (v y f n d r : Nat) (t : Bool), vs = [.ref l] ∧ H l = some (.lst ([(v : Int), (y : Int), (f : Int), (n : Int), (d : Int), (r : Int), bi t].map V.int)) ∧
  ∀ (H' : Hp) (a : Addr), Same H H' → H a = none → NoteAt T H' a ⟨v, y, f, n, d, r, t⟩ → Q (.ref a) H'
theorem ok_read_note (T : Txt K mg) : FnOk P w K mg base CX0 3 T.A_read_note T.D_read_note ["numbers"] (spReadNote T) := by
  refine T.f_read_note.ok sc_read_note (fun vs H Q E h => ?_) (fun cdv A outer s H vs Q E hr h => ?_)
  · obtain ⟨l, v, y, f, n, d, r, t, rfl, _⟩ := h
    rfl
  · obtain ⟨l, v, y, f, n, d, r, t, rfl, hl, k⟩ := h
    refine ⟨_, (pss_one (ps_ret (pe_make T.k_Note (ok_Note_init T) (hr.mono (by decide)) rfl T.g_Note T.b_Note_init .nil pass0 (pa_cons (pe_ix ix_list (pv 0) pe_int (fun _ _ => rfl)) (pa_cons (pe_ix ix_list (pv 0) pe_int (fun _ _ => rfl)) (pa_cons (pe_ix ix_list (pv 0) pe_int (fun _ _ => rfl)) (pa_cons (pe_ix ix_list (pv 0) pe_int (fun _ _ => rfl)) (pa_cons (pe_ix ix_list (pv 0) pe_int (fun _ _ => rfl)) (pa_cons (pe_ix ix_list (pv 0) pe_int (fun _ _ => rfl)) (pa_cons (pe_ix ix_list (pv 0) pe_int (fun _ _ => rfl)) pa_nil)))))))))), ?_⟩
    refine ⟨_, rfl, l, _, _, _, rfl, rfl, SqL.of hl, rfl, _, rfl, l, _, _, _, rfl, rfl, SqL.of hl, rfl, _, rfl, l, _, _, _, rfl, rfl, SqL.of hl, rfl, _, rfl, l, _, _, _, rfl, rfl, SqL.of hl, rfl, _, rfl, l, _, _, _, rfl, rfl, SqL.of hl, rfl, _, rfl, l, _, _, _, rfl, rfl, SqL.of hl, rfl, _, rfl, l, _, _, _, rfl, rfl, SqL.of hl, rfl, ?_⟩
    intro x dx nx nd ne
    refine ⟨x, dx, _, _, _, _, _, _, _, rfl, upd_same, rfl, ?_⟩
    rw [upd_upd]
    exact k _ x (Same.made2 nx nd) nx ⟨dx, upd_same⟩
theorem Step.after {H H1 H2 : Hp} {p : Addr} {L L' : List Addr} (s : Same H H1) (t : Step H1 H2 p L L') : Step H H2 p L L' := ⟨fun b o e h1 h2 => t.1 b o (s _ _ e) h1 h2, fun b hb => (t.2 b hb).imp id s.free⟩
theorem Step.then {H H1 H2 : Hp} {p : Addr} {L L' : List Addr} (t : Step H H1 p L L') (s : Same H1 H2) : Step H H2 p L L' := ⟨fun b o e h1 h2 => s _ _ (t.1 b o e h1 h2), t.2⟩
def spAnsCall (T : Txt K mg) : Sp := fun vs H Q _ => ∃ (p dx : Addr) (L : List Addr) (q : Piece) (l : Addr) (n : Int) (xs : List Int) (c : Sw70.Call), vs = [.ref p, .int n, .ref l] ∧ ScoreAt T H p dx L q ∧ XM.POk q ∧ H l = some (.lst (xs.map V.int)) ∧ XM.Told n xs c ∧
  ∀ (H' : Hp) (r : Addr) (L' : List Addr), ScoreAt T H' p dx L' (Sw70.step q c).1 → Step H H' p L L' → (∀ b o, H b = some o → b ≠ p → b ∉ L → b ≠ r) → H' r = some (.lst ((Sw70Neutral.out (Sw70.step q c).2).map V.int)) → Q (.ref r) H'
/-- one number is answered -/
theorem ans1 {T : Txt K mg} {H H1 : Hp} {p dx : Addr} {L L' : List Addr} {q q' : Piece} {c : Sw70.Call} {n : Int} {Q : V → Hp → Prop} (e : (q', Sw70.ok n) = Sw70.step q c) (S : ScoreAt T H1 p dx L' q') (st : Step H H1 p L L')
    (k : ∀ (H' : Hp) (r : Addr) (L' : List Addr), ScoreAt T H' p dx L' (Sw70.step q c).1 → Step H H' p L L' → (∀ b o, H b = some o → b ≠ p → b ∉ L → b ≠ r) → H' r = some (.lst ((Sw70Neutral.out (Sw70.step q c).2).map V.int)) → Q (.ref r) H') :
    ∀ r, H1 r = none → Q (.ref r) (upd H1 r (.lst [.int n])) := by
  intro r nr
  refine k _ r L' (by rw [← e]; exact S.same (Same.new nr)) (st.then (Same.new nr)) (fun b o eb h1 h2 => ne_of_none (st.1 b o eb h1 h2) nr) ?_
  rw [← e, upd_same]
  rfl
theorem ok_answer_call (T : Txt K mg) : FnOk P w K mg base CX0 8 T.A_answer_call T.D_answer_call ["score", "call", "numbers"] (spAnsCall T) := by
  refine T.f_answer_call.ok sc_answer_call (fun vs H Q E h => ?_) (fun cdv A outer s H vs Q E hr h => ?_)
  · obtain ⟨p, dx, L, q, l, n, xs, c, rfl, _⟩ := h
    rfl
  · obtain ⟨p, dx, L, q, l, n, xs, c, rfl, S, ok, hl, tc, k⟩ := h
    obtain ⟨lm, ls, lp', ln, eL, SI⟩ := id S
    refine ⟨_, (pss_cons (ps_if (pt_cmpR op_eq (pv 1) (pgc rfl T.c_BEGINS) (nomark _)) (pss_one (ps_ret (pe_lst (pa_cons (pe_meth (pv 0) T.cl_Score T.m_Score_begin (ok_Score_begin T) (hr.mono (by decide)) T.b_Score_begin .nil pass0 (pa_cons (pe_ix ix_list (pv 2) pe_int (fun _ _ => rfl)) pa_nil)) pa_nil)))) pss_nil) (pss_cons (ps_if (pt_cmpR op_eq (pv 1) (pgc rfl T.c_MARK) (nomark _)) (pss_one (ps_ret (pe_lst (pa_cons (pe_meth (pv 0) T.cl_Score T.m_Score_put_mark (ok_Score_put_mark T) (hr.mono (by decide)) T.b_Score_put_mark .nil pass0 (pa_cons (pe_call (ok_read_mark T) (hr.mono (by decide)) rfl T.g_read_mark T.f_read_mark.kp T.b_read_mark .nil pass0 (pa_cons (pv 2) pa_nil)) pa_nil)) pa_nil)))) pss_nil) (pss_cons (ps_if (pt_cmpR op_eq (pv 1) (pgc rfl T.c_SWING) (nomark _)) (pss_one (ps_ret (pe_lst (pa_cons (pe_meth (pv 0) T.cl_Score T.m_Score_put_swing (ok_Score_put_swing T) (hr.mono (by decide)) T.b_Score_put_swing .nil pass0 (pa_cons (pe_call (ok_read_swing T) (hr.mono (by decide)) rfl T.g_read_swing T.f_read_swing.kp T.b_read_swing .nil pass0 (pa_cons (pv 2) pa_nil)) pa_nil)) pa_nil)))) pss_nil) (pss_cons (ps_if (pt_cmpR op_eq (pv 1) (pgc rfl T.c_PEDAL) (nomark _)) (pss_one (ps_ret (pe_lst (pa_cons (pe_meth (pv 0) T.cl_Score T.m_Score_put_pedal (ok_Score_put_pedal T) (hr.mono (by decide)) T.b_Score_put_pedal .nil pass0 (pa_cons (pe_call (ok_read_pedal T) (hr.mono (by decide)) rfl T.g_read_pedal T.f_read_pedal.kp T.b_read_pedal .nil pass0 (pa_cons (pv 2) pa_nil)) pa_nil)) pa_nil)))) pss_nil) (pss_cons (ps_if (pt_cmpR op_eq (pv 1) (pgc rfl T.c_NOTE) (nomark _)) (pss_one (ps_ret (pe_lst (pa_cons (pe_meth (pv 0) T.cl_Score T.m_Score_put_note (ok_Score_put_note T) (hr.mono (by decide)) T.b_Score_put_note .nil pass0 (pa_cons (pe_call (ok_read_note T) (hr.mono (by decide)) rfl T.g_read_note T.f_read_note.kp T.b_read_note .nil pass0 (pa_cons (pv 2) pa_nil)) pa_nil)) pa_nil)))) pss_nil) (pss_cons (ps_if (pt_cmpR op_eq (pv 1) (pgc rfl T.c_TIME) (nomark _)) (pss_one (ps_ret (pe_call (ok_answer_time T) (hr.mono (by decide)) rfl T.g_answer_time T.f_answer_time.kp T.b_answer_time .nil pass0 (pa_cons (pv 0) (pa_cons (pe_ix ix_list (pv 2) pe_int (fun _ _ => rfl)) pa_nil))))) pss_nil) (pss_cons (ps_if (pt_cmpR op_eq (pv 1) (pgc rfl T.c_AT) (nomark _)) (pss_one (ps_ret (pe_lst (pa_cons (pe_meth (pe_make T.k_Tempo (ok_Tempo_init T) (hr.mono (by decide)) rfl T.g_Tempo T.b_Tempo_init .nil pass0 (pa_cons (pv 0) pa_nil)) T.cl_Tempo T.m_Tempo_tick_at (ok_Tempo_tick_at T) (hr.mono (by decide)) T.b_Tempo_tick_at .nil pass0 (pa_cons (pe_tup (pa_cons (pe_ix ix_list (pv 2) pe_int (fun _ _ => rfl)) (pa_cons pe_int pa_nil))) pa_nil)) pa_nil)))) pss_nil) (pss_cons (ps_if (pt_cmpR op_eq (pv 1) (pgc rfl T.c_SOUNDS) (nomark _)) (pss_one (ps_ret (pe_call (ok_answer_sounds T) (hr.mono (by decide)) rfl T.g_answer_sounds T.f_answer_sounds.kp T.b_answer_sounds .nil pass0 (pa_cons (pv 0) pa_nil)))) pss_nil) (pss_cons (ps_if (pt_cmpR op_eq (pv 1) (pgc rfl T.c_EVENTS) (nomark _)) (pss_one (ps_ret (pe_call (ok_answer_events T) (hr.mono (by decide)) rfl T.g_answer_events T.f_answer_events.kp T.b_answer_events .nil pass0 (pa_cons (pv 0) pa_nil)))) pss_nil) (pss_cons (ps_if (pt_cmpR op_eq (pv 1) (pgc rfl T.c_MOVED) (nomark _)) (pss_one (ps_ret (pe_lst (pa_cons (pe_meth (pv 0) T.cl_Score T.m_Score_move (ok_Score_move T) (hr.mono (by decide)) T.b_Score_move .nil pass0 (pa_cons (pe_ix ix_list (pv 2) pe_int (fun _ _ => rfl)) pa_nil)) pa_nil)))) pss_nil) (pss_one ps_never))))))))))), ?_⟩
    cases tc with
    | begins t =>
      refine ⟨_, rfl, rfl, _, rfl, iteE (fun _ => ?_) fun h => absurd rfl h⟩
      refine ⟨_, rfl, p, dx, _, rfl, SI.obj, no_Score_begin .., _, rfl, l, _, _, _, rfl, rfl, SqL.of hl, rfl, p, dx, L, q, t, rfl, S, fun hb => ?_, fun hb H1 L' S1 st => ?_⟩
      · exact ⟨(by show 1 ≤ sizeLine; decide), ans1 (by rw [Sw70.step, if_pos hb]) S (Step.same fun b o e => e) k⟩
      · exact ⟨(by show 1 ≤ sizeLine; decide), ans1 (by rw [Sw70.step, if_neg hb]) S1 st k⟩
    | mark t u e =>
      refine ⟨_, rfl, rfl, _, rfl, iteE (fun h => absurd h (by decide)) fun _ => ?_⟩
      refine ⟨_, rfl, rfl, _, rfl, iteE (fun _ => ?_) fun h => absurd rfl h⟩
      refine ⟨_, rfl, p, dx, _, rfl, SI.obj, no_Score_put_mark .., _, rfl, l, t, u, e, rfl, hl, fun H1 a s1 na hA => ?_⟩
      refine ⟨p, dx, L, q, a, _, rfl, S.same s1, hA, ok.inc, ok.ml, fun hb => ?_, fun hb hc H2 s2 => ?_, fun hb hc H2 L' S2 st => ?_⟩
      · exact ⟨(by show 1 ≤ sizeLine; decide), ans1 (by rw [Sw70.step, if_pos hb]) (S.same s1) (Step.same s1) k⟩
      · exact ⟨(by show 1 ≤ sizeLine; decide), ans1 (by rw [Sw70.step, if_neg (by rw [hb]; decide)]; show _ = if Sw70.MARKS < _ then _ else _; rw [if_pos (show Sw70.MARKS < _ from hc)]) ((S.same s1).same s2) (Step.same (s1.trans s2)) k⟩
      · exact ⟨(by show 1 ≤ sizeLine; decide), ans1 (by rw [Sw70.step, if_neg (by rw [hb]; decide)]; show _ = if Sw70.MARKS < _ then _ else _; rw [if_neg (show ¬ Sw70.MARKS < _ from hc)]) S2 (Step.after s1 st) k⟩
    | swing f g r c d =>
      refine ⟨_, rfl, rfl, _, rfl, iteE (fun h => absurd h (by decide)) fun _ => ?_⟩
      refine ⟨_, rfl, rfl, _, rfl, iteE (fun h => absurd h (by decide)) fun _ => ?_⟩
      refine ⟨_, rfl, rfl, _, rfl, iteE (fun _ => ?_) fun h => absurd rfl h⟩
      refine ⟨_, rfl, p, dx, _, rfl, SI.obj, no_Score_put_swing .., _, rfl, l, f, g, r, c, d, rfl, hl, fun H1 a s1 na hA => ?_⟩
      exact ⟨p, dx, L, q, a, _, rfl, S.same s1, hA, ok.sl, fun n H2 q' e S2 st => ⟨(by show 1 ≤ sizeLine; decide), ans1 e S2 (Step.after s1 st) k⟩⟩
    | pedal f g =>
      refine ⟨_, rfl, rfl, _, rfl, iteE (fun h => absurd h (by decide)) fun _ => ?_⟩
      refine ⟨_, rfl, rfl, _, rfl, iteE (fun h => absurd h (by decide)) fun _ => ?_⟩
      refine ⟨_, rfl, rfl, _, rfl, iteE (fun h => absurd h (by decide)) fun _ => ?_⟩
      refine ⟨_, rfl, rfl, _, rfl, iteE (fun _ => ?_) fun h => absurd rfl h⟩
      refine ⟨_, rfl, p, dx, _, rfl, SI.obj, no_Score_put_pedal .., _, rfl, l, f, g, rfl, hl, fun H1 a s1 na hA => ?_⟩
      exact ⟨p, dx, L, q, a, _, rfl, S.same s1, hA, ok.pl, fun n H2 q' e S2 st => ⟨(by show 1 ≤ sizeLine; decide), ans1 e S2 (Step.after s1 st) k⟩⟩
    | note v y f m d r t =>
      refine ⟨_, rfl, rfl, _, rfl, iteE (fun h => absurd h (by decide)) fun _ => ?_⟩
      refine ⟨_, rfl, rfl, _, rfl, iteE (fun h => absurd h (by decide)) fun _ => ?_⟩
      refine ⟨_, rfl, rfl, _, rfl, iteE (fun h => absurd h (by decide)) fun _ => ?_⟩
      refine ⟨_, rfl, rfl, _, rfl, iteE (fun h => absurd h (by decide)) fun _ => ?_⟩
      refine ⟨_, rfl, rfl, _, rfl, iteE (fun _ => ?_) fun h => absurd rfl h⟩
      refine ⟨_, rfl, p, dx, _, rfl, SI.obj, no_Score_put_note .., _, rfl, l, v, y, f, m, d, r, t, rfl, hl, fun H1 a s1 na hA => ?_⟩
      exact ⟨p, dx, L, q, a, _, rfl, S.same s1, hA, ok.nl, fun n H2 q' e S2 st => ⟨(by show 1 ≤ sizeLine; decide), ans1 e S2 (Step.after s1 st) k⟩⟩
    | time x hx =>
      refine ⟨_, rfl, rfl, _, rfl, iteE (fun h => absurd h (by decide)) fun _ => ?_⟩
      refine ⟨_, rfl, rfl, _, rfl, iteE (fun h => absurd h (by decide)) fun _ => ?_⟩
      refine ⟨_, rfl, rfl, _, rfl, iteE (fun h => absurd h (by decide)) fun _ => ?_⟩
      refine ⟨_, rfl, rfl, _, rfl, iteE (fun h => absurd h (by decide)) fun _ => ?_⟩
      refine ⟨_, rfl, rfl, _, rfl, iteE (fun h => absurd h (by decide)) fun _ => ?_⟩
      refine ⟨_, rfl, rfl, _, rfl, iteE (fun _ => ?_) fun h => absurd rfl h⟩
      refine ⟨_, rfl, _, rfl, l, _, _, _, rfl, rfl, SqL.of hl, rfl, p, dx, L, q, x, rfl, S, ok, fun H1 r s1 nr hr' => ?_⟩
      have e1 : (Sw70.step q (.time x)).1 = q := by
        show (if Sw70.LAST < x then (q, Sw70.ok (-1)) else (q, ⟨0, [Sw70.fraction (q.time (rat x))]⟩)).1 = q
        split <;> rfl
      exact k H1 r L (by rw [e1]; exact S.same s1) (Step.same s1) (fun b o eb _ _ => ne_of_none eb nr) hr'
    | at_ x hx =>
      refine ⟨_, rfl, rfl, _, rfl, iteE (fun h => absurd h (by decide)) fun _ => ?_⟩
      refine ⟨_, rfl, rfl, _, rfl, iteE (fun h => absurd h (by decide)) fun _ => ?_⟩
      refine ⟨_, rfl, rfl, _, rfl, iteE (fun h => absurd h (by decide)) fun _ => ?_⟩
      refine ⟨_, rfl, rfl, _, rfl, iteE (fun h => absurd h (by decide)) fun _ => ?_⟩
      refine ⟨_, rfl, rfl, _, rfl, iteE (fun h => absurd h (by decide)) fun _ => ?_⟩
      refine ⟨_, rfl, rfl, _, rfl, iteE (fun h => absurd h (by decide)) fun _ => ?_⟩
      refine ⟨_, rfl, rfl, _, rfl, iteE (fun _ => ?_) fun h => absurd rfl h⟩
      refine ⟨_, rfl, ?_⟩
      intro t dxt nt ndt net
      have s0 : Same H (upd (upd H dxt (.own t)) t (.ins T.C_Tempo dxt [])) := Same.made2 nt ndt
      refine ⟨t, dxt, p, dx, L, q, rfl, upd_same, S.same s0, ok, fun H1 hT fr => ⟨rfl, ?_⟩⟩
      have s1 : Same H H1 := fun b o e => fr b o (s0 _ _ e) (ne_of_none e nt)
      obtain ⟨dxT, lt, ls, _, _, hTt, _⟩ := hT.ex
      refine ⟨t, _, _, rfl, hTt, no_Tempo_tick_at .., _, rfl, l, _, _, _, rfl, rfl, SqL.of (s1 _ _ hl), rfl, (by show 2 ≤ sizeLine; decide), fun tp ntp => ?_⟩
      have s2 : Same H1 (upd H1 tp (.tup [.int x, .int 1])) := Same.new ntp
      refine ⟨t, tp, q, x, rfl, hT.same s2, ok, upd_same, hx, fun H3 s3 => ?_⟩
      exact ⟨(by show 1 ≤ sizeLine; decide), ans1 rfl (((S.same s1).same s2).same s3) (Step.same ((s1.trans s2).trans s3)) k⟩
    | sounds =>
      refine ⟨_, rfl, rfl, _, rfl, iteE (fun h => absurd h (by decide)) fun _ => ?_⟩
      refine ⟨_, rfl, rfl, _, rfl, iteE (fun h => absurd h (by decide)) fun _ => ?_⟩
      refine ⟨_, rfl, rfl, _, rfl, iteE (fun h => absurd h (by decide)) fun _ => ?_⟩
      refine ⟨_, rfl, rfl, _, rfl, iteE (fun h => absurd h (by decide)) fun _ => ?_⟩
      refine ⟨_, rfl, rfl, _, rfl, iteE (fun h => absurd h (by decide)) fun _ => ?_⟩
      refine ⟨_, rfl, rfl, _, rfl, iteE (fun h => absurd h (by decide)) fun _ => ?_⟩
      refine ⟨_, rfl, rfl, _, rfl, iteE (fun h => absurd h (by decide)) fun _ => ?_⟩
      refine ⟨_, rfl, rfl, _, rfl, iteE (fun _ => ?_) fun h => absurd rfl h⟩
      exact ⟨_, rfl, p, dx, L, q, rfl, S, ok, fun H1 r s1 nr hr' => k H1 r L (S.same s1) (Step.same s1) (fun b o eb _ _ => ne_of_none eb nr) hr'⟩
    | events =>
      refine ⟨_, rfl, rfl, _, rfl, iteE (fun h => absurd h (by decide)) fun _ => ?_⟩
      refine ⟨_, rfl, rfl, _, rfl, iteE (fun h => absurd h (by decide)) fun _ => ?_⟩
      refine ⟨_, rfl, rfl, _, rfl, iteE (fun h => absurd h (by decide)) fun _ => ?_⟩
      refine ⟨_, rfl, rfl, _, rfl, iteE (fun h => absurd h (by decide)) fun _ => ?_⟩
      refine ⟨_, rfl, rfl, _, rfl, iteE (fun h => absurd h (by decide)) fun _ => ?_⟩
      refine ⟨_, rfl, rfl, _, rfl, iteE (fun h => absurd h (by decide)) fun _ => ?_⟩
      refine ⟨_, rfl, rfl, _, rfl, iteE (fun h => absurd h (by decide)) fun _ => ?_⟩
      refine ⟨_, rfl, rfl, _, rfl, iteE (fun h => absurd h (by decide)) fun _ => ?_⟩
      refine ⟨_, rfl, rfl, _, rfl, iteE (fun _ => ?_) fun h => absurd rfl h⟩
      exact ⟨_, rfl, p, dx, L, q, rfl, S, ok, fun H1 r s1 nr hr' => k H1 r L (S.same s1) (Step.same s1) (fun b o eb _ _ => ne_of_none eb nr) hr'⟩
    | moved t =>
      refine ⟨_, rfl, rfl, _, rfl, iteE (fun h => absurd h (by decide)) fun _ => ?_⟩
      refine ⟨_, rfl, rfl, _, rfl, iteE (fun h => absurd h (by decide)) fun _ => ?_⟩
      refine ⟨_, rfl, rfl, _, rfl, iteE (fun h => absurd h (by decide)) fun _ => ?_⟩
      refine ⟨_, rfl, rfl, _, rfl, iteE (fun h => absurd h (by decide)) fun _ => ?_⟩
      refine ⟨_, rfl, rfl, _, rfl, iteE (fun h => absurd h (by decide)) fun _ => ?_⟩
      refine ⟨_, rfl, rfl, _, rfl, iteE (fun h => absurd h (by decide)) fun _ => ?_⟩
      refine ⟨_, rfl, rfl, _, rfl, iteE (fun h => absurd h (by decide)) fun _ => ?_⟩
      refine ⟨_, rfl, rfl, _, rfl, iteE (fun h => absurd h (by decide)) fun _ => ?_⟩
      refine ⟨_, rfl, rfl, _, rfl, iteE (fun h => absurd h (by decide)) fun _ => ?_⟩
      refine ⟨_, rfl, rfl, _, rfl, iteE (fun _ => ?_) fun h => absurd rfl h⟩
      refine ⟨_, rfl, p, dx, _, rfl, SI.obj, no_Score_move .., _, rfl, l, _, _, _, rfl, rfl, SqL.of hl, rfl, p, dx, L, q, t, rfl, S, ok, fun hb H1 s1 => ?_, fun hb hc H1 s1 => ?_, fun hb hc H1 L' S1 st => ?_⟩
      · exact ⟨(by show 1 ≤ sizeLine; decide), ans1 (by rw [Sw70.step, if_pos hb]) (S.same s1) (Step.same s1) k⟩
      · exact ⟨(by show 1 ≤ sizeLine; decide), ans1 (by rw [Sw70.step, if_neg (by rw [hb]; decide)]; show _ = if Sw70.MARKS < _ then _ else _; rw [if_pos (show Sw70.MARKS < _ from hc)]) (S.same s1) (Step.same s1) k⟩
      · exact ⟨(by show 1 ≤ sizeLine; decide), ans1 (by rw [Sw70.step, if_neg (by rw [hb]; decide)]; show _ = if Sw70.MARKS < _ then _ else _; rw [if_neg (show ¬ Sw70.MARKS < _ from hc)]) S1 st k⟩
end
end XW
namespace XW
open PySem PySem.Spec PyProof.Rows L2
open Sw70 (Mark Swing Note Piece rat less)
open XM (Frac Str4 Pl)
section
variable {P : Program} {w : World} {K : PySem.W.Frag} {mg : Str → Option Value} {base : Heap}
theorem score_lst {T : Txt K mg} {H : Hp} {p dx g : Addr} {L : List Addr} {q : Piece} {xs ys : List V} (S : ScoreAt T H p dx L q) (hg : H g = some (.lst xs)) (hn : g ∉ L) : ScoreAt T (upd H g (.lst ys)) p dx L q := by
  obtain ⟨lm, ls, lp, ln, rfl, S⟩ := S
  have kp := Keeps.lst (ys := ys) hg
  have n1 : lm ≠ g := fun e => hn (by rw [← e]; simp)
  have n2 : ls ≠ g := fun e => hn (by rw [← e]; simp)
  have n3 : lp ≠ g := fun e => hn (by rw [← e]; simp)
  have n4 : ln ≠ g := fun e => hn (by rw [← e]; simp)
  exact ⟨lm, ls, lp, ln, rfl, {
    obj := by rw [upd_ne (ne_of S.obj hg (by intro z; cases z))]; exact S.obj
    m := let ⟨as, h1, h2⟩ := S.m; ⟨as, by rw [upd_ne n1]; exact h1, Paired.mapP h2 fun _ _ h => h.keeps kp⟩
    s := let ⟨as, h1, h2⟩ := S.s; ⟨as, by rw [upd_ne n2]; exact h1, Paired.mapP h2 fun _ _ h => h.keeps kp⟩
    d := let ⟨as, h1, h2⟩ := S.d; ⟨as, by rw [upd_ne n3]; exact h1, Paired.mapP h2 fun _ _ h => h.keeps kp⟩
    n := let ⟨as, h1, h2⟩ := S.n; ⟨as, by rw [upd_ne n4]; exact h1, Paired.mapP h2 fun _ _ h => h.keeps kp⟩
    d1 := S.d1
    d2 := S.d2
    d3 := S.d3
    d4 := S.d4
    d5 := S.d5
    d6 := S.d6 }⟩
theorem cut_mid {ns : List Int} {i n : Nat} (h : i + 1 + n ≤ ns.length) : cutV (ns.map V.int) (some ((i : Int) + 1)) (some ((i : Int) + 1 + n)) = ((ns.drop (i + 1)).take n).map V.int := by
  unfold cutV
  rw [show (i : Int) + 1 = ((i + 1 : Nat) : Int) by omega, show ((i + 1 : Nat) : Int) + n = ((i + 1 + n : Nat) : Int) by omega, HT.sIx_nat, HT.sIx_nat, List.length_map, Nat.min_eq_left h, Nat.min_eq_left (by omega), Nat.add_sub_cancel_left, List.map_take, List.map_drop]
def spAnswers (K : PySem.W.Frag) : Sp := fun vs H Q _ => ∃ (a : Addr) (ns : List Int), vs = [.ref a] ∧ SqL K H a (ns.map V.int) ∧ PySw70.answers_asked ns = true ∧
  ∀ (H' : Hp) (r : Addr), H' r = some (.lst ((PySw70.answers ns).map V.int)) → Q (.ref r) H'
theorem ok_answers (T : Txt K mg) : FnOk P w K mg base CX0 9 T.A_answers T.D_answers ["calls"] (spAnswers K) := by
  refine T.f_answers.ok sc_answers (fun vs H Q E h => ?_) (fun cdv A outer s H vs Q E hr h => ?_)
  · obtain ⟨a, ns, rfl, _⟩ := h
    rfl
  · obtain ⟨a, ns, rfl, hS, hask, k⟩ := h
    have R0 := XM.Rest.start hask
    refine ⟨_, (pss_cons (ps_set (i := 1) sc_answers.nd rfl (by first | exact Or.inl rfl | exact Or.inr rfl) (pe_make0 T.k_Score (ok_Score_init T) (hr.mono (by decide)) rfl T.g_Score T.b_Score_init .nil pass0)) (pss_cons (ps_set (i := 2) sc_answers.nd rfl (by first | exact Or.inl rfl | exact Or.inr rfl) (pe_lst pa_nil)) (pss_cons (ps_set (i := 3) sc_answers.nd rfl (by first | exact Or.inl rfl | exact Or.inr rfl) pe_int) (pss_cons (ps_while PassesOwn.never (pt_cmpR op_lt (pv 3) (pe_callB call_len_seq (by rfl) T.n_len PySem.boot_len (pa_cons (pv 0) pa_nil)) (nomark _)) (pss_cons (ps_set (i := 4) sc_answers.nd rfl (by first | exact Or.inl rfl | exact Or.inr rfl) (pe_ix ix_list (pv 0) (pv 3) (fun _ _ => rfl))) (pss_cons (ps_set (i := 5) sc_answers.nd rfl (by first | exact Or.inl rfl | exact Or.inr rfl) (pe_op op_add (pe_op op_add (pv 3) pe_int) (pe_nb rfl T.nb (pv 4)))) (pss_cons (ps_set (i := 6) sc_answers.nd rfl (by first | exact Or.inl rfl | exact Or.inr rfl) (pe_call (ok_answer_call T) (hr.mono (by decide)) rfl T.g_answer_call T.f_answer_call.kp T.b_answer_call .nil pass0 (pa_cons (pv 1) (pa_cons (pv 4) (pa_cons (pe_slice sl_list (pv 0) (po_some (pe_op op_add (pv 3) pe_int)) (po_some (pv 5))) pa_nil))))) (pss_cons (ps_expr (pe_bm PySem.F.plainAttrs_list PySem.F.slot_list_append PySem.F.type_list_append mt_append (pv 2) (pa_cons (pe_callB call_len_seq (by rfl) T.n_len PySem.boot_len (pa_cons (pv 6) pa_nil)) pa_nil))) (pss_cons (ps_expr (pe_bm PySem.F.plainAttrs_list PySem.F.slot_list_extend PySem.F.type_list_extend mt_extend (pv 2) (pa_cons (pv 6) pa_nil))) (pss_one (ps_set (i := 3) sc_answers.nd rfl (by first | exact Or.inl rfl | exact Or.inr rfl) (pv 5))))))))) (pss_one (ps_ret (pv 2))))))), ?_⟩
    intro p dxp np nd ne
    have s0 : Same H (upd (upd H dxp (.own p)) p (.ins T.C_Score dxp [])) := Same.made2 np nd
    refine ⟨p, dxp, rfl, upd_same, fun H1 L0 S1 fr hL0 => ⟨rfl, ?_⟩⟩
    have s1 : Same H H1 := fun b o e => fr b o (s0 _ _ e) (ne_of_none e np)
    refine ⟨Nat.zero_le _, fun g ng => ?_⟩
    have s2 : Same H1 (upd H1 g (.lst [])) := Same.new ng
    have nHg : H g = none := s1.free ng
    have hL0' : ∀ b ∈ L0, H b = none := fun b hb => s0.free (hL0 b hb)
    have hgL : g ∉ L0 := fun hm => by
      obtain ⟨lm, ls, lp, ln, rfl, SI⟩ := id S1
      obtain ⟨a1, h1, _⟩ := SI.m
      obtain ⟨a2, h2, _⟩ := SI.s
      obtain ⟨a3, h3, _⟩ := SI.d
      obtain ⟨a4, h4, _⟩ := SI.n
      simp only [List.mem_cons, List.not_mem_nil, or_false] at hm
      rcases hm with e | e | e | e
      · rw [← e, ng] at h1; cases h1
      · rw [← e, ng] at h2; cases h2
      · rw [← e, ng] at h3; cases h3
      · rw [← e, ng] at h4; cases h4
    refine while_by (fun σ H' => ∃ (st : Nat) (q : Piece) (G : List Int) (L : List Addr) (v4 v5 v6 : Option V), σ = [some (.ref a), some (.ref p), some (.ref g), some (.int st), v4, v5, v6] ∧ Same H H' ∧ ScoreAt T H' p dxp L q ∧ (∀ b ∈ L, H b = none) ∧ g ∉ L ∧ H' g = some (.lst (G.map V.int)) ∧ XM.Rest ns st q G)
      (fun (σ : L2.St) (_ : Hp) => match σ[3]? with | some (some (V.int x)) => ns.length - x.toNat | _ => 0)
      ⟨0, Sw70.init, [], L0, none, none, none, rfl, s1.trans s2, S1.same s2, hL0', hgL, upd_same, R0⟩ ?_
      (fun σ H' Q1 Q2 hQ ⟨v, e, w', e', p', ys, ep, hs, i, j, ei, ej, k, ek, q⟩ => ⟨v, e, w', e', p', ys, ep, hs, i, j, ei, ej, k, ek, hQ _ _ q⟩)
    rintro σ H2 ⟨st, q, G, L, v4, v5, v6, rfl, sm, S, hL, hgl, hg, R⟩
    have hS2 := sm.seq hS
    refine ⟨_, rfl, _, rfl, a, _, rfl, .inl hS2, _, _, rfl, rfl, _, rfl, iteD (fun h1 => ?_) (fun h1 => ?_)⟩
    · rw [List.length_map] at h1
      have hlt : st < ns.length := by omega
      obtain ⟨n, c, hsh, hle, hc, hbd, R'⟩ := R.turn hlt
      refine ⟨_, rfl, _, rfl, a, _, _, _, rfl, rfl, hS2, atI_nat (v := V.int ns[st]) (by rw [List.getElem?_map, List.getElem?_eq_getElem hlt]; rfl), ?_⟩
      refine ⟨_, rfl, _, _, rfl, rfl, _, rfl, _, n, rfl, hsh, _, _, rfl, rfl, ?_⟩
      refine ⟨_, rfl, _, rfl, _, rfl, _, rfl, _, _, rfl, rfl, _, rfl, _, rfl, _, rfl, a, _, rfl, hS2, fun l nl => ?_⟩
      dsimp only
      rw [cut_mid hle]
      have s3 : Same H2 (upd H2 l (.lst (((ns.drop (st + 1)).take n).map V.int))) := Same.new nl
      have hl3 : upd H2 l (.lst (((ns.drop (st + 1)).take n).map V.int)) l = some (.lst (((ns.drop (st + 1)).take n).map V.int)) := upd_same
      revert s3 hl3
      generalize upd H2 l (.lst (((ns.drop (st + 1)).take n).map V.int)) = H3
      intro s3 hl3
      have hg3 := s3 _ _ hg
      have S3 := S.same s3
      have ngp : g ≠ p := by
        obtain ⟨lm, ls, lp, ln, _, SI⟩ := id S
        exact ne_of hg SI.obj (by intro z; cases z)
      refine ⟨p, dxp, L, q, l, ns[st], _, c, rfl, S3, R.pok, hl3, XM.told_of hc, fun H4 r L' S4 stp hne hr4 => ?_⟩
      have hg4 := stp.1 g _ hg3 ngp hgl
      have ngr : g ≠ r := hne g _ hg3 ngp hgl
      have sm3 := sm.trans s3
      have sm4 : Same H H4 := fun b o e => stp.1 b o (sm3 _ _ e) (ne_of_none e np) fun hm => by
        rw [hL b hm] at e
        cases e
      have hgl4 : g ∉ L' := fun hm => by
        rcases stp.2 g hm with z | z
        · exact hgl z
        · rw [hg3] at z
          cases z
      have hL4 : ∀ b ∈ L', H b = none := fun b hb => (stp.2 b hb).elim (hL b) sm3.free
      have hbd1 : (G.map V.int).length < sizeLine := by
        rw [List.length_map]
        exact Nat.lt_of_lt_of_le (m := 1000250) (by omega) (by decide)
      refine ⟨_, rfl, .inl ⟨rfl, _, SqL.of hg4⟩, _, rfl, r, _, rfl, .inl (SqL.of hr4), g, _, _, rfl, rfl, hg4, hbd1, ?_⟩
      refine ⟨_, rfl, .inl ⟨rfl, _, SqL.of upd_same⟩, _, rfl, g, r, _, _, rfl, rfl, upd_same, (by rw [upd_ne ngr.symm]; exact hr4), ?_, ?_⟩
      · rw [List.length_append, List.length_map, List.length_map]
        exact Nat.le_trans (m := 1000250) (by show G.length + 1 + _ ≤ _; omega) (by decide)
      rw [upd_upd]
      refine ⟨_, rfl, ⟨st + 1 + n, (Sw70.step q c).1, _, L', some (.int ns[st]), some (.int ((st : Int) + 1 + n)), some (.ref r), ?_, fun b o e => ?_, score_lst S4 hg4 hgl4, hL4, hgl4, ?_, R'⟩, ?_⟩
      · show [_, _, _, some (V.int ((st : Int) + 1 + n)), _, _, _] = _
        rw [show (st : Int) + 1 + n = ((st + 1 + n : Nat) : Int) by omega]
      · rw [upd_ne (ne_of_none e nHg)]
        exact sm4 _ _ e
      · rw [upd_same, List.length_map, List.map_append, List.append_assoc]
        rfl
      · show ns.length - ((st : Int) + 1 + n).toNat < ns.length - ((st : Nat) : Int).toNat
        omega
    · rw [List.length_map] at h1
      refine ⟨_, rfl, k H2 g ?_⟩
      rw [R.done (by omega)]
      exact hg
end
end XW
namespace XW
open PySem PySem.Spec PyProof.Rows L2
/-! ### what the top has written -/
section
variable {K : PySem.W.Frag} {mg : Str → Option Value} {h : Heap}
def NoAll (K : PySem.W.Frag) (C : Addr) : List Str → Prop
  | [] => True
  | f :: r => PySem.W.findIn K (.ref C) f = some none ∧ NoAll K C r
theorem NoAll.all {C : Addr} : ∀ {fs : List Str}, NoAll K C fs → ∀ f ∈ fs, NoAttr K C f
  | [], _, f, h => by simp at h
  | g :: r, ⟨h1, h2⟩, f, h => by
    rcases List.mem_cons.mp h with e | e
    · rw [e]
      exact h1
    · exact NoAll.all h2 f e
structure KP (K : PySem.W.Frag) (mg : Str → Option Value) (x : Str) (fs : List Str) (C : Addr) : Prop where
  cl : Cls K C
  g : mg x = some (.ref C)
  na : ∀ f ∈ fs, NoAttr K C f
theorem cls_mk {x : Str} {fs : List Str} {C : Addr} (X : K.In h) (G : h.Ns mainGlobals mg) (a : PySem.W.nsIn K mainGlobals x = some (some (.ref C))) (pg : PySem.W.plainGet K C Str.empty = true) (hd : PySem.W.hasDictIn K C = true) (po : PySem.W.plainOver K C = true)
    (sa : PySem.W.findIn K (.ref C) "__setattr__" = some (some (.builtin "object.__setattr__"))) (na : NoAll K C fs) : KP K mg x fs C := ⟨⟨pg, hd, po, sa⟩, PySem.W.mg_of X G a, na.all⟩
abbrev BindsAt (x qual : Str) (st : Stmt) (ps : List Str) : Prop := ∀ (kV doc pm : Value) (an : Option Addr) (cdv ct : Value) (us : List Value), us.length = ps.length → bindArgs (PySem.W.fnOf x qual (defArgs st) (defBody st) (defScope st) .none kV doc pm an cdv ct) ⟨us, []⟩ = pure (ps.zip us)
theorem gfn_mk {x : Str} {st : Stmt} {ps : List Str} {A : Addr} {oc : Value} {od an : Option Addr} {osl : Array (Option Value)} {kV doc pm cdv ct : Value} (X : K.In h) (G : h.Ns mainGlobals mg) (hb : BindsAt x x st ps) (a : PySem.W.nsIn K mainGlobals x = some (some (.ref A)))
    (l : K.lookup A = some ⟨oc, od, .func (PySem.W.fnOf x x (defArgs st) (defBody st) (defScope st) .none kV doc pm an cdv ct), osl⟩) (c : PySem.W.codeIn K cdv x = true) (k : PySem.W.keepIn K (.ref A) = true) : Nonempty (GFn K mg x st ps) :=
  ⟨⟨A, _, fun_mk (st := st) l c k, (fun_mk (st := st) l c k).binds hb, PySem.W.mg_of X G a⟩⟩
theorem mfn_mk {C : Addr} {x qual : Str} {st : Stmt} {ps : List Str} {A : Addr} {oc : Value} {od an : Option Addr} {osl : Array (Option Value)} {kV doc pm cdv ct : Value} (hb : BindsAt x qual st ps) (a : PySem.W.findIn K (.ref C) x = some (some (.ref A)))
    (l : K.lookup A = some ⟨oc, od, .func (PySem.W.fnOf x qual (defArgs st) (defBody st) (defScope st) .none kV doc pm an cdv ct), osl⟩) (c : PySem.W.codeIn K cdv qual = true) (k : PySem.W.keepIn K (.ref A) = true) (i : PySem.W.isFn K (.ref A) = true) : Nonempty (MFn K C x qual st ps) :=
  ⟨⟨A, _, fun_mk (st := st) l c k, (fun_mk (st := st) l c k).binds hb, ⟨a, i, k⟩⟩⟩
theorem ifn_mk {C : Addr} {qual : Str} {st : Stmt} {ps : List Str} {A : Addr} {oc : Value} {od an : Option Addr} {osl : Array (Option Value)} {kV doc pm cdv ct : Value} (hb : BindsAt "__init__" qual st ps) (a : PySem.W.findIn K (.ref C) "__init__" = some (some (.ref A)))
    (l : K.lookup A = some ⟨oc, od, .func (PySem.W.fnOf "__init__" qual (defArgs st) (defBody st) (defScope st) .none kV doc pm an cdv ct), osl⟩) (c : PySem.W.codeIn K cdv qual = true) (k : PySem.W.keepIn K (.ref A) = true) (i : PySem.W.isFn K (.ref A) = true)
    (m : PySem.W.makesIn K C = true) (kc : PySem.W.keepIn K (.ref C) = true) : Nonempty (IFn K C qual st ps) :=
  ⟨⟨A, _, fun_mk (st := st) l c k, (fun_mk (st := st) l c k).binds hb, ⟨m, a, i, kc⟩⟩⟩
theorem con_mk {x : Str} {n : Int} {t : Tok} (X : K.In h) (G : h.Ns mainGlobals mg) (a : PySem.W.nsIn K mainGlobals x = some (some (.int n t))) : ∃ t, mg x = some (Value.int n t) := ⟨t, PySem.W.mg_of X G a⟩
theorem nb_mk {d : Addr} {ep : Nat} {t0 t1 t2 t3 t4 t5 t6 t7 t8 t9 u0 u1 u2 u3 u4 u5 u6 u7 u8 u9 : Tok} (X : K.In h) (G : h.Ns mainGlobals mg) (a : PySem.W.nsIn K mainGlobals "NUMBERS_BEHIND" = some (some (.ref d)))
    (l : K.lookup d = some ⟨.type "dict", none, .dict #[⟨0, .int 0 t0, .int 1 u0⟩, ⟨1, .int 1 t1, .int 3 u1⟩, ⟨2, .int 2 t2, .int 5 u2⟩, ⟨3, .int 3 t3, .int 2 u3⟩, ⟨4, .int 4 t4, .int 7 u4⟩, ⟨5, .int 5 t5, .int 1 u5⟩, ⟨6, .int 6 t6, .int 1 u6⟩, ⟨7, .int 7 t7, .int 0 u7⟩, ⟨8, .int 8 t8, .int 0 u8⟩, ⟨9, .int 9 t9, .int 1 u9⟩] ep, #[]⟩) : NbAt K mg :=
  ⟨⟨d, _, ep, fun i => [t0, t1, t2, t3, t4, t5, t6, t7, t8, t9].getD i t0, fun i => [u0, u1, u2, u3, u4, u5, u6, u7, u8, u9].getD i u0, PySem.W.mg_of X G a, l, ⟨rfl, rfl, rfl⟩, rfl⟩⟩
theorem txt_of
    (h_Mark : ∃ C, KP K mg "Mark" ["tick", "length", "even"] C ∧ Nonempty (IFn K C "Mark.__init__" (inClass (top 22) 0) ["self", "tick", "length", "even"]))
    (h_Swing : ∃ C, KP K mg "Swing" ["first", "last", "pair", "a", "b"] C ∧ Nonempty (IFn K C "Swing.__init__" (inClass (top 23) 0) ["self", "first", "last", "pair", "a", "b"]))
    (h_Pedal : ∃ C, KP K mg "Pedal" ["first", "last"] C ∧ Nonempty (IFn K C "Pedal.__init__" (inClass (top 24) 0) ["self", "first", "last"]))
    (h_Note : ∃ C, KP K mg "Note" ["voice", "pitch", "first", "length", "loudness", "part", "tied"] C ∧ Nonempty (IFn K C "Note.__init__" (inClass (top 25) 0) ["self", "voice", "pitch", "first", "length", "loudness", "part", "tied"]))
    (h_Score : ∃ C, KP K mg "Score" ["ticks", "marks", "swings", "pedals", "notes"] C ∧ Nonempty (IFn K C "Score.__init__" (inClass (top 39) 0) ["self"]) ∧ Nonempty (MFn K C "clear_to" "Score.clear_to" (inClass (top 39) 1) ["self", "ticks"]) ∧ Nonempty (MFn K C "begin" "Score.begin" (inClass (top 39) 2) ["self", "ticks"]) ∧ Nonempty (MFn K C "put_mark" "Score.put_mark" (inClass (top 39) 3) ["self", "mark"]) ∧ Nonempty (MFn K C "put_swing" "Score.put_swing" (inClass (top 39) 4) ["self", "swing"]) ∧ Nonempty (MFn K C "put_pedal" "Score.put_pedal" (inClass (top 39) 5) ["self", "pedal"]) ∧ Nonempty (MFn K C "put_note" "Score.put_note" (inClass (top 39) 6) ["self", "note"]) ∧ Nonempty (MFn K C "farthest_tick" "Score.farthest_tick" (inClass (top 39) 7) ["self"]) ∧ Nonempty (MFn K C "move" "Score.move" (inClass (top 39) 8) ["self", "ticks"]))
    (h_Stretch : ∃ C, KP K mg "Stretch" ["tick", "length", "rise", "over", "passed"] C ∧ Nonempty (IFn K C "Stretch.__init__" (inClass (top 41) 0) ["self", "tick", "length", "rise", "over", "passed"]))
    (h_Tempo : ∃ C, KP K mg "Tempo" ["ticks", "stretches", "swings"] C ∧ Nonempty (IFn K C "Tempo.__init__" (inClass (top 45) 0) ["self", "score"]) ∧ Nonempty (MFn K C "swung" "Tempo.swung" (inClass (top 45) 1) ["self", "place"]) ∧ Nonempty (MFn K C "stretch_at" "Tempo.stretch_at" (inClass (top 45) 2) ["self", "place"]) ∧ Nonempty (MFn K C "time_of" "Tempo.time_of" (inClass (top 45) 3) ["self", "place"]) ∧ Nonempty (MFn K C "tick_at" "Tempo.tick_at" (inClass (top 45) 4) ["self", "time"]))
    (h_Sound : ∃ C, KP K mg "Sound" ["number", "note", "beginning", "ending"] C ∧ Nonempty (IFn K C "Sound.__init__" (inClass (top 47) 0) ["self", "number", "note", "ending"]))
    (h_Event : ∃ C, KP K mg "Event" ["time", "kind", "voice", "pitch", "loudness", "number"] C ∧ Nonempty (IFn K C "Event.__init__" (inClass (top 59) 0) ["self", "time", "kind", "sound"]))
    (h_greatest_divisor : Nonempty (GFn K mg "greatest_divisor" (top 1) ["one", "other"]))
    (h_is_after : Nonempty (GFn K mg "is_after" (top 2) ["fraction", "other"]))
    (h_nearest : Nonempty (GFn K mg "nearest" (top 3) ["fraction"]))
    (h_told : Nonempty (GFn K mg "told" (top 4) ["fraction"]))
    (h_mark_tick : Nonempty (GFn K mg "mark_tick" (top 26) ["mark"]))
    (h_mark_is_as_told : Nonempty (GFn K mg "mark_is_as_told" (top 27) ["mark"]))
    (h_span_is_as_told : Nonempty (GFn K mg "span_is_as_told" (top 28) ["span"]))
    (h_pairs_fit : Nonempty (GFn K mg "pairs_fit" (top 29) ["swing"]))
    (h_swing_is_as_told : Nonempty (GFn K mg "swing_is_as_told" (top 30) ["swing"]))
    (h_note_end : Nonempty (GFn K mg "note_end" (top 31) ["note"]))
    (h_note_is_as_told : Nonempty (GFn K mg "note_is_as_told" (top 32) ["note"]))
    (h_has_tick_in_common : Nonempty (GFn K mg "has_tick_in_common" (top 33) ["span", "others"]))
    (h_put_span : Nonempty (GFn K mg "put_span" (top 34) ["spans", "span"]))
    (h_later_mark : Nonempty (GFn K mg "later_mark" (top 35) ["mark", "ticks"]))
    (h_later_swing : Nonempty (GFn K mg "later_swing" (top 36) ["swing", "ticks"]))
    (h_later_pedal : Nonempty (GFn K mg "later_pedal" (top 37) ["pedal", "ticks"]))
    (h_later_note : Nonempty (GFn K mg "later_note" (top 38) ["note", "ticks"]))
    (h_stretches_of : Nonempty (GFn K mg "stretches_of" (top 42) ["marks"]))
    (h_is_within : Nonempty (GFn K mg "is_within" (top 43) ["span", "place"]))
    (h_swung_by : Nonempty (GFn K mg "swung_by" (top 44) ["swing", "place"]))
    (h_numbers_by_beginning : Nonempty (GFn K mg "numbers_by_beginning" (top 48) ["notes"]))
    (h_ties_of : Nonempty (GFn K mg "ties_of" (top 49) ["notes"]))
    (h_last_number : Nonempty (GFn K mg "last_number" (top 50) ["number", "ties"]))
    (h_place_of_end : Nonempty (GFn K mg "place_of_end" (top 51) ["note", "pedals"]))
    (h_order_of_striking : Nonempty (GFn K mg "order_of_striking" (top 52) ["sound"]))
    (h_are_alike : Nonempty (GFn K mg "are_alike" (top 53) ["sound", "other"]))
    (h_end_one_another : Nonempty (GFn K mg "end_one_another" (top 54) ["sounds"]))
    (h_sounds_of : Nonempty (GFn K mg "sounds_of" (top 55) ["score"]))
    (h_order_of_events : Nonempty (GFn K mg "order_of_events" (top 60) ["event"]))
    (h_events_of : Nonempty (GFn K mg "events_of" (top 61) ["score"]))
    (h_read_mark : Nonempty (GFn K mg "read_mark" (top 74) ["numbers"]))
    (h_read_swing : Nonempty (GFn K mg "read_swing" (top 75) ["numbers"]))
    (h_read_pedal : Nonempty (GFn K mg "read_pedal" (top 76) ["numbers"]))
    (h_read_note : Nonempty (GFn K mg "read_note" (top 77) ["numbers"]))
    (h_counted : Nonempty (GFn K mg "counted" (top 78) ["numbers"]))
    (h_answer_time : Nonempty (GFn K mg "answer_time" (top 79) ["score", "tick"]))
    (h_answer_sounds : Nonempty (GFn K mg "answer_sounds" (top 80) ["score"]))
    (h_answer_events : Nonempty (GFn K mg "answer_events" (top 81) ["score"]))
    (h_answer_call : Nonempty (GFn K mg "answer_call" (top 82) ["score", "call", "numbers"]))
    (h_answers : Nonempty (GFn K mg "answers" (top 83) ["calls"]))
    (h_NOT_AS_TOLD : ∃ t, mg "NOT_AS_TOLD" = some (Value.int (-1) t))
    (h_IN_COMMON : ∃ t, mg "IN_COMMON" = some (Value.int (-3) t))
    (h_TOO_MANY : ∃ t, mg "TOO_MANY" = some (Value.int (-5) t))
    (h_LAST_TICK : ∃ t, mg "LAST_TICK" = some (Value.int 1000000 t))
    (h_GREATEST_QUARTER : ∃ t, mg "GREATEST_QUARTER" = some (Value.int 960 t))
    (h_LONGEST_QUARTER : ∃ t, mg "LONGEST_QUARTER" = some (Value.int 10000000 t))
    (h_GREATEST_SHARE : ∃ t, mg "GREATEST_SHARE" = some (Value.int 20 t))
    (h_GREATEST_VOICE : ∃ t, mg "GREATEST_VOICE" = some (Value.int 15 t))
    (h_GREATEST_PITCH : ∃ t, mg "GREATEST_PITCH" = some (Value.int 127 t))
    (h_GREATEST_LOUDNESS : ∃ t, mg "GREATEST_LOUDNESS" = some (Value.int 127 t))
    (h_GREATEST_PART : ∃ t, mg "GREATEST_PART" = some (Value.int 100 t))
    (h_MOST_MARKS : ∃ t, mg "MOST_MARKS" = some (Value.int 50 t))
    (h_MOST_SPANS : ∃ t, mg "MOST_SPANS" = some (Value.int 30 t))
    (h_MOST_NOTES : ∃ t, mg "MOST_NOTES" = some (Value.int 200 t))
    (h_FIRST_TICKS : ∃ t, mg "FIRST_TICKS" = some (Value.int 480 t))
    (h_FIRST_LENGTH : ∃ t, mg "FIRST_LENGTH" = some (Value.int 500000 t))
    (h_BEGINNING : ∃ t, mg "BEGINNING" = some (Value.int 1 t))
    (h_END : ∃ t, mg "END" = some (Value.int 0 t))
    (h_BEGINS : ∃ t, mg "BEGINS" = some (Value.int 0 t))
    (h_MARK : ∃ t, mg "MARK" = some (Value.int 1 t))
    (h_SWING : ∃ t, mg "SWING" = some (Value.int 2 t))
    (h_PEDAL : ∃ t, mg "PEDAL" = some (Value.int 3 t))
    (h_NOTE : ∃ t, mg "NOTE" = some (Value.int 4 t))
    (h_TIME : ∃ t, mg "TIME" = some (Value.int 5 t))
    (h_AT : ∃ t, mg "AT" = some (Value.int 6 t))
    (h_SOUNDS : ∃ t, mg "SOUNDS" = some (Value.int 7 t))
    (h_EVENTS : ∃ t, mg "EVENTS" = some (Value.int 8 t))
    (h_MOVED : ∃ t, mg "MOVED" = some (Value.int 9 t))
    (h_nb : NbAt K mg)
    (n_enumerate : mg "enumerate" = none)
    (n_len : mg "len" = none)
    (n_max : mg "max" = none)
    (n_sorted : mg "sorted" = none)
    (n_zip : mg "zip" = none)
    : Nonempty (Txt K mg) := by
  obtain ⟨C_Mark, k_Mark, ⟨f_Mark_init⟩⟩ := h_Mark
  obtain ⟨C_Swing, k_Swing, ⟨f_Swing_init⟩⟩ := h_Swing
  obtain ⟨C_Pedal, k_Pedal, ⟨f_Pedal_init⟩⟩ := h_Pedal
  obtain ⟨C_Note, k_Note, ⟨f_Note_init⟩⟩ := h_Note
  obtain ⟨C_Score, k_Score, ⟨f_Score_init⟩, ⟨f_Score_clear_to⟩, ⟨f_Score_begin⟩, ⟨f_Score_put_mark⟩, ⟨f_Score_put_swing⟩, ⟨f_Score_put_pedal⟩, ⟨f_Score_put_note⟩, ⟨f_Score_farthest_tick⟩, ⟨f_Score_move⟩⟩ := h_Score
  obtain ⟨C_Stretch, k_Stretch, ⟨f_Stretch_init⟩⟩ := h_Stretch
  obtain ⟨C_Tempo, k_Tempo, ⟨f_Tempo_init⟩, ⟨f_Tempo_swung⟩, ⟨f_Tempo_stretch_at⟩, ⟨f_Tempo_time_of⟩, ⟨f_Tempo_tick_at⟩⟩ := h_Tempo
  obtain ⟨C_Sound, k_Sound, ⟨f_Sound_init⟩⟩ := h_Sound
  obtain ⟨C_Event, k_Event, ⟨f_Event_init⟩⟩ := h_Event
  obtain ⟨f_greatest_divisor⟩ := h_greatest_divisor
  obtain ⟨f_is_after⟩ := h_is_after
  obtain ⟨f_nearest⟩ := h_nearest
  obtain ⟨f_told⟩ := h_told
  obtain ⟨f_mark_tick⟩ := h_mark_tick
  obtain ⟨f_mark_is_as_told⟩ := h_mark_is_as_told
  obtain ⟨f_span_is_as_told⟩ := h_span_is_as_told
  obtain ⟨f_pairs_fit⟩ := h_pairs_fit
  obtain ⟨f_swing_is_as_told⟩ := h_swing_is_as_told
  obtain ⟨f_note_end⟩ := h_note_end
  obtain ⟨f_note_is_as_told⟩ := h_note_is_as_told
  obtain ⟨f_has_tick_in_common⟩ := h_has_tick_in_common
  obtain ⟨f_put_span⟩ := h_put_span
  obtain ⟨f_later_mark⟩ := h_later_mark
  obtain ⟨f_later_swing⟩ := h_later_swing
  obtain ⟨f_later_pedal⟩ := h_later_pedal
  obtain ⟨f_later_note⟩ := h_later_note
  obtain ⟨f_stretches_of⟩ := h_stretches_of
  obtain ⟨f_is_within⟩ := h_is_within
  obtain ⟨f_swung_by⟩ := h_swung_by
  obtain ⟨f_numbers_by_beginning⟩ := h_numbers_by_beginning
  obtain ⟨f_ties_of⟩ := h_ties_of
  obtain ⟨f_last_number⟩ := h_last_number
  obtain ⟨f_place_of_end⟩ := h_place_of_end
  obtain ⟨f_order_of_striking⟩ := h_order_of_striking
  obtain ⟨f_are_alike⟩ := h_are_alike
  obtain ⟨f_end_one_another⟩ := h_end_one_another
  obtain ⟨f_sounds_of⟩ := h_sounds_of
  obtain ⟨f_order_of_events⟩ := h_order_of_events
  obtain ⟨f_events_of⟩ := h_events_of
  obtain ⟨f_read_mark⟩ := h_read_mark
  obtain ⟨f_read_swing⟩ := h_read_swing
  obtain ⟨f_read_pedal⟩ := h_read_pedal
  obtain ⟨f_read_note⟩ := h_read_note
  obtain ⟨f_counted⟩ := h_counted
  obtain ⟨f_answer_time⟩ := h_answer_time
  obtain ⟨f_answer_sounds⟩ := h_answer_sounds
  obtain ⟨f_answer_events⟩ := h_answer_events
  obtain ⟨f_answer_call⟩ := h_answer_call
  obtain ⟨f_answers⟩ := h_answers
  exact ⟨{
    K_Mark := ⟨C_Mark, k_Mark.cl, k_Mark.g, k_Mark.na⟩
    K_Swing := ⟨C_Swing, k_Swing.cl, k_Swing.g, k_Swing.na⟩
    K_Pedal := ⟨C_Pedal, k_Pedal.cl, k_Pedal.g, k_Pedal.na⟩
    K_Note := ⟨C_Note, k_Note.cl, k_Note.g, k_Note.na⟩
    K_Score := ⟨C_Score, k_Score.cl, k_Score.g, k_Score.na⟩
    K_Stretch := ⟨C_Stretch, k_Stretch.cl, k_Stretch.g, k_Stretch.na⟩
    K_Tempo := ⟨C_Tempo, k_Tempo.cl, k_Tempo.g, k_Tempo.na⟩
    K_Sound := ⟨C_Sound, k_Sound.cl, k_Sound.g, k_Sound.na⟩
    K_Event := ⟨C_Event, k_Event.cl, k_Event.g, k_Event.na⟩
    F_greatest_divisor := f_greatest_divisor
    F_is_after := f_is_after
    F_nearest := f_nearest
    F_told := f_told
    F_Mark_init := f_Mark_init
    F_Swing_init := f_Swing_init
    F_Pedal_init := f_Pedal_init
    F_Note_init := f_Note_init
    F_mark_tick := f_mark_tick
    F_mark_is_as_told := f_mark_is_as_told
    F_span_is_as_told := f_span_is_as_told
    F_pairs_fit := f_pairs_fit
    F_swing_is_as_told := f_swing_is_as_told
    F_note_end := f_note_end
    F_note_is_as_told := f_note_is_as_told
    F_has_tick_in_common := f_has_tick_in_common
    F_put_span := f_put_span
    F_later_mark := f_later_mark
    F_later_swing := f_later_swing
    F_later_pedal := f_later_pedal
    F_later_note := f_later_note
    F_Score_init := f_Score_init
    F_Score_clear_to := f_Score_clear_to
    F_Score_begin := f_Score_begin
    F_Score_put_mark := f_Score_put_mark
    F_Score_put_swing := f_Score_put_swing
    F_Score_put_pedal := f_Score_put_pedal
    F_Score_put_note := f_Score_put_note
    F_Score_farthest_tick := f_Score_farthest_tick
    F_Score_move := f_Score_move
    F_Stretch_init := f_Stretch_init
    F_stretches_of := f_stretches_of
    F_is_within := f_is_within
    F_swung_by := f_swung_by
    F_Tempo_init := f_Tempo_init
    F_Tempo_swung := f_Tempo_swung
    F_Tempo_stretch_at := f_Tempo_stretch_at
    F_Tempo_time_of := f_Tempo_time_of
    F_Tempo_tick_at := f_Tempo_tick_at
    F_Sound_init := f_Sound_init
    F_numbers_by_beginning := f_numbers_by_beginning
    F_ties_of := f_ties_of
    F_last_number := f_last_number
    F_place_of_end := f_place_of_end
    F_order_of_striking := f_order_of_striking
    F_are_alike := f_are_alike
    F_end_one_another := f_end_one_another
    F_sounds_of := f_sounds_of
    F_Event_init := f_Event_init
    F_order_of_events := f_order_of_events
    F_events_of := f_events_of
    F_read_mark := f_read_mark
    F_read_swing := f_read_swing
    F_read_pedal := f_read_pedal
    F_read_note := f_read_note
    F_counted := f_counted
    F_answer_time := f_answer_time
    F_answer_sounds := f_answer_sounds
    F_answer_events := f_answer_events
    F_answer_call := f_answer_call
    F_answers := f_answers
    c_NOT_AS_TOLD := h_NOT_AS_TOLD
    c_IN_COMMON := h_IN_COMMON
    c_TOO_MANY := h_TOO_MANY
    c_LAST_TICK := h_LAST_TICK
    c_GREATEST_QUARTER := h_GREATEST_QUARTER
    c_LONGEST_QUARTER := h_LONGEST_QUARTER
    c_GREATEST_SHARE := h_GREATEST_SHARE
    c_GREATEST_VOICE := h_GREATEST_VOICE
    c_GREATEST_PITCH := h_GREATEST_PITCH
    c_GREATEST_LOUDNESS := h_GREATEST_LOUDNESS
    c_GREATEST_PART := h_GREATEST_PART
    c_MOST_MARKS := h_MOST_MARKS
    c_MOST_SPANS := h_MOST_SPANS
    c_MOST_NOTES := h_MOST_NOTES
    c_FIRST_TICKS := h_FIRST_TICKS
    c_FIRST_LENGTH := h_FIRST_LENGTH
    c_BEGINNING := h_BEGINNING
    c_END := h_END
    c_BEGINS := h_BEGINS
    c_MARK := h_MARK
    c_SWING := h_SWING
    c_PEDAL := h_PEDAL
    c_NOTE := h_NOTE
    c_TIME := h_TIME
    c_AT := h_AT
    c_SOUNDS := h_SOUNDS
    c_EVENTS := h_EVENTS
    c_MOVED := h_MOVED
    nb := h_nb
    n_enumerate := n_enumerate
    n_len := n_len
    n_max := n_max
    n_sorted := n_sorted
    n_zip := n_zip }⟩
theorem fin_mk {P : Program} {w : World} {fa : Addr} (hfa : mg "answers" = some (.ref fa)) (t : Nonempty (Txt K mg)) : ∃ fd : FuncData, (∀ (s : Shared) (us : List Value), us.length = (["calls"] : List Str).length → BindsTo s fd ⟨us, []⟩ ((["calls"] : List Str).zip us)) ∧
    ∀ base : Heap, K.In base → base.Ns mainGlobals mg → FnOk P w K mg base CX0 9 fa fd ["calls"] (spAnswers K) := by
  obtain ⟨T⟩ := t
  have e := hfa.symm.trans T.g_answers
  have e : fa = T.A_answers := by
    have e := Option.some.inj e
    injection e
  subst e
  refine ⟨T.D_answers, fun s us hu => ?_, fun base _ _ => ok_answers T⟩
  obtain ⟨oc, od, kV, doc, pm, an, cdv, ct, osl, ed, _, _⟩ := T.f_answers.ex
  rw [ed]
  exact match us, hu with | [_], _ => .of_eq rfl
end
end XW
/-! Names that the head would lay long proofs at (twins of the written objects): they are held here, and the head goes on without. -/
theorem PySem.W.Fast.tw13224399972192102129 : True := trivial
theorem PySem.W.Fast.tw17904657164026201075 : True := trivial
theorem PySem.W.Fast.tw17246106435342196713 : True := trivial
theorem PySem.W.Fast.tw8518384183965383811 : True := trivial
theorem PySem.W.Fast.tw15290881514686840724 : True := trivial
theorem PySem.W.Fast.tw11118266470847400287 : True := trivial
theorem PySem.W.Fast.tw16248048938518678358 : True := trivial
theorem PySem.W.Fast.tw13005794645548368812 : True := trivial
theorem PySem.W.Fast.tw15047836591348859140 : True := trivial
theorem PySem.W.Fast.tw4716802424756079213 : True := trivial
theorem PySem.W.Fast.tw16271834527270375477 : True := trivial
theorem PySem.W.Fast.tw2966701214438367 : True := trivial
theorem PySem.W.Fast.tw16018736732863751678 : True := trivial
theorem PySem.W.Fast.tw17924917034334651504 : True := trivial
theorem PySem.W.Fast.tw13065419339716145790 : True := trivial
theorem PySem.W.Fast.tw10557694013276435165 : True := trivial
theorem PySem.W.Fast.tw6354404668549585047 : True := trivial
theorem PySem.W.Fast.tw10462436131766784178 : True := trivial
theorem PySem.W.Fast.tw13528714732270289792 : True := trivial
theorem PySem.W.Fast.tw16045819275573801484 : True := trivial
theorem PySem.W.Fast.tw17205245487736273608 : True := trivial
theorem PySem.W.Fast.tw6759047330556649547 : True := trivial
theorem PySem.W.Fast.tw841903268065945188 : True := trivial
theorem PySem.W.Fast.tw3600829563969723188 : True := trivial
theorem PySem.W.Fast.tw5099300112537681062 : True := trivial
theorem PySem.W.Fast.tw16701087351409187370 : True := trivial
theorem PySem.W.Fast.tw9734472259033219400 : True := trivial
theorem PySem.W.Fast.tw15868585569257467330 : True := trivial
theorem PySem.W.Fast.tw15794409877668202008 : True := trivial
theorem PySem.W.Fast.tw7696826421419007091 : True := trivial
theorem PySem.W.Fast.tw16235136076757462154 : True := trivial
theorem PySem.W.Fast.tw8893017112668838884 : True := trivial
theorem PySem.W.Fast.tw2731099579573800552 : True := trivial
theorem PySem.W.Fast.tw13264132131574901760 : True := trivial
theorem PySem.W.Fast.tw10625981824813877477 : True := trivial
theorem PySem.W.Fast.tw8162704110528304176 : True := trivial
theorem PySem.W.Fast.tw14277238880714653353 : True := trivial
theorem PySem.W.Fast.tw11277162262123862705 : True := trivial
theorem PySem.W.Fast.tw5054156364488617646 : True := trivial
theorem PySem.W.Fast.tw4953544172139818927 : True := trivial
theorem PySem.W.Fast.tw263345894770465264 : True := trivial
theorem PySem.W.Fast.tw5051065454055320851 : True := trivial
theorem PySem.W.Fast.tw9736489083072162493 : True := trivial
theorem PySem.W.Fast.tw1952174669884901594 : True := trivial
theorem PySem.W.Fast.tw1390764940125423052 : True := trivial
theorem PySem.W.Fast.tw5374931314397655137 : True := trivial
theorem PySem.W.Fast.tw15600205859821667619 : True := trivial
theorem PySem.W.Fast.tw16682339568980620404 : True := trivial
theorem PySem.W.Fast.tw8106217626112393070 : True := trivial
theorem PySem.W.Fast.tw14031914147263044882 : True := trivial
theorem PySem.W.Fast.tw13456258876728284018 : True := trivial
theorem PySem.W.Fast.tw18395665556629276667 : True := trivial
theorem PySem.W.Fast.tw3298983227034991853 : True := trivial
theorem PySem.W.Fast.tw18294563818357355467 : True := trivial
theorem PySem.W.Fast.tw11403979642073959959 : True := trivial
theorem PySem.W.Fast.tw5389530069698572035 : True := trivial
theorem PySem.W.Fast.tw6793160138531233488 : True := trivial
theorem PySem.W.Fast.tw14918025292756062533 : True := trivial
theorem PySem.W.Fast.tw14000626415841722913 : True := trivial
theorem PySem.W.Fast.tw3619785753452283194 : True := trivial
theorem PySem.W.Fast.tw5700480360759666540 : True := trivial
theorem PySem.W.Fast.tw840257994681900207 : True := trivial
theorem PySem.W.Fast.tw13410934689565148728 : True := trivial
theorem PySem.W.Fast.tw12974779863798178250 : True := trivial
theorem PySem.W.Fast.tw12970264113253678157 : True := trivial
theorem PySem.W.Fast.tw1240637273020688976 : True := trivial
theorem PySem.W.Fast.tw8289827760884118228 : True := trivial
theorem PySem.W.Fast.tw14485715382587138441 : True := trivial
theorem PySem.W.Fast.tw15518211037652491144 : True := trivial
theorem PySem.W.Fast.tw4463592950200404245 : True := trivial
theorem PySem.W.Fast.tw10600343711971628065 : True := trivial
theorem PySem.W.Fast.tw12768229062318146892 : True := trivial
theorem PySem.W.Fast.tw10352702969940939401 : True := trivial
theorem PySem.W.Fast.tw11549305078040049590 : True := trivial
theorem PySem.W.Fast.tw1408173159654471179 : True := trivial
theorem PySem.W.Fast.tw3593086431736875853 : True := trivial
theorem PySem.W.Fast.tw10612803348219442374 : True := trivial
theorem PySem.W.Fast.tw17364962729143948390 : True := trivial
theorem PySem.W.Fast.tw30375347971412956 : True := trivial
theorem PySem.W.Fast.tw2444353105520579366 : True := trivial
theorem PySem.W.Fast.tw13894376811406630493 : True := trivial
theorem PySem.W.Fast.tw12461739503316558661 : True := trivial
theorem PySem.W.Fast.tw2971728661255418287 : True := trivial
theorem PySem.W.Fast.tw6525409223621158470 : True := trivial
theorem PySem.W.Fast.tw4616613971538628109 : True := trivial
theorem PySem.W.Fast.tw3164000584220565340 : True := trivial
theorem PySem.W.Fast.tw3921717182093329780 : True := trivial
theorem PySem.W.Fast.tw18122542631779021181 : True := trivial
theorem PySem.W.Fast.tw3587060152187095291 : True := trivial
theorem PySem.W.Fast.tw8374648362899478690 : True := trivial
theorem PySem.W.Fast.tw2973380408215863090 : True := trivial
theorem PySem.W.Fast.tw4864718857675843830 : True := trivial
theorem PySem.W.Fast.tw2394996425358731035 : True := trivial
theorem PySem.W.Fast.tw12384029329076935767 : True := trivial
theorem PySem.W.Fast.tw2597934986477722570 : True := trivial
theorem PySem.W.Fast.tw16180868289175717066 : True := trivial
theorem PySem.W.Fast.tw4041441731600085259 : True := trivial
theorem PySem.W.Fast.tw8805823566090299504 : True := trivial
theorem PySem.W.Fast.tw15967845321218353244 : True := trivial
theorem PySem.W.Fast.tw6500968499812422297 : True := trivial
theorem PySem.W.Fast.tw15881660020076251501 : True := trivial
theorem PySem.W.Fast.tw14103431970678378009 : True := trivial
theorem PySem.W.Fast.tw15732006319024683649 : True := trivial
theorem PySem.W.Fast.tw3955397299831459925 : True := trivial
theorem PySem.W.Fast.tw2593253663338248140 : True := trivial
theorem PySem.W.Fast.tw11035774352429358268 : True := trivial
theorem PySem.W.Fast.tw12230654415698677673 : True := trivial
theorem PySem.W.Fast.tw1447615482385063572 : True := trivial
theorem PySem.W.Fast.tw13628432571577557604 : True := trivial
theorem PySem.W.Fast.tw2979997741249482978 : True := trivial
theorem PySem.W.Fast.tw14473932775626066097 : True := trivial
theorem PySem.W.Fast.tw10368887194692417129 : True := trivial
theorem PySem.W.Fast.tw3988792281519808002 : True := trivial
theorem PySem.W.Fast.tw2785465576372098981 : True := trivial
theorem PySem.W.Fast.tw16145842656038011961 : True := trivial
theorem PySem.W.Fast.tw13247394794544830413 : True := trivial
theorem PySem.W.Fast.tw9634470273570703992 : True := trivial
theorem PySem.W.Fast.tw3542814553481780898 : True := trivial
theorem PySem.W.Fast.tw8862704180770246525 : True := trivial
theorem PySem.W.Fast.tw14501642950564002733 : True := trivial
theorem PySem.W.Fast.tw14183729411638830861 : True := trivial
theorem PySem.W.Fast.tw2748790500652107478 : True := trivial
theorem PySem.W.Fast.tw15123347871028966873 : True := trivial
theorem PySem.W.Fast.tw13451238753593656331 : True := trivial
theorem PySem.W.Fast.tw3405470181721509964 : True := trivial
theorem PySem.W.Fast.tw16183111092370949877 : True := trivial
theorem PySem.W.Fast.tw3402259941183156298 : True := trivial
theorem PySem.W.Fast.tw6411403275753294858 : True := trivial
theorem PySem.W.Fast.tw15577690597093641304 : True := trivial
theorem PySem.W.Fast.tw6875539508616933519 : True := trivial
theorem PySem.W.Fast.tw9921176956639400767 : True := trivial
theorem PySem.W.Fast.tw14691724309771276300 : True := trivial
theorem PySem.W.Fast.tw11645694481238010957 : True := trivial
theorem PySem.W.Fast.tw5365829847873671310 : True := trivial
theorem PySem.W.Fast.tw4877736967278365690 : True := trivial
theorem PySem.W.Fast.tw11989948172669799339 : True := trivial
theorem PySem.W.Fast.tw17817869636178526073 : True := trivial
theorem PySem.W.Fast.tw7689373287947038886 : True := trivial
theorem PySem.W.Fast.tw17727930809709027935 : True := trivial
theorem PySem.W.Fast.tw15622333003630000257 : True := trivial
theorem PySem.W.Fast.tw12791195639856571074 : True := trivial
theorem PySem.W.Fast.tw1954618268862029302 : True := trivial
theorem PySem.W.Fast.tw14985708173838160395 : True := trivial
theorem PySem.W.Fast.tw252903159393466406 : True := trivial
theorem PySem.W.Fast.tw15803873050787649416 : True := trivial
theorem PySem.W.Fast.tw4312041099428633681 : True := trivial
theorem PySem.W.Fast.tw11110301891254140857 : True := trivial
theorem PySem.W.Fast.tw2033622223172038773 : True := trivial
theorem PySem.W.Fast.tw16977097412642918569 : True := trivial
theorem PySem.W.Fast.tw5650012884422079558 : True := trivial
theorem PySem.W.Fast.tw14943244255583081305 : True := trivial
theorem PySem.W.Fast.tw5859157359066631918 : True := trivial
theorem PySem.W.Fast.tw11559920946869609975 : True := trivial
theorem PySem.W.Fast.tw6832630785631750034 : True := trivial
theorem PySem.W.Fast.tw13283438596137858343 : True := trivial
theorem PySem.W.Fast.tw11562180096739511643 : True := trivial
theorem PySem.W.Fast.tw10120060805537860517 : True := trivial
theorem PySem.W.Fast.tw10712889354081762276 : True := trivial
theorem PySem.W.Fast.tw14450571508665962214 : True := trivial
theorem PySem.W.Fast.tw7070932310908850178 : True := trivial
theorem PySem.W.Fast.tw5971969989361735121 : True := trivial
theorem PySem.W.Fast.tw5493211574517973668 : True := trivial
theorem PySem.W.Fast.tw10729442341783741797 : True := trivial
theorem PySem.W.Fast.tw8778268199092607712 : True := trivial
theorem PySem.W.Fast.tw16601780068681487093 : True := trivial
theorem PySem.W.Fast.tw10069744399138071397 : True := trivial
theorem PySem.W.Fast.tw13375052695889606626 : True := trivial
theorem PySem.W.Fast.tw2690295669307449702 : True := trivial
theorem PySem.W.Fast.tw4154078592319344191 : True := trivial
theorem PySem.W.Fast.tw3863019180930134236 : True := trivial
theorem PySem.W.Fast.tw4720311434602175492 : True := trivial
theorem PySem.W.Fast.tw11866159106625038952 : True := trivial
theorem PySem.W.Fast.tw4160373042716266876 : True := trivial
theorem PySem.W.Fast.tw14788902414004175652 : True := trivial
theorem PySem.W.Fast.tw3360238818211414941 : True := trivial
theorem PySem.W.Fast.tw9348405867233756578 : True := trivial
theorem PySem.W.Fast.tw17446364998284563625 : True := trivial
theorem PySem.W.Fast.tw3022972368125383312 : True := trivial
theorem PySem.W.Fast.tw9586269661292238260 : True := trivial
theorem PySem.W.Fast.tw13297261331503006022 : True := trivial
theorem PySem.W.Fast.tw13211103079581400577 : True := trivial
theorem PySem.W.Fast.tw17078230914415808902 : True := trivial
theorem PySem.W.Fast.tw400997014301017489 : True := trivial
theorem PySem.W.Fast.tw17870980153758080227 : True := trivial
theorem PySem.W.Fast.tw6734914597831518672 : True := trivial
theorem PySem.W.Fast.tw13239519200362441217 : True := trivial
theorem PySem.W.Fast.tw10926110906845098992 : True := trivial
theorem PySem.W.Fast.tw5124457701010217624 : True := trivial
theorem PySem.W.Fast.tw6589491099761096386 : True := trivial
theorem PySem.W.Fast.tw2355603480609268145 : True := trivial
theorem PySem.W.Fast.tw17568864409012990475 : True := trivial
theorem PySem.W.Fast.tw2927751625218146905 : True := trivial
theorem PySem.W.Fast.tw16224968822319236520 : True := trivial
theorem PySem.W.Fast.tw12770022804373556408 : True := trivial
theorem PySem.W.Fast.tw15098948604839020552 : True := trivial
theorem PySem.W.Fast.tw3471526049835400508 : True := trivial
theorem PySem.W.Fast.tw6561122811763838859 : True := trivial
theorem PySem.W.Fast.tw10055109763240293452 : True := trivial
theorem PySem.W.Fast.tw11778021287721142319 : True := trivial
theorem PySem.W.Fast.tw6126839638263346675 : True := trivial
theorem PySem.W.Fast.tw12829232825686074614 : True := trivial
theorem PySem.W.Fast.tw14253380031803002589 : True := trivial
theorem PySem.W.Fast.tw8483828255764900257 : True := trivial
theorem PySem.W.Fast.tw12315560441445871537 : True := trivial
theorem PySem.W.Fast.tw17139859112156132257 : True := trivial
theorem PySem.W.Fast.tw9836856852830285053 : True := trivial
theorem PySem.W.Fast.tw8984458421206177996 : True := trivial
theorem PySem.W.Fast.tw1020202359129418779 : True := trivial
theorem PySem.W.Fast.tw6764611814182397212 : True := trivial
theorem PySem.W.Fast.tw13899073549020033197 : True := trivial
theorem PySem.W.Fast.tw14878895248136878264 : True := trivial
theorem PySem.W.Fast.tw13711621664386004577 : True := trivial
theorem PySem.W.Fast.tw12570163560481166048 : True := trivial
theorem PySem.W.Fast.tw730081395023687332 : True := trivial
theorem PySem.W.Fast.tw6786305028153451323 : True := trivial
theorem PySem.W.Fast.tw9730390969209879266 : True := trivial
theorem PySem.W.Fast.tw10602690703450823259 : True := trivial
theorem PySem.W.Fast.tw10283589958128814714 : True := trivial
theorem PySem.W.Fast.tw4408413408241714820 : True := trivial
theorem PySem.W.Fast.tw17099675936222712188 : True := trivial
theorem PySem.W.Fast.tw9013357101423679359 : True := trivial
theorem PySem.W.Fast.tw4216694307027416647 : True := trivial
theorem PySem.W.Fast.tw2592530533097848498 : True := trivial
theorem PySem.W.Fast.tw5780040681045177687 : True := trivial
theorem PySem.W.Fast.tw3054136497413657180 : True := trivial
theorem PySem.W.Fast.tw16399696498007133959 : True := trivial
theorem PySem.W.Fast.tw11236769556608466158 : True := trivial
theorem PySem.W.Fast.tw659545030006924313 : True := trivial
theorem PySem.W.Fast.tw1550380232243890186 : True := trivial
theorem PySem.W.Fast.tw5415618500281354652 : True := trivial
theorem PySem.W.Fast.tw11243718912746545430 : True := trivial
theorem PySem.W.Fast.tw9283471167186494717 : True := trivial
theorem PySem.W.Fast.tw3179689471473472372 : True := trivial
theorem PySem.W.Fast.tw9922101210962521975 : True := trivial
theorem PySem.W.Fast.tw3470674699072295818 : True := trivial
theorem PySem.W.Fast.tw10770591479602878378 : True := trivial
theorem PySem.W.Fast.tw2759671303993500047 : True := trivial
theorem PySem.W.Fast.tw6682925811596102742 : True := trivial
theorem PySem.W.Fast.tw8489803704172085171 : True := trivial
theorem PySem.W.Fast.tw10611071545797115683 : True := trivial
theorem PySem.W.Fast.tw2508503058257599934 : True := trivial
theorem PySem.W.Fast.tw18284364273446542713 : True := trivial
theorem PySem.W.Fast.tw3498900766989950815 : True := trivial
theorem PySem.W.Fast.tw6918392299773246508 : True := trivial
theorem PySem.W.Fast.tw919990242547860477 : True := trivial
theorem PySem.W.Fast.tw12773776250970274643 : True := trivial
theorem PySem.W.Fast.tw8160938549840528015 : True := trivial
theorem PySem.W.Fast.tw9709322466185326249 : True := trivial
theorem PySem.W.Fast.tw598680257440004915 : True := trivial
theorem PySem.W.Fast.tw15571462109382848007 : True := trivial
theorem PySem.W.Fast.tw15471999872628081540 : True := trivial
theorem PySem.W.Fast.tw15574293725963688828 : True := trivial
theorem PySem.W.Fast.tw11734252420048458084 : True := trivial
theorem PySem.W.Fast.tw15739616687410764385 : True := trivial
theorem PySem.W.Fast.tw12021608057259098915 : True := trivial
theorem PySem.W.Fast.tw3403751007469588077 : True := trivial
theorem PySem.W.Fast.tw17702989991169071344 : True := trivial
theorem PySem.W.Fast.tw7378340701798072238 : True := trivial
theorem PySem.W.Fast.tw7688817183196123559 : True := trivial
theorem PySem.W.Fast.tw11649339376547412644 : True := trivial
theorem PySem.W.Fast.tw13875970554820002090 : True := trivial
theorem PySem.W.Fast.tw3202967874694951057 : True := trivial
theorem PySem.W.Fast.tw3075245301000819812 : True := trivial
theorem PySem.W.Fast.tw9953147655696730884 : True := trivial
theorem PySem.W.Fast.tw7526213110518048626 : True := trivial
theorem PySem.W.Fast.tw11989672049197311155 : True := trivial
theorem PySem.W.Fast.tw16671578678699826540 : True := trivial
theorem PySem.W.Fast.tw4505688857981917765 : True := trivial
theorem PySem.W.Fast.tw12404632959461495912 : True := trivial
theorem PySem.W.Fast.tw5186559288084705976 : True := trivial
theorem PySem.W.Fast.tw3042420130275656445 : True := trivial
theorem PySem.W.Fast.tw17176949910007543815 : True := trivial
theorem PySem.W.Fast.tw5581650038316837351 : True := trivial
theorem PySem.W.Fast.tw10849390044525686747 : True := trivial
theorem PySem.W.Fast.tw4623126944494567061 : True := trivial
theorem PySem.W.Fast.tw14726693481507741875 : True := trivial
theorem PySem.W.Fast.tw12115767907450581675 : True := trivial
theorem PySem.W.Fast.tw17355474527407201733 : True := trivial
theorem PySem.W.Fast.tw6222354212502188362 : True := trivial
theorem PySem.W.Fast.tw1609905203900476292 : True := trivial
theorem PySem.W.Fast.tw10434202759672866378 : True := trivial
theorem PySem.W.Fast.tw17474497681754530380 : True := trivial
theorem PySem.W.Fast.tw18098164116724941709 : True := trivial
theorem PySem.W.Fast.tw8929955256742686118 : True := trivial
theorem PySem.W.Fast.tw12541493278890760044 : True := trivial
theorem PySem.W.Fast.tw5900690725103850056 : True := trivial
theorem PySem.W.Fast.tw13331414010766063996 : True := trivial
theorem PySem.W.Fast.tw3623585559573316353 : True := trivial
theorem PySem.W.Fast.tw2822963636999773002 : True := trivial
theorem PySem.W.Fast.tw2321987603596846276 : True := trivial
theorem PySem.W.Fast.tw17492715613492890959 : True := trivial
theorem PySem.W.Fast.tw4135485435075041650 : True := trivial
theorem PySem.W.Fast.tw2644491936561093296 : True := trivial
theorem PySem.W.Fast.tw16465607211099444230 : True := trivial
theorem PySem.W.Fast.tw17104346082051537548 : True := trivial
theorem PySem.W.Fast.tw8008290205324398228 : True := trivial
theorem PySem.W.Fast.tw7148374994398780820 : True := trivial
theorem PySem.W.Fast.tw17037200401161358489 : True := trivial
theorem PySem.W.Fast.tw7111695329860708572 : True := trivial
theorem PySem.W.Fast.tw13710937784671961805 : True := trivial
theorem PySem.W.Fast.tw11072312702039730600 : True := trivial
theorem PySem.W.Fast.tw11830247441617401025 : True := trivial
theorem PySem.W.Fast.tw10901254758550693848 : True := trivial
theorem PySem.W.Fast.tw14555357552544235975 : True := trivial
theorem PySem.W.Fast.tw5265751391324440442 : True := trivial
theorem PySem.W.Fast.tw14278196348977268283 : True := trivial
theorem PySem.W.Fast.tw1537483591877457198 : True := trivial
theorem PySem.W.Fast.tw12968276806914572632 : True := trivial
theorem PySem.W.Fast.tw7850164569694437017 : True := trivial
theorem PySem.W.Fast.tw13220212082438863167 : True := trivial
theorem PySem.W.Fast.tw7409466643738460804 : True := trivial
theorem PySem.W.Fast.tw14812088681594692373 : True := trivial
theorem PySem.W.Fast.tw4578241001031592606 : True := trivial
theorem PySem.W.Fast.tw6766450479497117177 : True := trivial
theorem PySem.W.Fast.tw16395381105988756561 : True := trivial
theorem PySem.W.Fast.tw11363210205439650028 : True := trivial
theorem PySem.W.Fast.tw6011098342061135157 : True := trivial
theorem PySem.W.Fast.tw7737520176754324250 : True := trivial
theorem PySem.W.Fast.tw15851046507699055355 : True := trivial
theorem PySem.W.Fast.tw13613914644137092048 : True := trivial
theorem PySem.W.Fast.tw6715232277829731225 : True := trivial
theorem PySem.W.Fast.tw12863620780468669303 : True := trivial
theorem PySem.W.Fast.tw4490760695907130831 : True := trivial
theorem PySem.W.Fast.tw13425535466688083195 : True := trivial
theorem PySem.W.Fast.tw8836685036312219924 : True := trivial
theorem PySem.W.Fast.tw14025928487119572091 : True := trivial
theorem PySem.W.Fast.tw6397903860643722165 : True := trivial
theorem PySem.W.Fast.tw17722150738846748191 : True := trivial
theorem PySem.W.Fast.tw1994724848294308221 : True := trivial
theorem PySem.W.Fast.tw12873968703114966756 : True := trivial
theorem PySem.W.Fast.tw919490420014603375 : True := trivial
theorem PySem.W.Fast.tw14472143955504114672 : True := trivial
theorem PySem.W.Fast.tw18023751959600200634 : True := trivial
theorem PySem.W.Fast.tw10749910263702425290 : True := trivial
theorem PySem.W.Fast.tw13379822329865291840 : True := trivial
theorem PySem.W.Fast.tw6525609203729175819 : True := trivial
theorem PySem.W.Fast.tw12987587043105276743 : True := trivial
theorem PySem.W.Fast.tw7922888478861250510 : True := trivial
theorem PySem.W.Fast.tw3897148290757649043 : True := trivial
theorem PySem.W.Fast.tw13128336828119455659 : True := trivial
theorem PySem.W.Fast.tw9001737169956604843 : True := trivial
theorem PySem.W.Fast.tw6847981167811700362 : True := trivial
theorem PySem.W.Fast.tw7957059454121546809 : True := trivial
theorem PySem.W.Fast.tw9824886959634901157 : True := trivial
theorem PySem.W.Fast.tw1829374499748937889 : True := trivial
theorem PySem.W.Fast.tw16870381305374814432 : True := trivial
theorem PySem.W.Fast.tw5981168449225412362 : True := trivial
theorem PySem.W.Fast.tw17969251072751233235 : True := trivial
theorem PySem.W.Fast.tw12485164012589005091 : True := trivial
theorem PySem.W.Fast.tw6369389789036012730 : True := trivial
theorem PySem.W.Fast.tw16983146067949767030 : True := trivial
theorem PySem.W.Fast.tw2231271075992103166 : True := trivial
theorem PySem.W.Fast.tw5314811179015955952 : True := trivial
theorem PySem.W.Fast.tw2888710656432009282 : True := trivial
theorem PySem.W.Fast.tw17492034694337302674 : True := trivial
theorem PySem.W.Fast.tw14275554993531216050 : True := trivial
theorem PySem.W.Fast.tw17138141740753415995 : True := trivial
theorem PySem.W.Fast.tw14486395014350667492 : True := trivial
theorem PySem.W.Fast.tw14263923933437533474 : True := trivial
theorem PySem.W.Fast.tw7738135178209046668 : True := trivial
theorem PySem.W.Fast.tw1468722863870183321 : True := trivial
theorem PySem.W.Fast.tw15102309571323835196 : True := trivial
theorem PySem.W.Fast.tw11925521880519128383 : True := trivial
theorem PySem.W.Fast.tw2991525647910450378 : True := trivial
theorem PySem.W.Fast.tw7662130756551325444 : True := trivial
theorem PySem.W.Fast.tw18076642601831686462 : True := trivial
theorem PySem.W.Fast.tw15591357059777020403 : True := trivial
theorem PySem.W.Fast.tw18333688399544848690 : True := trivial
theorem PySem.W.Fast.tw10133257438297252944 : True := trivial
theorem PySem.W.Fast.tw10976278997110421003 : True := trivial
theorem PySem.W.Fast.tw16195986529965475159 : True := trivial
theorem PySem.W.Fast.tw9464495967510359864 : True := trivial
theorem PySem.W.Fast.tw7908919253572443672 : True := trivial
theorem PySem.W.Fast.tw17674082733702542682 : True := trivial
theorem PySem.W.Fast.tw3457383754653201233 : True := trivial
theorem PySem.W.Fast.tw17611626157707222779 : True := trivial
theorem PySem.W.Fast.tw2970343329205277168 : True := trivial
theorem PySem.W.Fast.tw15624934803854817950 : True := trivial
theorem PySem.W.Fast.tw9212384546659414407 : True := trivial
theorem PySem.W.Fast.tw8020409782968634057 : True := trivial
theorem PySem.W.Fast.tw4659121448466474278 : True := trivial
theorem PySem.W.Fast.tw15210883835212786097 : True := trivial
theorem PySem.W.Fast.tw8651810090844850509 : True := trivial
theorem PySem.W.Fast.tw2007384192759974752 : True := trivial
theorem PySem.W.Fast.tw12841253036461531563 : True := trivial
theorem PySem.W.Fast.tw2939929266481835346 : True := trivial
theorem PySem.W.Fast.tw7994338846432285420 : True := trivial
theorem PySem.W.Fast.tw8246686797137895711 : True := trivial
theorem PySem.W.Fast.tw56704277021597985 : True := trivial
theorem PySem.W.Fast.tw15548498634157701759 : True := trivial
theorem PySem.W.Fast.tw14729319776157687978 : True := trivial
theorem PySem.W.Fast.tw13158638641097569562 : True := trivial
theorem PySem.W.Fast.tw1212415227158355607 : True := trivial
theorem PySem.W.Fast.tw16447277129999716960 : True := trivial
theorem PySem.W.Fast.tw16848224736710821076 : True := trivial
theorem PySem.W.Fast.tw8800424614814456421 : True := trivial
theorem PySem.W.Fast.tw17346255082468105915 : True := trivial
theorem PySem.W.Fast.tw8087376537688461725 : True := trivial
theorem PySem.W.Fast.tw2690911534897700244 : True := trivial
theorem PySem.W.Fast.tw6863433422263892179 : True := trivial
theorem PySem.W.Fast.tw7230243259986043994 : True := trivial
theorem PySem.W.Fast.tw14708595689914210665 : True := trivial
theorem PySem.W.Fast.tw3697670069516124890 : True := trivial
theorem PySem.W.Fast.tw15364977499652316304 : True := trivial
theorem PySem.W.Fast.tw7885452638204414372 : True := trivial
theorem PySem.W.Fast.tw13948165376321885001 : True := trivial
theorem PySem.W.Fast.tw5436420719657788736 : True := trivial
theorem PySem.W.Fast.tw12183635923828552137 : True := trivial
theorem PySem.W.Fast.tw1247776531559991675 : True := trivial
theorem PySem.W.Fast.tw5048928987892217189 : True := trivial
theorem PySem.W.Fast.tw1520802977856444599 : True := trivial
theorem PySem.W.Fast.tw16205258009231205769 : True := trivial
theorem PySem.W.Fast.tw18446211760257892821 : True := trivial
theorem PySem.W.Fast.tw16409743661881916720 : True := trivial
theorem PySem.W.Fast.tw3966947186533728800 : True := trivial
theorem PySem.W.Fast.tw15512321413561527881 : True := trivial
theorem PySem.W.Fast.tw18407768500976855048 : True := trivial
theorem PySem.W.Fast.tw68107334610675542 : True := trivial
theorem PySem.W.Fast.tw3148500641984822457 : True := trivial
theorem PySem.W.Fast.tw1671796091710602795 : True := trivial
theorem PySem.W.Fast.tw18091654900428393864 : True := trivial
theorem PySem.W.Fast.tw7087233807839563123 : True := trivial
theorem PySem.W.Fast.tw13418961826242958893 : True := trivial
theorem PySem.W.Fast.tw8968473303060596180 : True := trivial
theorem PySem.W.Fast.tw11331555089578917018 : True := trivial
theorem PySem.W.Fast.tw9732877688642322947 : True := trivial
theorem PySem.W.Fast.tw8213518723873785028 : True := trivial
theorem PySem.W.Fast.tw4103778479934635488 : True := trivial
theorem PySem.W.Fast.tw2626991369511330972 : True := trivial
theorem PySem.W.Fast.tw945743616280513754 : True := trivial
theorem PySem.W.Fast.tw12101526208018488712 : True := trivial
theorem PySem.W.Fast.tw7832481227895771858 : True := trivial
theorem PySem.W.Fast.tw16014985576179239677 : True := trivial
theorem PySem.W.Fast.tw17832776020502276537 : True := trivial
theorem PySem.W.Fast.tw8314936984462881962 : True := trivial
theorem PySem.W.Fast.tw14376961737999484821 : True := trivial
theorem PySem.W.Fast.tw4255396577453837839 : True := trivial
theorem PySem.W.Fast.tw4254497969882103961 : True := trivial
theorem PySem.W.Fast.tw4414443896896718128 : True := trivial
theorem PySem.W.Fast.tw4646837754307414558 : True := trivial
theorem PySem.W.Fast.tw17911698292049841837 : True := trivial
theorem PySem.W.Fast.tw1535993536185052475 : True := trivial
theorem PySem.W.Fast.tw15427364251744762469 : True := trivial
theorem PySem.W.Fast.tw2524774214992627406 : True := trivial
theorem PySem.W.Fast.tw6609877527341832563 : True := trivial
theorem PySem.W.Fast.tw5274878447133412046 : True := trivial
theorem PySem.W.Fast.tw17392195735885884517 : True := trivial
theorem PySem.W.Fast.tw8689229513202309691 : True := trivial
theorem PySem.W.Fast.tw17705870288682400984 : True := trivial
theorem PySem.W.Fast.tw13018376508361759289 : True := trivial
theorem PySem.W.Fast.tw18256864944853726432 : True := trivial
theorem PySem.W.Fast.tw13586357543768060972 : True := trivial
theorem PySem.W.Fast.tw15466770938496378869 : True := trivial
theorem PySem.W.Fast.tw11329682192852943591 : True := trivial
theorem PySem.W.Fast.tw13955607187744164903 : True := trivial
theorem PySem.W.Fast.tw7871774451765098491 : True := trivial
theorem PySem.W.Fast.tw524354583128324292 : True := trivial
theorem PySem.W.Fast.tw2315261879539064105 : True := trivial
theorem PySem.W.Fast.tw1446016832270030220 : True := trivial
theorem PySem.W.Fast.tw3439349879763991172 : True := trivial
theorem PySem.W.Fast.tw11205030723225872505 : True := trivial
theorem PySem.W.Fast.tw11374514156748801990 : True := trivial
theorem PySem.W.Fast.tw4791536476700015559 : True := trivial
theorem PySem.W.Fast.tw2252415524622812583 : True := trivial
theorem PySem.W.Fast.tw4765537045028340485 : True := trivial
theorem PySem.W.Fast.tw17525988268989327090 : True := trivial
theorem PySem.W.Fast.tw3402361970663010045 : True := trivial
theorem PySem.W.Fast.tw8722501605712592903 : True := trivial
theorem PySem.W.Fast.tw17648284710391647791 : True := trivial
theorem PySem.W.Fast.tw15042447197650757707 : True := trivial
theorem PySem.W.Fast.tw15376792601068571283 : True := trivial
theorem PySem.W.Fast.tw16240634112157492443 : True := trivial
theorem PySem.W.Fast.tw18371390786844265978 : True := trivial
theorem PySem.W.Fast.tw18333116651133538241 : True := trivial
theorem PySem.W.Fast.tw14779948658397226100 : True := trivial
theorem PySem.W.Fast.tw17799449219459127772 : True := trivial
theorem PySem.W.Fast.tw3388834259060231391 : True := trivial
theorem PySem.W.Fast.tw5878504025680953089 : True := trivial
theorem PySem.W.Fast.tw1622514971996167971 : True := trivial
theorem PySem.W.Fast.tw17792194371627474231 : True := trivial
theorem PySem.W.Fast.tw4420095819634024605 : True := trivial
theorem PySem.W.Fast.tw9908255897704378735 : True := trivial
theorem PySem.W.Fast.tw12927770716176812347 : True := trivial
theorem PySem.W.Fast.tw2009798509265383151 : True := trivial
theorem PySem.W.Fast.tw11345598452666991013 : True := trivial
theorem PySem.W.Fast.tw10408880338932136945 : True := trivial
theorem PySem.W.Fast.tw2174171764078738827 : True := trivial
theorem PySem.W.Fast.tw8553823721221094272 : True := trivial
theorem PySem.W.Fast.tw16158410425488364708 : True := trivial
theorem PySem.W.Fast.tw3086412009668483926 : True := trivial
theorem PySem.W.Fast.tw15362546923547210847 : True := trivial
theorem PySem.W.Fast.tw18210947122872798200 : True := trivial
theorem PySem.W.Fast.tw14480965447194119201 : True := trivial
theorem PySem.W.Fast.tw2195532945961525990 : True := trivial
theorem PySem.W.Fast.tw17939111643043365940 : True := trivial
theorem PySem.W.Fast.tw105841560528892291 : True := trivial
theorem PySem.W.Fast.tw3573993645054499215 : True := trivial
theorem PySem.W.Fast.tw18162061427497049497 : True := trivial
theorem PySem.W.Fast.tw8763521373391826480 : True := trivial
theorem PySem.W.Fast.tw7954839976771845705 : True := trivial
theorem PySem.W.Fast.tw18085562671861883361 : True := trivial
theorem PySem.W.Fast.tw774582492661085436 : True := trivial
theorem PySem.W.Fast.tw15104170534362941421 : True := trivial
theorem PySem.W.Fast.tw7391890227590636412 : True := trivial
theorem PySem.W.Fast.tw7582921492658098330 : True := trivial
theorem PySem.W.Fast.tw4480133040615480355 : True := trivial
theorem PySem.W.Fast.tw7692860572862587049 : True := trivial
theorem PySem.W.Fast.tw12081228616547974159 : True := trivial
theorem PySem.W.Fast.tw1997464369005490860 : True := trivial
theorem PySem.W.Fast.tw12981489684969725400 : True := trivial
theorem PySem.W.Fast.tw18051415201559293088 : True := trivial
open PySem PySem.W PyProof.Rows
set_option maxRecDepth 100000 in
set_option maxHeartbeats 0 in
theorem PySem.Challenge.cw_exacttimes_s01_answers_holds : PySem.Challenge.rw_exacttimes_s01_answers.Holds := by
  w_on; k_headS; (case hw => exact ⟨[.list [.int 7]], by decide +kernel, by decide +kernel⟩)
  k_fillS
  refine L2.walk_specK (r := PySem.Challenge.rw_exacttimes_s01_answers) (k := 9) (CX := L2.CX0) (ps := ["calls"]) (sp := XW.spAnswers) (by decide +kernel) rfl rfl ⟨rfl, by decide, by decide⟩ (fun w h Y => PySem.W.kIn_of Y) ?F ?S (fun _ _ _ _ z => z)
  case F =>
    intro w mg fa h Y KX G hmg
    refine XW.fin_mk hmg ?_
    refine' XW.txt_of ?KMark ?KSwing ?KPedal ?KNote ?KScore ?KStretch ?KTempo ?KSound ?KEvent ?Fgreatest_divisor ?Fis_after ?Fnearest ?Ftold ?Fmark_tick ?Fmark_is_as_told ?Fspan_is_as_told ?Fpairs_fit ?Fswing_is_as_told ?Fnote_end ?Fnote_is_as_told ?Fhas_tick_in_common ?Fput_span ?Flater_mark ?Flater_swing ?Flater_pedal ?Flater_note ?Fstretches_of ?Fis_within ?Fswung_by ?Fnumbers_by_beginning ?Fties_of ?Flast_number ?Fplace_of_end ?Forder_of_striking ?Fare_alike ?Fend_one_another ?Fsounds_of ?Forder_of_events ?Fevents_of ?Fread_mark ?Fread_swing ?Fread_pedal ?Fread_note ?Fcounted ?Fanswer_time ?Fanswer_sounds ?Fanswer_events ?Fanswer_call ?Fanswers ?DNOT_AS_TOLD ?DIN_COMMON ?DTOO_MANY ?DLAST_TICK ?DGREATEST_QUARTER ?DLONGEST_QUARTER ?DGREATEST_SHARE ?DGREATEST_VOICE ?DGREATEST_PITCH ?DGREATEST_LOUDNESS ?DGREATEST_PART ?DMOST_MARKS ?DMOST_SPANS ?DMOST_NOTES ?DFIRST_TICKS ?DFIRST_LENGTH ?DBEGINNING ?DEND ?DBEGINS ?DMARK ?DSWING ?DPEDAL ?DNOTE ?DTIME ?DAT ?DSOUNDS ?DEVENTS ?DMOVED ?Dnb ?Nenumerate ?Nlen ?Nmax ?Nsorted ?Nzip
    case KMark =>
      refine' ⟨_, XW.cls_mk KX G ?a ?pg ?hd ?po ?sa ⟨?n_tick, ?n_length, ?n_even, trivial⟩, XW.ifn_mk (fun _ _ _ _ _ _ us hl => match us, hl with | [_, _, _, _], _ => rfl) ?a0 ?l0 ?c0 ?k0 ?i0 ?mk ?kc⟩
      (case a => k_is); (case pg => k_is); (case hd => k_is); (case po => k_is); (case sa => k_is); (case n_tick => k_is)
      (case n_length => k_is); (case n_even => k_is); (case a0 => k_is); (case l0 => k_is); (case c0 => k_is); (case k0 => k_is)
      (case i0 => k_is); (case mk => k_is); (case kc => k_is)
    case KSwing =>
      refine' ⟨_, XW.cls_mk KX G ?a ?pg ?hd ?po ?sa ⟨?n_first, ?n_last, ?n_pair, ?n_a, ?n_b, trivial⟩, XW.ifn_mk (fun _ _ _ _ _ _ us hl => match us, hl with | [_, _, _, _, _, _], _ => rfl) ?a0 ?l0 ?c0 ?k0 ?i0 ?mk ?kc⟩
      (case a => k_is); (case pg => k_is); (case hd => k_is); (case po => k_is); (case sa => k_is); (case n_first => k_is)
      (case n_last => k_is); (case n_pair => k_is); (case n_a => k_is); (case n_b => k_is); (case a0 => k_is); (case l0 => k_is)
      (case c0 => k_is); (case k0 => k_is); (case i0 => k_is); (case mk => k_is); (case kc => k_is)
    case KPedal =>
      refine' ⟨_, XW.cls_mk KX G ?a ?pg ?hd ?po ?sa ⟨?n_first, ?n_last, trivial⟩, XW.ifn_mk (fun _ _ _ _ _ _ us hl => match us, hl with | [_, _, _], _ => rfl) ?a0 ?l0 ?c0 ?k0 ?i0 ?mk ?kc⟩
      (case a => k_is); (case pg => k_is); (case hd => k_is); (case po => k_is); (case sa => k_is); (case n_first => k_is)
      (case n_last => k_is); (case a0 => k_is); (case l0 => k_is); (case c0 => k_is); (case k0 => k_is); (case i0 => k_is)
      (case mk => k_is); (case kc => k_is)
    case KNote =>
      refine' ⟨_, XW.cls_mk KX G ?a ?pg ?hd ?po ?sa ⟨?n_voice, ?n_pitch, ?n_first, ?n_length, ?n_loudness, ?n_part, ?n_tied, trivial⟩, XW.ifn_mk (fun _ _ _ _ _ _ us hl => match us, hl with | [_, _, _, _, _, _, _, _], _ => rfl) ?a0 ?l0 ?c0 ?k0 ?i0 ?mk ?kc⟩
      (case a => k_is); (case pg => k_is); (case hd => k_is); (case po => k_is); (case sa => k_is); (case n_voice => k_is)
      (case n_pitch => k_is); (case n_first => k_is); (case n_length => k_is); (case n_loudness => k_is); (case n_part => k_is); (case n_tied => k_is)
      (case a0 => k_is); (case l0 => k_is); (case c0 => k_is); (case k0 => k_is); (case i0 => k_is); (case mk => k_is)
      (case kc => k_is)
    case KScore =>
      refine' ⟨_, XW.cls_mk KX G ?a ?pg ?hd ?po ?sa ⟨?n_ticks, ?n_marks, ?n_swings, ?n_pedals, ?n_notes, trivial⟩, XW.ifn_mk (fun _ _ _ _ _ _ us hl => match us, hl with | [_], _ => rfl) ?a0 ?l0 ?c0 ?k0 ?i0 ?mk ?kc, XW.mfn_mk (fun _ _ _ _ _ _ us hl => match us, hl with | [_, _], _ => rfl) ?a1 ?l1 ?c1 ?k1 ?i1, XW.mfn_mk (fun _ _ _ _ _ _ us hl => match us, hl with | [_, _], _ => rfl) ?a2 ?l2 ?c2 ?k2 ?i2, XW.mfn_mk (fun _ _ _ _ _ _ us hl => match us, hl with | [_, _], _ => rfl) ?a3 ?l3 ?c3 ?k3 ?i3, XW.mfn_mk (fun _ _ _ _ _ _ us hl => match us, hl with | [_, _], _ => rfl) ?a4 ?l4 ?c4 ?k4 ?i4, XW.mfn_mk (fun _ _ _ _ _ _ us hl => match us, hl with | [_, _], _ => rfl) ?a5 ?l5 ?c5 ?k5 ?i5, XW.mfn_mk (fun _ _ _ _ _ _ us hl => match us, hl with | [_, _], _ => rfl) ?a6 ?l6 ?c6 ?k6 ?i6, XW.mfn_mk (fun _ _ _ _ _ _ us hl => match us, hl with | [_], _ => rfl) ?a7 ?l7 ?c7 ?k7 ?i7, XW.mfn_mk (fun _ _ _ _ _ _ us hl => match us, hl with | [_, _], _ => rfl) ?a8 ?l8 ?c8 ?k8 ?i8⟩
      (case a => k_is); (case pg => k_is); (case hd => k_is); (case po => k_is); (case sa => k_is); (case n_ticks => k_is)
      (case n_marks => k_is); (case n_swings => k_is); (case n_pedals => k_is); (case n_notes => k_is); (case a0 => k_is); (case l0 => k_is)
      (case c0 => k_is); (case k0 => k_is); (case i0 => k_is); (case mk => k_is); (case kc => k_is); (case a1 => k_is)
      (case l1 => k_is); (case c1 => k_is); (case k1 => k_is); (case i1 => k_is); (case a2 => k_is); (case l2 => k_is)
      (case c2 => k_is); (case k2 => k_is); (case i2 => k_is); (case a3 => k_is); (case l3 => k_is); (case c3 => k_is)
      (case k3 => k_is); (case i3 => k_is); (case a4 => k_is); (case l4 => k_is); (case c4 => k_is); (case k4 => k_is)
      (case i4 => k_is); (case a5 => k_is); (case l5 => k_is); (case c5 => k_is); (case k5 => k_is); (case i5 => k_is)
      (case a6 => k_is); (case l6 => k_is); (case c6 => k_is); (case k6 => k_is); (case i6 => k_is); (case a7 => k_is)
      (case l7 => k_is); (case c7 => k_is); (case k7 => k_is); (case i7 => k_is); (case a8 => k_is); (case l8 => k_is)
      (case c8 => k_is); (case k8 => k_is); (case i8 => k_is)
    case KStretch =>
      refine' ⟨_, XW.cls_mk KX G ?a ?pg ?hd ?po ?sa ⟨?n_tick, ?n_length, ?n_rise, ?n_over, ?n_passed, trivial⟩, XW.ifn_mk (fun _ _ _ _ _ _ us hl => match us, hl with | [_, _, _, _, _, _], _ => rfl) ?a0 ?l0 ?c0 ?k0 ?i0 ?mk ?kc⟩
      (case a => k_is); (case pg => k_is); (case hd => k_is); (case po => k_is); (case sa => k_is); (case n_tick => k_is)
      (case n_length => k_is); (case n_rise => k_is); (case n_over => k_is); (case n_passed => k_is); (case a0 => k_is); (case l0 => k_is)
      (case c0 => k_is); (case k0 => k_is); (case i0 => k_is); (case mk => k_is); (case kc => k_is)
    case KTempo =>
      refine' ⟨_, XW.cls_mk KX G ?a ?pg ?hd ?po ?sa ⟨?n_ticks, ?n_stretches, ?n_swings, trivial⟩, XW.ifn_mk (fun _ _ _ _ _ _ us hl => match us, hl with | [_, _], _ => rfl) ?a0 ?l0 ?c0 ?k0 ?i0 ?mk ?kc, XW.mfn_mk (fun _ _ _ _ _ _ us hl => match us, hl with | [_, _], _ => rfl) ?a1 ?l1 ?c1 ?k1 ?i1, XW.mfn_mk (fun _ _ _ _ _ _ us hl => match us, hl with | [_, _], _ => rfl) ?a2 ?l2 ?c2 ?k2 ?i2, XW.mfn_mk (fun _ _ _ _ _ _ us hl => match us, hl with | [_, _], _ => rfl) ?a3 ?l3 ?c3 ?k3 ?i3, XW.mfn_mk (fun _ _ _ _ _ _ us hl => match us, hl with | [_, _], _ => rfl) ?a4 ?l4 ?c4 ?k4 ?i4⟩
      (case a => k_is); (case pg => k_is); (case hd => k_is); (case po => k_is); (case sa => k_is); (case n_ticks => k_is)
      (case n_stretches => k_is); (case n_swings => k_is); (case a0 => k_is); (case l0 => k_is); (case c0 => k_is); (case k0 => k_is)
      (case i0 => k_is); (case mk => k_is); (case kc => k_is); (case a1 => k_is); (case l1 => k_is); (case c1 => k_is)
      (case k1 => k_is); (case i1 => k_is); (case a2 => k_is); (case l2 => k_is); (case c2 => k_is); (case k2 => k_is)
      (case i2 => k_is); (case a3 => k_is); (case l3 => k_is); (case c3 => k_is); (case k3 => k_is); (case i3 => k_is)
      (case a4 => k_is); (case l4 => k_is); (case c4 => k_is); (case k4 => k_is); (case i4 => k_is)
    case KSound =>
      refine' ⟨_, XW.cls_mk KX G ?a ?pg ?hd ?po ?sa ⟨?n_number, ?n_note, ?n_beginning, ?n_ending, trivial⟩, XW.ifn_mk (fun _ _ _ _ _ _ us hl => match us, hl with | [_, _, _, _], _ => rfl) ?a0 ?l0 ?c0 ?k0 ?i0 ?mk ?kc⟩
      (case a => k_is); (case pg => k_is); (case hd => k_is); (case po => k_is); (case sa => k_is); (case n_number => k_is)
      (case n_note => k_is); (case n_beginning => k_is); (case n_ending => k_is); (case a0 => k_is); (case l0 => k_is); (case c0 => k_is)
      (case k0 => k_is); (case i0 => k_is); (case mk => k_is); (case kc => k_is)
    case KEvent =>
      refine' ⟨_, XW.cls_mk KX G ?a ?pg ?hd ?po ?sa ⟨?n_time, ?n_kind, ?n_voice, ?n_pitch, ?n_loudness, ?n_number, trivial⟩, XW.ifn_mk (fun _ _ _ _ _ _ us hl => match us, hl with | [_, _, _, _], _ => rfl) ?a0 ?l0 ?c0 ?k0 ?i0 ?mk ?kc⟩
      (case a => k_is); (case pg => k_is); (case hd => k_is); (case po => k_is); (case sa => k_is); (case n_time => k_is)
      (case n_kind => k_is); (case n_voice => k_is); (case n_pitch => k_is); (case n_loudness => k_is); (case n_number => k_is); (case a0 => k_is)
      (case l0 => k_is); (case c0 => k_is); (case k0 => k_is); (case i0 => k_is); (case mk => k_is); (case kc => k_is)
    case Fgreatest_divisor =>
      refine' XW.gfn_mk KX G (fun _ _ _ _ _ _ us hl => match us, hl with | [_, _], _ => rfl) ?a ?l ?c ?k
      (case a => k_is); (case l => k_is); (case c => k_is); (case k => k_is)
    case Fis_after =>
      refine' XW.gfn_mk KX G (fun _ _ _ _ _ _ us hl => match us, hl with | [_, _], _ => rfl) ?a ?l ?c ?k
      (case a => k_is); (case l => k_is); (case c => k_is); (case k => k_is)
    case Fnearest =>
      refine' XW.gfn_mk KX G (fun _ _ _ _ _ _ us hl => match us, hl with | [_], _ => rfl) ?a ?l ?c ?k
      (case a => k_is); (case l => k_is); (case c => k_is); (case k => k_is)
    case Ftold =>
      refine' XW.gfn_mk KX G (fun _ _ _ _ _ _ us hl => match us, hl with | [_], _ => rfl) ?a ?l ?c ?k
      (case a => k_is); (case l => k_is); (case c => k_is); (case k => k_is)
    case Fmark_tick =>
      refine' XW.gfn_mk KX G (fun _ _ _ _ _ _ us hl => match us, hl with | [_], _ => rfl) ?a ?l ?c ?k
      (case a => k_is); (case l => k_is); (case c => k_is); (case k => k_is)
    case Fmark_is_as_told =>
      refine' XW.gfn_mk KX G (fun _ _ _ _ _ _ us hl => match us, hl with | [_], _ => rfl) ?a ?l ?c ?k
      (case a => k_is); (case l => k_is); (case c => k_is); (case k => k_is)
    case Fspan_is_as_told =>
      refine' XW.gfn_mk KX G (fun _ _ _ _ _ _ us hl => match us, hl with | [_], _ => rfl) ?a ?l ?c ?k
      (case a => k_is); (case l => k_is); (case c => k_is); (case k => k_is)
    case Fpairs_fit =>
      refine' XW.gfn_mk KX G (fun _ _ _ _ _ _ us hl => match us, hl with | [_], _ => rfl) ?a ?l ?c ?k
      (case a => k_is); (case l => k_is); (case c => k_is); (case k => k_is)
    case Fswing_is_as_told =>
      refine' XW.gfn_mk KX G (fun _ _ _ _ _ _ us hl => match us, hl with | [_], _ => rfl) ?a ?l ?c ?k
      (case a => k_is); (case l => k_is); (case c => k_is); (case k => k_is)
    case Fnote_end =>
      refine' XW.gfn_mk KX G (fun _ _ _ _ _ _ us hl => match us, hl with | [_], _ => rfl) ?a ?l ?c ?k
      (case a => k_is); (case l => k_is); (case c => k_is); (case k => k_is)
    case Fnote_is_as_told =>
      refine' XW.gfn_mk KX G (fun _ _ _ _ _ _ us hl => match us, hl with | [_], _ => rfl) ?a ?l ?c ?k
      (case a => k_is); (case l => k_is); (case c => k_is); (case k => k_is)
    case Fhas_tick_in_common =>
      refine' XW.gfn_mk KX G (fun _ _ _ _ _ _ us hl => match us, hl with | [_, _], _ => rfl) ?a ?l ?c ?k
      (case a => k_is); (case l => k_is); (case c => k_is); (case k => k_is)
    case Fput_span =>
      refine' XW.gfn_mk KX G (fun _ _ _ _ _ _ us hl => match us, hl with | [_, _], _ => rfl) ?a ?l ?c ?k
      (case a => k_is); (case l => k_is); (case c => k_is); (case k => k_is)
    case Flater_mark =>
      refine' XW.gfn_mk KX G (fun _ _ _ _ _ _ us hl => match us, hl with | [_, _], _ => rfl) ?a ?l ?c ?k
      (case a => k_is); (case l => k_is); (case c => k_is); (case k => k_is)
    case Flater_swing =>
      refine' XW.gfn_mk KX G (fun _ _ _ _ _ _ us hl => match us, hl with | [_, _], _ => rfl) ?a ?l ?c ?k
      (case a => k_is); (case l => k_is); (case c => k_is); (case k => k_is)
    case Flater_pedal =>
      refine' XW.gfn_mk KX G (fun _ _ _ _ _ _ us hl => match us, hl with | [_, _], _ => rfl) ?a ?l ?c ?k
      (case a => k_is); (case l => k_is); (case c => k_is); (case k => k_is)
    case Flater_note =>
      refine' XW.gfn_mk KX G (fun _ _ _ _ _ _ us hl => match us, hl with | [_, _], _ => rfl) ?a ?l ?c ?k
      (case a => k_is); (case l => k_is); (case c => k_is); (case k => k_is)
    case Fstretches_of =>
      refine' XW.gfn_mk KX G (fun _ _ _ _ _ _ us hl => match us, hl with | [_], _ => rfl) ?a ?l ?c ?k
      (case a => k_is); (case l => k_is); (case c => k_is); (case k => k_is)
    case Fis_within =>
      refine' XW.gfn_mk KX G (fun _ _ _ _ _ _ us hl => match us, hl with | [_, _], _ => rfl) ?a ?l ?c ?k
      (case a => k_is); (case l => k_is); (case c => k_is); (case k => k_is)
    case Fswung_by =>
      refine' XW.gfn_mk KX G (fun _ _ _ _ _ _ us hl => match us, hl with | [_, _], _ => rfl) ?a ?l ?c ?k
      (case a => k_is); (case l => k_is); (case c => k_is); (case k => k_is)
    case Fnumbers_by_beginning =>
      refine' XW.gfn_mk KX G (fun _ _ _ _ _ _ us hl => match us, hl with | [_], _ => rfl) ?a ?l ?c ?k
      (case a => k_is); (case l => k_is); (case c => k_is); (case k => k_is)
    case Fties_of =>
      refine' XW.gfn_mk KX G (fun _ _ _ _ _ _ us hl => match us, hl with | [_], _ => rfl) ?a ?l ?c ?k
      (case a => k_is); (case l => k_is); (case c => k_is); (case k => k_is)
    case Flast_number =>
      refine' XW.gfn_mk KX G (fun _ _ _ _ _ _ us hl => match us, hl with | [_, _], _ => rfl) ?a ?l ?c ?k
      (case a => k_is); (case l => k_is); (case c => k_is); (case k => k_is)
    case Fplace_of_end =>
      refine' XW.gfn_mk KX G (fun _ _ _ _ _ _ us hl => match us, hl with | [_, _], _ => rfl) ?a ?l ?c ?k
      (case a => k_is); (case l => k_is); (case c => k_is); (case k => k_is)
    case Forder_of_striking =>
      refine' XW.gfn_mk KX G (fun _ _ _ _ _ _ us hl => match us, hl with | [_], _ => rfl) ?a ?l ?c ?k
      (case a => k_is); (case l => k_is); (case c => k_is); (case k => k_is)
    case Fare_alike =>
      refine' XW.gfn_mk KX G (fun _ _ _ _ _ _ us hl => match us, hl with | [_, _], _ => rfl) ?a ?l ?c ?k
      (case a => k_is); (case l => k_is); (case c => k_is); (case k => k_is)
    case Fend_one_another =>
      refine' XW.gfn_mk KX G (fun _ _ _ _ _ _ us hl => match us, hl with | [_], _ => rfl) ?a ?l ?c ?k
      (case a => k_is); (case l => k_is); (case c => k_is); (case k => k_is)
    case Fsounds_of =>
      refine' XW.gfn_mk KX G (fun _ _ _ _ _ _ us hl => match us, hl with | [_], _ => rfl) ?a ?l ?c ?k
      (case a => k_is); (case l => k_is); (case c => k_is); (case k => k_is)
    case Forder_of_events =>
      refine' XW.gfn_mk KX G (fun _ _ _ _ _ _ us hl => match us, hl with | [_], _ => rfl) ?a ?l ?c ?k
      (case a => k_is); (case l => k_is); (case c => k_is); (case k => k_is)
    case Fevents_of =>
      refine' XW.gfn_mk KX G (fun _ _ _ _ _ _ us hl => match us, hl with | [_], _ => rfl) ?a ?l ?c ?k
      (case a => k_is); (case l => k_is); (case c => k_is); (case k => k_is)
    case Fread_mark =>
      refine' XW.gfn_mk KX G (fun _ _ _ _ _ _ us hl => match us, hl with | [_], _ => rfl) ?a ?l ?c ?k
      (case a => k_is); (case l => k_is); (case c => k_is); (case k => k_is)
    case Fread_swing =>
      refine' XW.gfn_mk KX G (fun _ _ _ _ _ _ us hl => match us, hl with | [_], _ => rfl) ?a ?l ?c ?k
      (case a => k_is); (case l => k_is); (case c => k_is); (case k => k_is)
    case Fread_pedal =>
      refine' XW.gfn_mk KX G (fun _ _ _ _ _ _ us hl => match us, hl with | [_], _ => rfl) ?a ?l ?c ?k
      (case a => k_is); (case l => k_is); (case c => k_is); (case k => k_is)
    case Fread_note =>
      refine' XW.gfn_mk KX G (fun _ _ _ _ _ _ us hl => match us, hl with | [_], _ => rfl) ?a ?l ?c ?k
      (case a => k_is); (case l => k_is); (case c => k_is); (case k => k_is)
    case Fcounted =>
      refine' XW.gfn_mk KX G (fun _ _ _ _ _ _ us hl => match us, hl with | [_], _ => rfl) ?a ?l ?c ?k
      (case a => k_is); (case l => k_is); (case c => k_is); (case k => k_is)
    case Fanswer_time =>
      refine' XW.gfn_mk KX G (fun _ _ _ _ _ _ us hl => match us, hl with | [_, _], _ => rfl) ?a ?l ?c ?k
      (case a => k_is); (case l => k_is); (case c => k_is); (case k => k_is)
    case Fanswer_sounds =>
      refine' XW.gfn_mk KX G (fun _ _ _ _ _ _ us hl => match us, hl with | [_], _ => rfl) ?a ?l ?c ?k
      (case a => k_is); (case l => k_is); (case c => k_is); (case k => k_is)
    case Fanswer_events =>
      refine' XW.gfn_mk KX G (fun _ _ _ _ _ _ us hl => match us, hl with | [_], _ => rfl) ?a ?l ?c ?k
      (case a => k_is); (case l => k_is); (case c => k_is); (case k => k_is)
    case Fanswer_call =>
      refine' XW.gfn_mk KX G (fun _ _ _ _ _ _ us hl => match us, hl with | [_, _, _], _ => rfl) ?a ?l ?c ?k
      (case a => k_is); (case l => k_is); (case c => k_is); (case k => k_is)
    case Fanswers =>
      refine' XW.gfn_mk KX G (fun _ _ _ _ _ _ us hl => match us, hl with | [_], _ => rfl) ?a ?l ?c ?k
      (case a => k_is); (case l => k_is); (case c => k_is); (case k => k_is)
    case DNOT_AS_TOLD =>
      refine' XW.con_mk KX G ?a
      (case a => k_is)
    case DIN_COMMON =>
      refine' XW.con_mk KX G ?a
      (case a => k_is)
    case DTOO_MANY =>
      refine' XW.con_mk KX G ?a
      (case a => k_is)
    case DLAST_TICK =>
      refine' XW.con_mk KX G ?a
      (case a => k_is)
    case DGREATEST_QUARTER =>
      refine' XW.con_mk KX G ?a
      (case a => k_is)
    case DLONGEST_QUARTER =>
      refine' XW.con_mk KX G ?a
      (case a => k_is)
    case DGREATEST_SHARE =>
      refine' XW.con_mk KX G ?a
      (case a => k_is)
    case DGREATEST_VOICE =>
      refine' XW.con_mk KX G ?a
      (case a => k_is)
    case DGREATEST_PITCH =>
      refine' XW.con_mk KX G ?a
      (case a => k_is)
    case DGREATEST_LOUDNESS =>
      refine' XW.con_mk KX G ?a
      (case a => k_is)
    case DGREATEST_PART =>
      refine' XW.con_mk KX G ?a
      (case a => k_is)
    case DMOST_MARKS =>
      refine' XW.con_mk KX G ?a
      (case a => k_is)
    case DMOST_SPANS =>
      refine' XW.con_mk KX G ?a
      (case a => k_is)
    case DMOST_NOTES =>
      refine' XW.con_mk KX G ?a
      (case a => k_is)
    case DFIRST_TICKS =>
      refine' XW.con_mk KX G ?a
      (case a => k_is)
    case DFIRST_LENGTH =>
      refine' XW.con_mk KX G ?a
      (case a => k_is)
    case DBEGINNING =>
      refine' XW.con_mk KX G ?a
      (case a => k_is)
    case DEND =>
      refine' XW.con_mk KX G ?a
      (case a => k_is)
    case DBEGINS =>
      refine' XW.con_mk KX G ?a
      (case a => k_is)
    case DMARK =>
      refine' XW.con_mk KX G ?a
      (case a => k_is)
    case DSWING =>
      refine' XW.con_mk KX G ?a
      (case a => k_is)
    case DPEDAL =>
      refine' XW.con_mk KX G ?a
      (case a => k_is)
    case DNOTE =>
      refine' XW.con_mk KX G ?a
      (case a => k_is)
    case DTIME =>
      refine' XW.con_mk KX G ?a
      (case a => k_is)
    case DAT =>
      refine' XW.con_mk KX G ?a
      (case a => k_is)
    case DSOUNDS =>
      refine' XW.con_mk KX G ?a
      (case a => k_is)
    case DEVENTS =>
      refine' XW.con_mk KX G ?a
      (case a => k_is)
    case DMOVED =>
      refine' XW.con_mk KX G ?a
      (case a => k_is)
    case Dnb =>
      refine' XW.nb_mk KX G ?a ?l
      (case a => k_is); (case l => k_is)
    case Nenumerate =>
      refine' PySem.W.mg_none_of KX G ?a
      (case a => k_is)
    case Nlen =>
      refine' PySem.W.mg_none_of KX G ?a
      (case a => k_is)
    case Nmax =>
      refine' PySem.W.mg_none_of KX G ?a
      (case a => k_is)
    case Nsorted =>
      refine' PySem.W.mg_none_of KX G ?a
      (case a => k_is)
    case Nzip =>
      refine' PySem.W.mg_none_of KX G ?a
      (case a => k_is)
  case S =>
    intro K H xs a hO hwi hask hx
    cases hx with
    | cons h1 h2 =>
      cases h2
      cases h1 with
      | lst hs ha =>
        have e := L2.ints_dw a.1 _ ha
        subst e
        exact ⟨_, a.1, rfl, hs, hask, fun H' p hp => .lst (L2.SqL.of hp) (L2.dw_ints _)⟩
